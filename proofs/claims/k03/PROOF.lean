import PyProof.Rows.All
import Wide.All
import OpenK.AllK
import Wide.FinOn
import HandS.ForMost
import HandS.Evl
import HandS.Wide
import HandS.WideBits
import HandS.IsInst
import HandS.Conv
import HandS.Deep
import HandS.More
import HandS.Style
import HandS.SortInts
import HandS.SortRule
import HandS.TupSets
import HandS.DictTup
import HandS.ExcIs
import HandS.Flow
import HandS.Exc
import HandS.TryOnly
import HandS.ExcOwn
import HandS.WordsExc
import HandS.DictComp
import PySem.Challenge.RW_ringfloor_k03_parts
set_option Elab.async false
set_option linter.all false
set_option maxRecDepth 100000
namespace Ow
open PySem L2

/-! ### data, trees -/
/-- owned, shared (never changed), written (of the module, or known to the object) -/
inductive Fl where
  | o | s | w
  deriving DecidableEq
inductive Kd where
  | lst (o : Fl) | tup | dic (o : Fl) (ks : List Key) | dct (o : Fl) (ks : List (List Key))
@[simp] def Kd.own : Kd → Bool
  | .lst o => decide (o = .o)
  | .tup => false
  | .dic o _ => decide (o = .o)
  | .dct o _ => decide (o = .o)
@[simp] def Fl.frz : Fl → Fl
  | .w => .w
  | _ => .s
@[simp] def Kd.frz : Kd → Kd
  | .lst o => .lst o.frz
  | .tup => .tup
  | .dic o ks => .dic o.frz ks
  | .dct o ks => .dct o.frz ks
@[simp] def Kd.wri : Kd → Kd
  | .lst _ => .lst .w
  | .tup => .tup
  | .dic _ ks => .dic .w ks
  | .dct _ ks => .dct .w ks
def Kd.ho : Kd → List V → HO
  | .lst _, vs => .lst vs
  | .tup, vs => .tup vs
  | .dic _ ks, vs => .dK (ks.zip vs)
  | .dct _ ks, vs => .dT (ks.zip vs)
inductive T where
  | s (v : V)
  | n (k : Kd) (a : Addr) (ts : List T)
  | w (z : Bool) (k : Kd) (a : Addr) (ts : List T)
inductive D where
  | s (v : V)
  | n (k : Kd) (ds : List D)
abbrev Env := List (Option D)
abbrev TEnv := List (Option T)
def T.val : T → V
  | .s v => v
  | .n _ a _ => .ref a
  | .w _ _ a _ => .ref a
abbrev vals (ts : List T) : List V := ts.map T.val
/-- scalars are seen, references are not -/
@[simp] def scl : V → Bool
  | .non => true
  | .bl _ => true
  | .int _ => true
  | .str _ => true
  | _ => false
def hid (v : V) : V := if scl v = true then v else .byt #[]
theorem hid_scl {v : V} (h : scl v = true) : hid v = v := if_pos h
mutual
def T.er : T → D
  | .s v => .s (hid v)
  | .n k _ ts => .n k (erL ts)
  | .w _ k _ ts => .n k.wri (erL ts)
def erL : List T → List D
  | [] => []
  | t :: ts => t.er :: erL ts
end
mutual
def T.co (a : Addr) : T → Nat
  | .s _ => 0
  | .n k b ts => (if k.own = true ∧ b = a then 1 else 0) + coL a ts
  | .w _ _ _ ts => coL a ts
def coL (a : Addr) : List T → Nat
  | [] => 0
  | t :: ts => t.co a + coL a ts
end
mutual
def T.cu (a : Addr) : T → Nat
  | .s _ => 0
  | .n k b ts => (if k.own = false ∧ b = a then 1 else 0) + cuL a ts
  | .w z _ b ts => (if z = false ∧ b = a then 1 else 0) + cuL a ts
def cuL (a : Addr) : List T → Nat
  | [] => 0
  | t :: ts => t.cu a + cuL a ts
end
@[simp] def Kd.isw : Kd → Bool
  | .lst o => decide (o = .w)
  | .tup => false
  | .dic o _ => decide (o = .w)
  | .dct o _ => decide (o = .w)
def NodeOk (H : Hp) (k : Kd) (a : Addr) (vs : List V) : Prop := H a = some (k.ho vs) ∧ k.isw = false
/-- of the module (z), or known to the object -/
def WrOk (K : PySem.W.Frag) (H : Hp) (z : Bool) (k : Kd) (a : Addr) (vs : List V) : Prop := match z, k with
  | true, .lst _ => SqL K (fun _ => none) a vs
  | true, .tup => SqT K (fun _ => none) a vs
  | true, _ => False
  | false, k => ∃ o, H a = some (.frz o (k.ho vs))
mutual
def T.sat (K : PySem.W.Frag) (H : Hp) : T → Prop
  | .s _ => True
  | .n k a ts => NodeOk H k a (vals ts) ∧ satL K H ts
  | .w z k a ts => WrOk K H z k a (vals ts) ∧ satL K H ts
def satL (K : PySem.W.Frag) (H : Hp) : List T → Prop
  | [] => True
  | t :: ts => t.sat K H ∧ satL K H ts
end
section
variable {K : PySem.W.Frag} {H H' H0 H1 : Hp} {a : Addr} {t : T} {ts F : List T} {σ σ' : L2.St} {env env' : TEnv}

theorem erL_map : ∀ ts : List T, erL ts = ts.map T.er
  | [] => rfl
  | t :: ts => by rw [erL, erL_map ts, List.map_cons]
theorem erL_length (ts : List T) : (erL ts).length = ts.length := by rw [erL_map, List.length_map]
theorem satL_iff : ∀ {ts : List T}, satL K H ts ↔ ∀ t ∈ ts, t.sat K H
  | [] => by simp [satL]
  | t :: ts => by
    rw [satL, satL_iff (ts := ts)]
    simp
theorem coL_mem : ∀ {ts : List T} {t : T}, t ∈ ts → t.co a ≤ coL a ts
  | x :: ts, t, h => by
    rw [coL]
    rcases List.mem_cons.mp h with h | h
    · subst h; omega
    · have := coL_mem h; omega
theorem cuL_mem : ∀ {ts : List T} {t : T}, t ∈ ts → t.cu a ≤ cuL a ts
  | x :: ts, t, h => by
    rw [cuL]
    rcases List.mem_cons.mp h with h | h
    · subst h; omega
    · have := cuL_mem h; omega
theorem coL_append : ∀ {ts us : List T}, coL a (ts ++ us) = coL a ts + coL a us
  | [], us => by simp [coL]
  | t :: ts, us => by rw [List.cons_append, coL, coL, coL_append (ts := ts)]; omega
theorem cuL_append : ∀ {ts us : List T}, cuL a (ts ++ us) = cuL a ts + cuL a us
  | [], us => by simp [cuL]
  | t :: ts, us => by rw [List.cons_append, cuL, cuL, cuL_append (ts := ts)]; omega
theorem satL_append {us : List T} : satL K H (ts ++ us) ↔ satL K H ts ∧ satL K H us := by
  rw [satL_iff, satL_iff, satL_iff]
  constructor
  · intro h
    exact ⟨fun t ht => h t (List.mem_append.mpr (.inl ht)), fun t ht => h t (List.mem_append.mpr (.inr ht))⟩
  · rintro ⟨h1, h2⟩ t ht
    rcases List.mem_append.mp ht with h | h
    · exact h1 t h
    · exact h2 t h
/-- what a tree rests on stays -/
def Keeps (H H' : Hp) (c u : Addr → Nat) : Prop := ∀ a o, 0 < c a + u a → H a = some o → H' a = some o
theorem rd_keep {u : HO} (h : ∀ o, H a = some o → H' a = some o) (r : Rd H a u) : Rd H' a u := by
  rcases r with r | ⟨o, r⟩
  · exact .inl (h _ r)
  · exact .inr ⟨o, h _ r⟩
mutual
theorem sat_keep : ∀ (t : T), (∀ a o, 0 < t.co a + t.cu a → H a = some o → H' a = some o) → t.sat K H → t.sat K H'
  | .s _, _, _ => trivial
  | .n k a ts, hk, h => by
    obtain ⟨h1, h3⟩ := h
    have ha : ∀ o, H a = some o → H' a = some o := fun o => hk a o (by
      rw [T.co, T.cu]
      cases k.own <;> simp <;> omega)
    refine ⟨⟨ha _ h1.1, h1.2⟩, satL_keep ts (fun b o hb => hk b o ?_) h3⟩
    rw [T.co, T.cu]; omega
  | .w z k a ts, hk, h => by
    obtain ⟨h1, h3⟩ := h
    refine ⟨?_, satL_keep ts (fun b o hb => hk b o (by rw [T.co, T.cu]; omega)) h3⟩
    cases z with
    | true => cases k <;> exact h1
    | false =>
      obtain ⟨o, h1⟩ := h1
      exact ⟨o, hk a _ (by rw [T.co, T.cu]; simp; omega) h1⟩
theorem satL_keep : ∀ (ts : List T), (∀ a o, 0 < coL a ts + cuL a ts → H a = some o → H' a = some o) → satL K H ts → satL K H' ts
  | [], _, _ => trivial
  | t :: ts, hk, h => ⟨sat_keep t (fun a o q => hk a o (by rw [coL, cuL]; omega)) h.1, satL_keep ts (fun a o q => hk a o (by rw [coL, cuL]; omega)) h.2⟩
end

mutual
theorem co_some : ∀ (t : T), t.sat K H → 0 < t.co a → H a ≠ none
  | .s _, _, h => by rw [T.co] at h; omega
  | .n k b ts, h, hc => by
    obtain ⟨h1, h3⟩ := h
    rw [T.co] at hc
    by_cases q : k.own = true ∧ b = a
    · obtain ⟨q1, q2⟩ := q
      subst q2
      have h1 : H b = some _ := h1.1
      rw [h1]
      exact fun z => by cases z
    · rw [if_neg q] at hc
      exact coL_some ts h3 (by omega)
  | .w z k b ts, h, hc => by
    rw [T.co] at hc
    exact coL_some ts h.2 hc
theorem coL_some : ∀ (ts : List T), satL K H ts → 0 < coL a ts → H a ≠ none
  | [], _, h => by rw [coL] at h; omega
  | t :: ts, h, hc => by
    rw [coL] at hc
    by_cases q : 0 < t.co a
    · exact co_some t h.1 q
    · exact coL_some ts h.2 (by omega)
end
mutual
theorem cu_some : ∀ (t : T), t.sat K H → 0 < t.cu a → H a ≠ none
  | .s _, _, h => by rw [T.cu] at h; omega
  | .n k b ts, h, hc => by
    obtain ⟨h1, h3⟩ := h
    rw [T.cu] at hc
    by_cases q : k.own = false ∧ b = a
    · obtain ⟨q1, q2⟩ := q
      subst q2
      have h1 : H b = some _ := h1.1
      rw [h1]
      exact fun z => by cases z
    · rw [if_neg q] at hc
      exact cuL_some ts h3 (by omega)
  | .w z k b ts, h, hc => by
    obtain ⟨h1, h3⟩ := h
    rw [T.cu] at hc
    by_cases q : z = false ∧ b = a
    · obtain ⟨q1, q2⟩ := q
      subst q1 q2
      obtain ⟨o, h1⟩ := h1
      rw [h1]
      exact fun z => by cases z
    · rw [if_neg q] at hc
      exact cuL_some ts h3 (by omega)
theorem cuL_some : ∀ (ts : List T), satL K H ts → 0 < cuL a ts → H a ≠ none
  | [], _, h => by rw [cuL] at h; omega
  | t :: ts, h, hc => by
    rw [cuL] at hc
    by_cases q : 0 < t.cu a
    · exact cu_some t h.1 q
    · exact cuL_some ts h.2 (by omega)
end

/-! ### environments -/
def oT (f : T → Nat) : Option T → Nat
  | none => 0
  | some t => f t
def coE (a : Addr) : TEnv → Nat
  | [] => 0
  | o :: r => oT (T.co a) o + coE a r
def cuE (a : Addr) : TEnv → Nat
  | [] => 0
  | o :: r => oT (T.cu a) o + cuE a r
def SatE (K : PySem.W.Frag) (H : Hp) (env : TEnv) : Prop := ∀ t, some t ∈ env → t.sat K H
def Rel (σ : L2.St) (env : TEnv) : Prop := env.length = σ.length ∧ ∀ (i : Nat) (t : T), env[i]? = some (some t) → σ[i]? = some (some t.val)
def erE (env : TEnv) : Env := env.map (Option.map T.er)
def Wf (c u : Addr → Nat) : Prop := ∀ a, c a ≤ 1 ∧ (c a = 0 ∨ u a = 0)
abbrev Ex := Evl.Ex
theorem coE_set : ∀ {env : TEnv} {i : Nat} {x : Option T} (o : Option T), env[i]? = some x → coE a (env.set i o) + oT (T.co a) x = coE a env + oT (T.co a) o
  | [], i, x, o, h => by simp at h
  | y :: r, 0, x, o, h => by
    have e : y = x := Option.some.inj h
    subst e
    rw [List.set_cons_zero, coE, coE]; omega
  | y :: r, i + 1, x, o, h => by
    have e := coE_set (env := r) (i := i) (x := x) o h
    rw [List.set_cons_succ, coE, coE]; omega
theorem cuE_set : ∀ {env : TEnv} {i : Nat} {x : Option T} (o : Option T), env[i]? = some x → cuE a (env.set i o) + oT (T.cu a) x = cuE a env + oT (T.cu a) o
  | [], i, x, o, h => by simp at h
  | y :: r, 0, x, o, h => by
    have e : y = x := Option.some.inj h
    subst e
    rw [List.set_cons_zero, cuE, cuE]; omega
  | y :: r, i + 1, x, o, h => by
    have e := cuE_set (env := r) (i := i) (x := x) o h
    rw [List.set_cons_succ, cuE, cuE]; omega
theorem coE_get {i : Nat} (h : env[i]? = some (some t)) : t.co a ≤ coE a env := by
  have := coE_set (a := a) none h
  simp only [oT] at this; omega
theorem cuE_get {i : Nat} (h : env[i]? = some (some t)) : t.cu a ≤ cuE a env := by
  have := cuE_set (a := a) none h
  simp only [oT] at this; omega
theorem SatE.get {i : Nat} (h : SatE K H env) (g : env[i]? = some (some t)) : t.sat K H := h t (List.mem_of_getElem? g)
theorem SatE.set {i : Nat} {o : Option T} (h : SatE K H env) (g : ∀ t, o = some t → t.sat K H) : SatE K H (env.set i o) := fun t ht => by
  rcases List.mem_or_eq_of_mem_set ht with q | q
  · exact h t q
  · exact g t q.symm
theorem coE_some : ∀ {env : TEnv}, SatE K H env → 0 < coE a env → H a ≠ none
  | [], _, h => by rw [coE] at h; omega
  | none :: r, h, hc => by
    rw [coE, oT] at hc
    exact coE_some (env := r) (fun t ht => h t (List.mem_cons_of_mem _ ht)) (by omega)
  | some t :: r, h, hc => by
    rw [coE, oT] at hc
    by_cases q : 0 < t.co a
    · exact co_some t (h t (List.mem_cons_self ..)) q
    · exact coE_some (env := r) (fun t ht => h t (List.mem_cons_of_mem _ ht)) (by omega)
theorem cuE_some : ∀ {env : TEnv}, SatE K H env → 0 < cuE a env → H a ≠ none
  | [], _, h => by rw [cuE] at h; omega
  | none :: r, h, hc => by
    rw [cuE, oT] at hc
    exact cuE_some (env := r) (fun t ht => h t (List.mem_cons_of_mem _ ht)) (by omega)
  | some t :: r, h, hc => by
    rw [cuE, oT] at hc
    by_cases q : 0 < t.cu a
    · exact cu_some t (h t (List.mem_cons_self ..)) q
    · exact cuE_some (env := r) (fun t ht => h t (List.mem_cons_of_mem _ ht)) (by omega)
theorem satE_keep : ∀ {env : TEnv}, (∀ a o, 0 < coE a env + cuE a env → H a = some o → H' a = some o) → SatE K H env → SatE K H' env
  | [], _, _ => fun t ht => by cases ht
  | none :: r, hk, h => fun t ht => by
    rcases List.mem_cons.mp ht with q | q
    · cases q
    · exact satE_keep (env := r) (fun a o hc => hk a o (by rw [coE, cuE, oT, oT]; omega)) (fun t ht => h t (List.mem_cons_of_mem _ ht)) t q
  | some x :: r, hk, h => fun t ht => by
    rcases List.mem_cons.mp ht with q | q
    · cases q
      exact sat_keep x (fun a o hc => hk a o (by rw [coE, cuE, oT, oT]; omega)) (h x (List.mem_cons_self ..))
    · exact satE_keep (env := r) (fun a o hc => hk a o (by rw [coE, cuE, oT, oT]; omega)) (fun t ht => h t (List.mem_cons_of_mem _ ht)) t q
theorem sat_ex (e : Ex H H') (h : t.sat K H) : t.sat K H' := sat_keep t (fun a o _ q => e a o q) h
theorem satL_ex (e : Ex H H') (h : satL K H ts) : satL K H' ts := satL_keep ts (fun a o _ q => e a o q) h
theorem SatE.ex (e : Ex H H') (h : SatE K H env) : SatE K H' env := fun t ht => sat_ex e (h t ht)
theorem erE_get {i : Nat} {d : D} (h : (erE env)[i]? = some (some d)) : ∃ t, env[i]? = some (some t) ∧ t.er = d := by
  rw [erE, List.getElem?_map] at h
  cases e : env[i]? with
  | none => rw [e] at h; cases h
  | some o =>
    rw [e] at h
    cases o with
    | none => cases h
    | some t => exact ⟨t, rfl, Option.some.inj (Option.some.inj h)⟩
theorem erE_set {i : Nat} {o : Option T} : erE (env.set i o) = (erE env).set i (o.map T.er) := by
  rw [erE, erE, List.map_set]
theorem erE_length : (erE env).length = env.length := by rw [erE, List.length_map]
theorem Rel.set {i : Nat} {t : T} (r : Rel σ env) : Rel (σ.set i (some t.val)) (env.set i (some t)) := by
  refine ⟨by rw [List.length_set, List.length_set, r.1], fun j u h => ?_⟩
  by_cases e : i = j
  · subst e
    rw [List.getElem?_set] at h
    rw [List.getElem?_set]
    by_cases l : i < env.length
    · rw [if_pos rfl, if_pos l] at h
      rw [if_pos rfl, if_pos (by rw [← r.1]; exact l)]
      cases h
      rfl
    · rw [if_pos rfl, if_neg l] at h
      cases h
  · rw [List.getElem?_set, if_neg e] at h
    rw [List.getElem?_set, if_neg e]
    exact r.2 j u h
theorem Rel.drop {i : Nat} (r : Rel σ env) : Rel σ (env.set i none) := by
  refine ⟨by rw [List.length_set, r.1], fun j u h => ?_⟩
  by_cases e : i = j
  · subst e
    rw [List.getElem?_set] at h
    by_cases l : i < env.length
    · rw [if_pos rfl, if_pos l] at h
      cases h
    · rw [if_pos rfl, if_neg l] at h
      cases h
  · rw [List.getElem?_set, if_neg e] at h
    exact r.2 j u h
/-- a slot's tree made another one of the same value -/
theorem Rel.swap {i : Nat} {t u : T} (r : Rel σ env) (h : env[i]? = some (some t)) (e : u.val = t.val) : Rel σ (env.set i (some u)) := by
  refine ⟨by rw [List.length_set, r.1], fun j x g => ?_⟩
  by_cases q : i = j
  · subst q
    rw [List.getElem?_set, if_pos rfl] at g
    by_cases l : i < env.length
    · rw [if_pos l] at g
      cases g
      rw [e]
      exact r.2 i t h
    · rw [if_neg l] at g
      cases g
  · rw [List.getElem?_set, if_neg q] at g
    exact r.2 j x g

/-! ### steps -/
def Stp (H : Hp) (c u : Addr → Nat) (H' : Hp) (c' u' : Addr → Nat) : Prop :=
  (∀ a o, H a = some o → c a = 0 → H' a = some o) ∧ (∀ a, H' a = none → H a = none) ∧ ∀ a, (0 < c' a → 0 < c a ∨ H a = none) ∧ (0 < u' a → 0 < c a ∨ 0 < u a ∨ H a = none)
theorem Stp.refl {c u : Addr → Nat} : Stp H c u H c u := ⟨fun _ _ h _ => h, fun _ h => h, fun a => ⟨fun h => .inl h, fun h => .inr (.inl h)⟩⟩
theorem Stp.trans {c u c1 u1 c2 u2 : Addr → Nat} (x : Stp H c u H1 c1 u1) (y : Stp H1 c1 u1 H' c2 u2) : Stp H c u H' c2 u2 := by
  refine ⟨fun a o h hc => ?_, fun a h => x.2.1 a (y.2.1 a h), fun a => ⟨fun h => ?_, fun h => ?_⟩⟩
  · have h1 := x.1 a o h hc
    by_cases q : c1 a = 0
    · exact y.1 a o h1 q
    · rcases (x.2.2 a).1 (by omega) with z | z
      · omega
      · rw [h] at z; cases z
  · rcases (y.2.2 a).1 h with z | z
    · exact (x.2.2 a).1 z
    · exact .inr (x.2.1 a z)
  · rcases (y.2.2 a).2 h with z | z | z
    · rcases (x.2.2 a).1 z with z | z
      · exact .inl z
      · exact .inr (.inr z)
    · exact (x.2.2 a).2 z
    · exact .inr (.inr (x.2.1 a z))
end
end Ow

namespace Ow
open PySem L2

/-! ### what a part of the text comes to -/
def Own (H : Hp) (env : TEnv) (t : T) : Prop := ∀ a, (t.co a ≤ 1 ∧ (t.co a = 0 ∨ t.cu a = 0)) ∧ (0 < t.co a → H a = none) ∧ (0 < t.cu a → 0 < cuE a env ∨ H a = none)
def Bor (H : Hp) (env : TEnv) (t : T) : Prop := ∀ a, (0 < t.co a → 0 < coE a env ∨ H a = none) ∧ (0 < t.cu a → 0 < cuE a env ∨ H a = none)
abbrev PM := Env → Option D
abbrev EM := Env → Option (D × Env)
abbrev BM := Env → Option Bool
def trP (K : PySem.W.Frag) (m : PM) : TE := fun σ H Q => ∃ env d, m (erE env) = some d ∧ Rel σ env ∧ SatE K H env ∧ ∀ t H', t.er = d → Ex H H' → t.sat K H' → Own H env t → Q t.val H'
def trB (K : PySem.W.Frag) (m : PM) : TE := fun σ H Q => ∃ env d, m (erE env) = some d ∧ Rel σ env ∧ SatE K H env ∧ ∀ t H', t.er = d → Ex H H' → t.sat K H' → Bor H env t → Q t.val H'
def trT (K : PySem.W.Frag) (m : BM) : TT := fun σ H Q => ∃ env b, m (erE env) = some b ∧ Rel σ env ∧ SatE K H env ∧ ∀ H', Ex H H' → Q b H'
def SP (X : Cx) (e : Expr) (m : PM) : Prop := PE X e (trP X.K m)
def SB (X : Cx) (e : Expr) (m : PM) : Prop := PE X e (trB X.K m)
def ST (X : Cx) (e : Expr) (m : BM) : Prop := PT X e (trT X.K m)
def SW (X : Cx) (e : Expr) (m : BM) : Prop := PW X e (trT X.K m)
theorem Own.bor {H : Hp} {env : TEnv} {t : T} (h : Own H env t) : Bor H env t := fun a => ⟨fun z => .inr ((h a).2.1 z), (h a).2.2⟩
theorem Own.back {H H1 : Hp} {env : TEnv} {t : T} (e : Ex H H1) (h : Own H1 env t) : Own H env t := fun a =>
  ⟨(h a).1, fun z => Evl.fresh_back e ((h a).2.1 z), fun z => ((h a).2.2 z).imp id (Evl.fresh_back e)⟩
theorem Bor.back {H H1 : Hp} {env : TEnv} {t : T} (e : Ex H H1) (h : Bor H1 env t) : Bor H env t := fun a =>
  ⟨fun z => ((h a).1 z).imp id (Evl.fresh_back e), fun z => ((h a).2 z).imp id (Evl.fresh_back e)⟩
theorem own_s {H : Hp} {env : TEnv} {v : V} : Own H env (.s v) := fun a => by
  simp [T.co, T.cu]
theorem PE.weak {X : Cx} {e : Expr} {t u : TE} (h : PE X e t) (w : ∀ σ H Q, u σ H Q → t σ H Q) : PE X e u := ⟨fun pins s σ H Q I z => h.run pins s σ H Q I (w σ H Q z)⟩
theorem PT.weak {X : Cx} {e : Expr} {t u : TT} (h : PT X e t) (w : ∀ σ H Q, u σ H Q → t σ H Q) : PT X e u := ⟨fun pins s σ H Q I z => h.run pins s σ H Q I (w σ H Q z)⟩
theorem PW.weak {X : Cx} {e : Expr} {t u : TT} (h : PW X e t) (w : ∀ σ H Q, u σ H Q → t σ H Q) : PW X e u := ⟨fun wh pins s σ H Q I z => h.run wh pins s σ H Q I (w σ H Q z)⟩
/-! no owned node -/
mutual
@[simp] def D.pure : D → Bool
  | .s _ => true
  | .n k ds => !k.own && pureL ds
@[simp] def pureL : List D → Bool
  | [] => true
  | d :: ds => d.pure && pureL ds
end
mutual
theorem pure_co {a : Addr} : ∀ (t : T), t.er.pure = true → t.co a = 0
  | .s _, _ => rfl
  | .n k b ts, h => by
    rw [T.er, D.pure, Bool.and_eq_true] at h
    have q : k.own = false := by simpa using h.1
    rw [T.co, pureL_co ts h.2, q]
    simp
  | .w z k b ts, h => by
    rw [T.er, D.pure, Bool.and_eq_true] at h
    rw [T.co, pureL_co ts h.2]
theorem pureL_co {a : Addr} : ∀ (ts : List T), pureL (erL ts) = true → coL a ts = 0
  | [], _ => rfl
  | t :: ts, h => by
    rw [erL, pureL, Bool.and_eq_true] at h
    rw [coL, pure_co t h.1, pureL_co ts h.2]
end

section
variable {X : Cx} {m ma mb : PM} {e a b : Expr} {pos : Pos} {σ : L2.St} {H H1 H' : Hp} {env : TEnv} {K : PySem.W.Frag}
theorem SP.sb (h : SP X e m) : SB X e m := PE.weak h fun σ H Q ⟨env, d, hm, r, s, k⟩ => ⟨env, d, hm, r, s, fun t H' e1 e2 e3 o => k t H' e1 e2 e3 o.bor⟩
/-! ### names, constants -/
@[simp] def mVar (i : Nat) : PM := fun env => env[i]?.join
def mCopy (i : Nat) : PM := fun env => match env[i]?.join with
  | some d => if d.pure = true then some d else none
  | none => none
@[simp] def mC (v : V) : PM := fun _ => some (.s v)
theorem join_get {i : Nat} {d : D} (h : (erE env)[i]?.join = some d) : ∃ t, env[i]? = some (some t) ∧ t.er = d := by
  refine erE_get (i := i) ?_
  cases e : (erE env)[i]? with
  | none => rw [e] at h; cases h
  | some o =>
    rw [e] at h
    cases o with
    | none => cases h
    | some d' =>
      have h' : d' = d := Option.some.inj h
      rw [h']
theorem sb_var {x : Str} (i : Nat) (hN : X.N[i]? = some x := by rfl) (hv : Vis X.env.scope x := by first | exact .inl rfl | exact .inr (.inl rfl) | exact .inr (.inr rfl)) (hd : (x == ("__debug__" : Str)) = false := by decide) (hcd : (x == ("__classdict__" : Str)) = false := by decide) : SB X (.Name x pos) (mVar i) := PE.weak (pe_var (i := i) hN hv hd hcd) fun σ H Q ⟨env, d, hm, r, s, k⟩ => by
  obtain ⟨t, h1, h2⟩ := join_get hm
  exact ⟨t.val, r.2 i t h1, k t H h2 (Evl.Ex.refl H) (s.get h1) fun a => ⟨fun z => .inl (Nat.lt_of_lt_of_le z (coE_get h1)), fun z => .inl (Nat.lt_of_lt_of_le z (cuE_get h1))⟩⟩
theorem sp_var {x : Str} (i : Nat) (hN : X.N[i]? = some x := by rfl) (hv : Vis X.env.scope x := by first | exact .inl rfl | exact .inr (.inl rfl) | exact .inr (.inr rfl)) (hd : (x == ("__debug__" : Str)) = false := by decide) (hcd : (x == ("__classdict__" : Str)) = false := by decide) : SP X (.Name x pos) (mCopy i) := PE.weak (pe_var (i := i) hN hv hd hcd) fun σ H Q ⟨env, d, hm, r, s, k⟩ => by
  unfold mCopy at hm
  split at hm
  · rename_i d' hd
    split at hm
    · rename_i hp
      cases hm
      obtain ⟨t, h1, h2⟩ := join_get hd
      rw [← h2] at hp
      refine ⟨t.val, r.2 i t h1, k t H h2 (Evl.Ex.refl H) (s.get h1) fun a => ?_⟩
      rw [pure_co t hp]
      exact ⟨⟨Nat.zero_le _, .inl rfl⟩, fun z => absurd z (Nat.lt_irrefl _), fun z => .inl (Nat.lt_of_lt_of_le z (cuE_get h1))⟩
    · cases hm
  · cases hm
theorem sp_c {v : V} (h : PE X e (tC v)) (hv : scl v = true) : SP X e (mC v) := PE.weak h fun σ H Q ⟨env, d, hm, r, s, k⟩ => by
  cases hm
  exact k (.s v) H (by rw [T.er, hid_scl hv]) (Evl.Ex.refl H) trivial own_s
theorem sp_int {i : Int} {j : Nat} : SP X (.Constant (.int i) j pos) (mC (.int i)) := sp_c pe_int rfl
theorem sp_bl {c : Bool} {j : Nat} : SP X (.Constant (.bool c) j pos) (mC (.bl c)) := sp_c pe_bl rfl
theorem sp_non {j : Nat} : SP X (.Constant .none j pos) (mC .non) := sp_c pe_non rfl
theorem sp_str {x : Str} {j : Nat} : SP X (.Constant (.str x) j pos) (mC (.str x)) := sp_c pe_str rfl
/-- a scalar constant of the module -/
theorem sp_glob {x : Str} {v : V} {u : Value} (hg : Gl X x) (hm : X.mg x = some u) (r : RelV v u) (hv : scl v = true) (hd : (x == ("__debug__" : Str)) = false := by decide) : SP X (.Name x pos) (mC v) := sp_c (pe_glob hg hm r hd) hv

/-! ### operators that give scalars -/
/-- a two-place operation on values: f tells its outcome by the data -/
def Op2 (K : PySem.W.Frag) (r : R2) (f : D → D → Option V) : Prop := ∀ (t u : T) (v : V) (H : Hp) (Q : VK), t.sat K H → u.sat K H → f t.er u.er = some v → Q v H → r t.val u.val H Q
def Op1 (K : PySem.W.Frag) (r : V → Hp → VK → Prop) (f : D → Option V) : Prop := ∀ (t : T) (v : V) (H : Hp) (Q : VK), t.sat K H → f t.er = some v → Q v H → r t.val H Q
@[simp] def sv (v : V) : Option D := if scl v = true then some (.s v) else none
@[simp] def mOp2 (f : D → D → Option V) (ma mb : PM) : PM := fun env => (ma env).bind fun x => (mb env).bind fun y => (f x y).bind sv
@[simp] def mOp1 (f : D → Option V) (ma : PM) : PM := fun env => (ma env).bind fun x => (f x).bind sv
theorem bind_some {α β : Type} {o : Option α} {f : α → Option β} {z : β} (h : o.bind f = some z) : ∃ x, o = some x ∧ f x = some z := by
  cases o with
  | none => cases h
  | some x => exact ⟨x, rfl, h⟩
theorem sv_some {v : V} {d : D} (h : sv v = some d) : scl v = true ∧ d = .s v := by
  unfold sv at h
  split at h
  · cases h
    exact ⟨by assumption, rfl⟩
  · cases h
/-- both parts are read, then what follows -/
theorem rd2 {ta tb : TE} {r : R2} {f : D → D → Option V} {Q : VK} (ho : Op2 K r f) (h : trP K (mOp2 f ma mb) σ H Q) : tOp r (trB K ma) (trB K mb) σ H Q := by
  obtain ⟨env, d, hm, hr, hs, k⟩ := h
  obtain ⟨x, hx, hm⟩ := bind_some hm
  obtain ⟨y, hy, hm⟩ := bind_some hm
  obtain ⟨v, hv, hm⟩ := bind_some hm
  obtain ⟨s1, rfl⟩ := sv_some hm
  refine ⟨env, x, hx, hr, hs, fun t H1 e1 x1 s2 _ => ⟨env, y, hy, hr, hs.ex x1, fun u H2 e2 x2 s3 _ => ?_⟩⟩
  subst e1 e2
  exact ho t u v H2 Q (sat_ex x2 s2) s3 hv (k (.s v) H2 (by rw [T.er, hid_scl s1]) (x1.trans x2) trivial own_s)
theorem sp_op {op : Operator} {r : R2} {f : D → D → Option V} (ho : OpR X (binaryOp op) r) (hf : Op2 X.K r f) (ha : SB X a ma) (hb : SB X b mb) : SP X (.BinOp a op b pos) (mOp2 f ma mb) :=
  PE.weak (pe_op ho ha hb) fun σ H Q h => rd2 (ta := trB X.K ma) (tb := trB X.K mb) hf h
theorem sp_cmp {op : CmpOp} {r : R2} {f : D → D → Option V} (ho : OpR X (compareOp op) r) (hf : Op2 X.K r f) (ha : SB X a ma) (hb : SB X b mb) (hm : behindInMarks op b = false := by rfl) : SP X (.Compare a [op] [b] pos) (mOp2 f ma mb) :=
  PE.weak (pe_cmpR ho ha hb hm) fun σ H Q h => rd2 (ta := trB X.K ma) (tb := trB X.K mb) hf h
theorem sp_un {op : UnaryOp} {r : V → Hp → VK → Prop} {f : D → Option V} (ho : UnR X (unaryOp op) r) (hf : Op1 X.K r f) (ha : SB X a ma) (hn : True := trivial) (h : PE X (.UnaryOp op a pos) (tUn r (trB X.K ma))) : SP X (.UnaryOp op a pos) (mOp1 f ma) :=
  PE.weak h fun σ H Q ⟨env, d, hm, hr, hs, k⟩ => by
    obtain ⟨x, hx, hm⟩ := bind_some hm
    obtain ⟨v, hv, hm⟩ := bind_some hm
    obtain ⟨s1, rfl⟩ := sv_some hm
    refine ⟨env, x, hx, hr, hs, fun t H1 e1 x1 s2 _ => ?_⟩
    subst e1
    exact hf t v H1 Q s2 hv (k (.s v) H1 (by rw [T.er, hid_scl s1]) x1 trivial own_s)

/-! the operations -/
def fI (C : Int → Int → Bool) (g : Int → Int → V) : D → D → Option V
  | .s (.int i), .s (.int j) => if C i j = true then some (g i j) else none
  | _, _ => none
@[simp] def okI (_ _ : Int) : Bool := true
theorem er_int {t : T} {i : Int} (h : t.er = .s (.int i)) : t = .s (.int i) := by
  cases t with
  | n k a ts => rw [T.er] at h; cases h
  | w z k a ts => rw [T.er] at h; cases h
  | s v =>
    rw [T.er] at h
    unfold hid at h
    split at h
    · cases h; rfl
    · cases h
theorem er_scl {t : T} {v : V} (h : t.er = .s v) (hv : scl v = true) : t = .s v := by
  cases t with
  | n k a ts => rw [T.er] at h; cases h
  | w z k a ts => rw [T.er] at h; cases h
  | s u =>
    rw [T.er] at h
    unfold hid at h
    split at h
    · cases h; rfl
    · cases h; cases hv
theorem fI_some {C : Int → Int → Bool} {g : Int → Int → V} {x y : D} {v : V} (h : fI C g x y = some v) : ∃ i j, x = .s (.int i) ∧ y = .s (.int j) ∧ C i j = true ∧ v = g i j := by
  unfold fI at h
  split at h
  · split at h
    · cases h
      exact ⟨_, _, rfl, rfl, by assumption, rfl⟩
    · cases h
  · cases h
theorem op2_I0 {g : Int → Int → V} : Op2 K (rI0 g) (fI okI g) := fun t u v H Q _ _ h q => by
  obtain ⟨i, j, e1, e2, _, rfl⟩ := fI_some h
  rw [er_int e1, er_int e2]
  exact ⟨i, j, rfl, rfl, q⟩
theorem op2_I {C : Int → Int → Prop} {Cb : Int → Int → Bool} {g : Int → Int → V} (hC : ∀ i j, Cb i j = true → C i j) : Op2 K (rI C g) (fI Cb g) := fun t u v H Q _ _ h q => by
  obtain ⟨i, j, e1, e2, hc, rfl⟩ := fI_some h
  rw [er_int e1, er_int e2]
  exact ⟨i, j, rfl, rfl, hC i j hc, q⟩
instance {i j : Int} : Decidable (CMulW i j) := by unfold CMulW; infer_instance
def fAdd := fI okI fun i j => .int (i + j)
def fSub := fI okI fun i j => .int (i - j)
def fMul := fI (fun i j => decide (CMulW i j)) fun i j => .int (i * j)
def fDiv := fI (fun i j => decide (0 < j ∧ j.natAbs.log2 < 9000)) fun i j => .int (i / j)
def fMod := fI (fun _ j => decide (0 < j)) fun i j => .int (i % j)
def fPow := fI (fun i j => decide (0 ≤ j ∧ j ≤ 1000000 ∧ i.natAbs < 2 ^ 64)) fun i j => .int (i ^ j.toNat)
def fLt := fI okI fun i j => .bl (decide (i < j))
def fLe := fI okI fun i j => .bl (decide (i ≤ j))
def fGt := fI okI fun i j => .bl (decide (j < i))
def fGe := fI okI fun i j => .bl (decide (j ≤ i))
end
section
variable {X : Cx} {ma mb : PM} {e a b : Expr} {pos : Pos}
theorem sp_add (ha : SB X a ma) (hb : SB X b mb) : SP X (.BinOp a .Add b pos) (mOp2 fAdd ma mb) := sp_op op_add op2_I0 ha hb
theorem sp_sub (ha : SB X a ma) (hb : SB X b mb) : SP X (.BinOp a .Sub b pos) (mOp2 fSub ma mb) := sp_op op_sub op2_I0 ha hb
theorem sp_mul (ha : SB X a ma) (hb : SB X b mb) : SP X (.BinOp a .Mult b pos) (mOp2 fMul ma mb) := sp_op op_mulW (op2_I fun _ _ h => of_decide_eq_true h) ha hb
theorem sp_div (ha : SB X a ma) (hb : SB X b mb) : SP X (.BinOp a .FloorDiv b pos) (mOp2 fDiv ma mb) := sp_op op_fdivW (op2_I fun i j h => (of_decide_eq_true h : 0 < j ∧ j.natAbs.log2 < 9000)) ha hb
theorem sp_mod (ha : SB X a ma) (hb : SB X b mb) : SP X (.BinOp a .Mod b pos) (mOp2 fMod ma mb) := sp_op op_mod (op2_I fun _ _ h => of_decide_eq_true h) ha hb
theorem sp_pow (ha : SB X a ma) (hb : SB X b mb) : SP X (.BinOp a .Pow b pos) (mOp2 fPow ma mb) := sp_op op_pow (op2_I fun i j h => (of_decide_eq_true h : 0 ≤ j ∧ j ≤ 1000000 ∧ i.natAbs < 2 ^ 64)) ha hb
theorem sp_lt (ha : SB X a ma) (hb : SB X b mb) : SP X (.Compare a [.Lt] [b] pos) (mOp2 fLt ma mb) := sp_cmp op_lt op2_I0 ha hb (nomark _)
theorem sp_le (ha : SB X a ma) (hb : SB X b mb) : SP X (.Compare a [.LtE] [b] pos) (mOp2 fLe ma mb) := sp_cmp op_le op2_I0 ha hb (nomark _)
theorem sp_gt (ha : SB X a ma) (hb : SB X b mb) : SP X (.Compare a [.Gt] [b] pos) (mOp2 fGt ma mb) := sp_cmp op_gt op2_I0 ha hb (nomark _)
theorem sp_ge (ha : SB X a ma) (hb : SB X b mb) : SP X (.Compare a [.GtE] [b] pos) (mOp2 fGe ma mb) := sp_cmp op_ge op2_I0 ha hb (nomark _)
end
end Ow

namespace Ow
open PySem L2

/-! ### reading trees -/
section
variable {K : PySem.W.Frag} {H H1 H' : Hp} {t : T} {ds : List D} {o : Fl} {env : TEnv} {σ : L2.St}
theorem sql_up {a : Addr} {vs : List V} (h : SqL K (fun _ => none) a vs) : SqL K H a vs := by
  rcases h with (h | ⟨_, h⟩) | h
  · cases h
  · cases h
  · exact .inr h
theorem sqt_up {a : Addr} {vs : List V} (h : SqT K (fun _ => none) a vs) : SqT K H a vs := by
  rcases h with (h | ⟨_, h⟩) | h
  · cases h
  · cases h
  · exact .inr h
theorem rdL (hs : t.sat K H) (he : t.er = .n (.lst o) ds) : ∃ a ts, t.val = .ref a ∧ erL ts = ds ∧ SqL K H a (vals ts) ∧ satL K H ts ∧ (∀ b, coL b ts ≤ t.co b) ∧ (∀ b, cuL b ts ≤ t.cu b) := by
  cases t with
  | s v => rw [T.er] at he; cases he
  | n k a ts =>
    rw [T.er] at he
    cases he
    exact ⟨a, ts, rfl, rfl, .inl (.inl hs.1.1), hs.2, fun b => by rw [T.co]; omega, fun b => by rw [T.cu]; omega⟩
  | w z k a ts =>
    rw [T.er] at he
    cases k with
    | lst o' =>
      cases he
      refine ⟨a, ts, rfl, rfl, ?_, hs.2, fun b => by rw [T.co]; omega, fun b => by rw [T.cu]; omega⟩
      cases z with
      | true => exact sql_up hs.1
      | false => exact .inl (.inr hs.1)
    | tup => cases he
    | dic _ _ => cases he
    | dct _ _ => cases he
theorem rdT (hs : t.sat K H) (he : t.er = .n .tup ds) : ∃ a ts, t.val = .ref a ∧ erL ts = ds ∧ SqT K H a (vals ts) ∧ satL K H ts ∧ (∀ b, coL b ts ≤ t.co b) ∧ (∀ b, cuL b ts ≤ t.cu b) := by
  cases t with
  | s v => rw [T.er] at he; cases he
  | n k a ts =>
    rw [T.er] at he
    cases he
    exact ⟨a, ts, rfl, rfl, .inl (.inl hs.1.1), hs.2, fun b => by rw [T.co]; omega, fun b => by rw [T.cu]; omega⟩
  | w z k a ts =>
    rw [T.er] at he
    cases k with
    | tup =>
      cases he
      refine ⟨a, ts, rfl, rfl, ?_, hs.2, fun b => by rw [T.co]; omega, fun b => by rw [T.cu]; omega⟩
      cases z with
      | true => exact sqt_up hs.1
      | false => exact .inl (.inr hs.1)
    | lst _ => cases he
    | dic _ _ => cases he
    | dct _ _ => cases he
/-- a tracked node -/
theorem rdN {k : Kd} (hs : t.sat K H) (he : t.er = .n k ds) (hk : k.isw = false) (hT : k ≠ .tup) : ∃ a ts, t = .n k a ts ∧ erL ts = ds ∧ H a = some (k.ho (vals ts)) ∧ satL K H ts := by
  cases t with
  | s v => rw [T.er] at he; cases he
  | n k' a ts =>
    rw [T.er] at he
    cases he
    exact ⟨a, ts, rfl, rfl, hs.1.1, hs.2⟩
  | w z k' a ts =>
    rw [T.er] at he
    cases he
    cases k' <;> first | exact absurd rfl hT | (exact absurd hk (by simp [Kd.wri, Kd.isw]))

/-! ### data that is compared -/
mutual
def D.dat : D → Option PyData
  | .s .non => some .none
  | .s (.bl b) => some (.bool b)
  | .s (.int i) => some (.int i)
  | .s (.str x) => some (.str x)
  | .s _ => none
  | .n (.lst _) ds => (datL ds).map .list
  | .n .tup ds => (datL ds).map .tuple
  | .n _ _ => none
def datL : List D → Option (List PyData)
  | [] => some []
  | d :: ds => d.dat.bind fun p => (datL ds).map (p :: ·)
end
theorem map_some {α β : Type} {o : Option α} {f : α → β} {z : β} (h : o.map f = some z) : ∃ x, o = some x ∧ f x = z := by
  cases o with
  | none => cases h
  | some x => exact ⟨x, rfl, Option.some.inj h⟩
mutual
theorem dp_of : ∀ (t : T) (p : PyData), t.sat K H → t.er.dat = some p → Dp K H t.val p
  | .s v, p, hs, h => by
    rw [T.er] at h
    unfold hid at h
    cases v with
    | non => cases h; exact .non
    | bl b => cases h; exact .bl b
    | int i => cases h; exact .int i
    | str x => cases h; exact .str x
    | byt _ => cases h
    | flt _ => cases h
    | ref _ => cases h
    | ty _ => cases h
  | .n k a ts, p, hs, h => by
    rw [T.er] at h
    cases k with
    | lst o =>
      rw [D.dat] at h
      obtain ⟨ps, h1, rfl⟩ := map_some h
      exact .lst (.inl (.inl hs.1.1)) (dp_ofL ts ps hs.2 h1)
    | tup =>
      rw [D.dat] at h
      obtain ⟨ps, h1, rfl⟩ := map_some h
      exact .tup (.inl (.inl hs.1.1)) (dp_ofL ts ps hs.2 h1)
    | dic o ks => simp [D.dat] at h
    | dct o ks => simp [D.dat] at h
  | .w z k a ts, p, hs, h => by
    rw [T.er] at h
    cases k with
    | lst o =>
      rw [Kd.wri, D.dat] at h
      obtain ⟨ps, h1, rfl⟩ := map_some h
      refine .lst ?_ (dp_ofL ts ps hs.2 h1)
      cases z with
      | true => exact sql_up hs.1
      | false => exact .inl (.inr hs.1)
    | tup =>
      rw [Kd.wri, D.dat] at h
      obtain ⟨ps, h1, rfl⟩ := map_some h
      refine .tup ?_ (dp_ofL ts ps hs.2 h1)
      cases z with
      | true => exact sqt_up hs.1
      | false => exact .inl (.inr hs.1)
    | dic o ks => simp [Kd.wri, D.dat] at h
    | dct o ks => simp [Kd.wri, D.dat] at h
theorem dp_ofL : ∀ (ts : List T) (ps : List PyData), satL K H ts → datL (erL ts) = some ps → DpAll K H (vals ts) ps
  | [], ps, _, h => by
    rw [erL, datL] at h
    cases h
    exact .nil
  | t :: ts, ps, hs, h => by
    rw [erL, datL] at h
    obtain ⟨p, h1, h⟩ := bind_some h
    obtain ⟨qs, h2, rfl⟩ := map_some h
    exact .cons (dp_of t p hs.1 h1) (dp_ofL ts qs hs.2 h2)
end
def fEqB (x y : D) : Option Bool := x.dat.bind fun p => y.dat.bind fun q => if (SeqAt.shaped p && SeqAt.shaped q) = true then some (PyData.eqv p q) else none
def fEq (x y : D) : Option V := (fEqB x y).map .bl
def fNe (x y : D) : Option V := (fEqB x y).map fun b => .bl (!b)
def fIn (x y : D) : Option V := x.dat.bind fun p => match y with
  | .n (.lst _) ds => (datL ds).bind fun qs => if (SeqAt.shaped p && SeqAt.shaped (.list qs)) = true then some (.bl (qs.any fun z => PyData.eqv z p)) else none
  | _ => none
def fNotIn (x y : D) : Option V := (fIn x y).bind fun v => match v with
  | .bl b => some (.bl (!b))
  | _ => none
theorem fEqB_some {x y : D} {b : Bool} (h : fEqB x y = some b) : ∃ p q, x.dat = some p ∧ y.dat = some q ∧ SeqAt.shaped p = true ∧ SeqAt.shaped q = true ∧ b = PyData.eqv p q := by
  obtain ⟨p, h1, h⟩ := bind_some h
  obtain ⟨q, h2, h⟩ := bind_some h
  split at h
  · rename_i hh
    rw [Bool.and_eq_true] at hh
    cases h
    exact ⟨p, q, h1, h2, hh.1, hh.2, rfl⟩
  · cases h
theorem op2_eq : Op2 K (rEqD K) fEq := fun t u v H Q h1 h2 h q => by
  obtain ⟨b, h', rfl⟩ := map_some h
  obtain ⟨x, y, e1, e2, s1, s2, rfl⟩ := fEqB_some h'
  exact ⟨x, y, dp_of t x h1 e1, dp_of u y h2 e2, s1, s2, q⟩
theorem op2_ne : Op2 K (rNeD K) fNe := fun t u v H Q h1 h2 h q => by
  obtain ⟨b, h', rfl⟩ := map_some h
  obtain ⟨x, y, e1, e2, s1, s2, rfl⟩ := fEqB_some h'
  exact ⟨x, y, dp_of t x h1 e1, dp_of u y h2 e2, s1, s2, q⟩
theorem fIn_some {x y : D} {v : V} (h : fIn x y = some v) : ∃ p qs o ds, x.dat = some p ∧ y = .n (.lst o) ds ∧ datL ds = some qs ∧ SeqAt.shaped p = true ∧ SeqAt.shaped (.list qs) = true ∧ v = .bl (qs.any fun z => PyData.eqv z p) := by
  obtain ⟨p, h1, h⟩ := bind_some h
  cases y with
  | s _ => cases h
  | n k ds =>
    cases k with
    | lst o =>
      obtain ⟨qs, h2, h⟩ := bind_some h
      split at h
      · rename_i hh
        rw [Bool.and_eq_true] at hh
        cases h
        exact ⟨p, qs, o, ds, h1, rfl, h2, hh.1, hh.2, rfl⟩
      · cases h
    | tup => cases h
    | dic _ _ => cases h
    | dct _ _ => cases h
theorem op2_in : Op2 K (rInD K) fIn := fun t u v H Q h1 h2 h q => by
  obtain ⟨p, qs, o, ds, e1, e2, e3, s1, s2, rfl⟩ := fIn_some h
  exact ⟨p, qs, dp_of t p h1 e1, dp_of u (.list qs) h2 (by rw [e2, D.dat, e3]; rfl), s1, s2, q⟩
theorem op2_notIn : Op2 K (rNotInD K) fNotIn := fun t u v H Q h1 h2 h q => by
  obtain ⟨v', h, h'⟩ := bind_some h
  obtain ⟨p, qs, o, ds, e1, e2, e3, s1, s2, rfl⟩ := fIn_some h
  cases h'
  exact ⟨p, qs, dp_of t p h1 e1, dp_of u (.list qs) h2 (by rw [e2, D.dat, e3]; rfl), s1, s2, q⟩
def isNon : D → Bool
  | .s .non => true
  | _ => false
@[simp] theorem isNon_c0  : isNon (.s .non) = true := rfl
@[simp] theorem isNon_c1 {i : Int} : isNon (.s (.int i)) = false := rfl
@[simp] theorem isNon_c2 {b : Bool} : isNon (.s (.bl b)) = false := rfl
@[simp] theorem isNon_c3 {z : PySem.Str} : isNon (.s (.str z)) = false := rfl
@[simp] theorem isNon_c4 {k : Kd} {ds : List D} : isNon (.n k ds) = false := rfl
theorem er_non {t : T} : isNon t.er = decide (t.val = .non) := by
  cases t with
  | n k a ts => rw [T.er, T.val]; rfl
  | w z k a ts => rw [T.er, T.val]; rfl
  | s v =>
    rw [T.er, T.val]
    cases v <;> rfl
def fIsN (x y : D) : Option V := match y with
  | .s .non => some (.bl (isNon x))
  | _ => none
@[simp] theorem fIsN_c0 {x : D} : fIsN x (.s .non) = some (.bl (isNon x)) := rfl
def fNotN (x y : D) : Option V := match y with
  | .s .non => some (.bl (!isNon x))
  | _ => none
@[simp] theorem fNotN_c0 {x : D} : fNotN x (.s .non) = some (.bl (!isNon x)) := rfl
theorem op2_isN : Op2 K (fun x y H Q => y = .non ∧ Q (.bl (decide (x = .non))) H) fIsN := fun t u v H Q h1 h2 h q => by
  unfold fIsN at h
  split at h
  · rename_i e
    cases h
    rw [er_scl e rfl]
    rw [er_non] at q
    exact ⟨rfl, q⟩
  · cases h
theorem op2_notN : Op2 K (fun x y H Q => y = .non ∧ Q (.bl (!decide (x = .non))) H) fNotN := fun t u v H Q h1 h2 h q => by
  unfold fNotN at h
  split at h
  · rename_i e
    cases h
    rw [er_scl e rfl]
    rw [er_non] at q
    exact ⟨rfl, q⟩
  · cases h
end
theorem hu64 {A : Around} {k : Nat} (hr : Room k A) : A.units + 64 < cLine := by have := hr.un; omega
theorem hu65 {A : Around} {k : Nat} (hr : Room k A) : A.units + 65 < cLine := by have := hr.un; omega
section
variable {X : Cx} {m ma mb : PM} {e a b : Expr} {pos : Pos} {k : Nat} {rest : List Expr}
theorem sp_eq (hr : Room k X.A) (ha : SB X a ma) (hb : SB X b mb) : SP X (.Compare a [.Eq] [b] pos) (mOp2 fEq ma mb) := sp_cmp (op_eqD (hu64 hr)) op2_eq ha hb (nomark _)
theorem sp_ne (hr : Room k X.A) (ha : SB X a ma) (hb : SB X b mb) : SP X (.Compare a [.NotEq] [b] pos) (mOp2 fNe ma mb) := sp_cmp (op_neD (hu64 hr)) op2_ne ha hb (nomark _)
theorem sp_in (hr : Room k X.A) (ha : SB X a ma) (hb : SB X b mb) (hm : behindInMarks .In b = false := by with_unfolding_all rfl) : SP X (.Compare a [.In] [b] pos) (mOp2 fIn ma mb) := sp_cmp (op_inD (hu65 hr)) op2_in ha hb hm
theorem sp_notIn (hr : Room k X.A) (ha : SB X a ma) (hb : SB X b mb) (hm : behindInMarks .NotIn b = false := by with_unfolding_all rfl) : SP X (.Compare a [.NotIn] [b] pos) (mOp2 fNotIn ma mb) := sp_cmp (op_notInD (hu65 hr)) op2_notIn ha hb hm
theorem sp_isN (ha : SB X a ma) (hb : SB X b mb) : SP X (.Compare a [.Is] [b] pos) (mOp2 fIsN ma mb) := sp_cmp op_isN op2_isN ha hb (nomark _)
theorem sp_notN (ha : SB X a ma) (hb : SB X b mb) : SP X (.Compare a [.IsNot] [b] pos) (mOp2 fNotN ma mb) := sp_cmp op_notN op2_notN ha hb (nomark _)

/-! ### tests -/
def toB : D → Option Bool
  | .s (.bl b) => some b
  | _ => none
@[simp] theorem toB_c0 {b : Bool} : toB (.s (.bl b)) = some b := rfl
@[simp] def mB (m : PM) : BM := fun env => (m env).bind toB
@[simp] def mNotT (m : BM) : BM := fun env => (m env).map (!·)
@[simp] def mAnd (m n : BM) : BM := fun env => (m env).bind fun b => if b = true then n env else some false
@[simp] def mOr (m n : BM) : BM := fun env => (m env).bind fun b => if b = true then some true else n env
theorem toB_some {d : D} {b : Bool} (h : toB d = some b) : d = .s (.bl b) := by
  unfold toB at h
  split at h
  · cases h; rfl
  · cases h
theorem st_val (h : SB X e m) (he : ∀ whole, isTrue e X.env whole = (do let v ← whole; standAt e.pos; holding [v] (truthy v)) := by intro _; rfl) : ST X e (mB m) := PT.weak (pt_val h he) fun σ H Q ⟨env, b, hm, r, s, k⟩ => by
  obtain ⟨d, hd, hb⟩ := bind_some hm
  refine ⟨env, d, hd, r, s, fun t H' e1 x1 s1 _ => ?_⟩
  subst e1
  rw [er_scl (toB_some hb) rfl]
  exact ⟨b, rfl, k H' x1⟩
theorem st_not {mt : BM} (h : ST X a mt) : ST X (.UnaryOp .Not a pos) (mNotT mt) := PT.weak (pt_not h) fun σ H Q ⟨env, b, hm, r, s, k⟩ => by
  obtain ⟨c, hc, rfl⟩ := map_some hm
  exact ⟨env, c, hc, r, s, fun H' x1 => k H' x1⟩
theorem sw_and1 {mt : BM} (h : ST X a mt) : SW X (.BoolOp .And [a] pos) mt := pw_and1 h
theorem sw_or1 {mt : BM} (h : ST X a mt) : SW X (.BoolOp .Or [a] pos) mt := pw_or1 h
theorem sw_and {mt mu : BM} (h : ST X a mt) (h2 : SW X (.BoolOp .And (b :: rest) pos) mu) : SW X (.BoolOp .And (a :: b :: rest) pos) (mAnd mt mu) := PW.weak (pw_and h h2) fun σ H Q ⟨env, c, hm, r, s, k⟩ => by
  obtain ⟨x, hx, hm⟩ := bind_some hm
  refine ⟨env, x, hx, r, s, fun H' x1 => ?_⟩
  cases x with
  | true =>
    rw [if_pos rfl] at hm ⊢
    exact ⟨env, c, hm, r, s.ex x1, fun H2 x2 => k H2 (x1.trans x2)⟩
  | false =>
    rw [if_neg Bool.false_ne_true] at hm ⊢
    cases hm
    exact k H' x1
theorem sw_or {mt mu : BM} (h : ST X a mt) (h2 : SW X (.BoolOp .Or (b :: rest) pos) mu) : SW X (.BoolOp .Or (a :: b :: rest) pos) (mOr mt mu) := PW.weak (pw_or h h2) fun σ H Q ⟨env, c, hm, r, s, k⟩ => by
  obtain ⟨x, hx, hm⟩ := bind_some hm
  refine ⟨env, x, hx, r, s, fun H' x1 => ?_⟩
  cases x with
  | false =>
    rw [if_neg Bool.false_ne_true] at hm ⊢
    exact ⟨env, c, hm, r, s.ex x1, fun H2 x2 => k H2 (x1.trans x2)⟩
  | true =>
    rw [if_pos rfl] at hm ⊢
    cases hm
    exact k H' x1
theorem st_w {mt : BM} (h : SW X e mt) : ST X e mt := h.pt
/-- truth of a list, a tuple, an int -/
def tru : D → Option Bool
  | .s .non => some false
  | .s (.bl b) => some b
  | .s (.int i) => some (i != 0)
  | .n (.lst _) ds => some (!ds.isEmpty)
  | .n .tup ds => some (!ds.isEmpty)
  | _ => none
@[simp] theorem tru_c0  : tru (.s .non) = some false := rfl
@[simp] theorem tru_c1 {b : Bool} : tru (.s (.bl b)) = some b := rfl
@[simp] theorem tru_c2 {i : Int} : tru (.s (.int i)) = some (i != 0) := rfl
@[simp] theorem tru_c3 {ds : List D} {o : Fl} : tru (.n (.lst o) ds) = some (!ds.isEmpty) := rfl
@[simp] theorem tru_c4 {ds : List D} : tru (.n .tup ds) = some (!ds.isEmpty) := rfl
@[simp] def mTru (m : PM) : BM := fun env => (m env).bind tru
theorem isEmpty_er {ts : List T} : (vals ts).isEmpty = (erL ts).isEmpty := by
  cases ts <;> rfl
theorem st_tru (h : SB X e m) (he : ∀ whole, isTrue e X.env whole = (do let v ← whole; standAt e.pos; holding [v] (truthy v)) := by intro _; rfl) : ST X e (mTru m) := PT.weak (pt_truth h he) fun σ H Q ⟨env, b, hm, r, s, k⟩ => by
  obtain ⟨d, hd, hb⟩ := bind_some hm
  refine ⟨env, d, hd, r, s, fun t H' e1 x1 s1 _ => ?_⟩
  subst e1
  refine ⟨b, ?_, k H' x1⟩
  unfold tru at hb
  split at hb
  · rename_i e; rw [er_scl e rfl]; cases hb; rfl
  · rename_i e; rw [er_scl e rfl]; cases hb; rfl
  · rename_i e; rw [er_scl e rfl]; cases hb; rfl
  · rename_i e
    obtain ⟨a, ts, e1, e2, e3, _⟩ := rdL s1 e
    cases hb
    rw [e1]
    exact .inl ⟨_, e3, by rw [isEmpty_er, e2]⟩
  · rename_i e
    obtain ⟨a, ts, e1, e2, e3, _⟩ := rdT s1 e
    cases hb
    rw [e1]
    exact .inr (.inl ⟨_, e3, by rw [isEmpty_er, e2]⟩)
  · cases hb
/-! and, or, not as values; a if c else b -/
@[simp] def mAndV (m n : PM) : PM := fun env => ((m env).bind toB).bind fun b => if b = true then ((n env).bind toB).map fun c => .s (.bl c) else some (.s (.bl false))
@[simp] def mOrV (m n : PM) : PM := fun env => ((m env).bind toB).bind fun b => if b = true then some (.s (.bl true)) else ((n env).bind toB).map fun c => .s (.bl c)
@[simp] def mNotV (m : PM) : PM := fun env => ((m env).bind toB).map fun c => .s (.bl (!c))
@[simp] def mIf (c : BM) (m n : PM) : PM := fun env => (c env).bind fun b => if b = true then m env else n env
theorem sp_one {op : BoolOp} (h : SP X a m) : SP X (.BoolOp op [a] pos) m := pe_one h
theorem sp_and (ha : SP X a ma) (hb : SP X (.BoolOp .And (b :: rest) pos) mb) : SP X (.BoolOp .And (a :: b :: rest) pos) (mAndV ma mb) := PE.weak (pe_and ha hb) fun σ H Q ⟨env, d, hm, r, s, k⟩ => by
  obtain ⟨x, hx, hm⟩ := bind_some hm
  obtain ⟨dx, hdx, hx⟩ := bind_some hx
  refine ⟨env, dx, hdx, r, s, fun t H' e1 x1 s1 _ => ?_⟩
  subst e1
  rw [er_scl (toB_some hx) rfl]
  refine ⟨x, rfl, ?_⟩
  cases x with
  | true =>
    rw [if_pos rfl] at hm ⊢
    obtain ⟨c, hc, rfl⟩ := map_some hm
    obtain ⟨dy, hdy, hy⟩ := bind_some hc
    refine ⟨env, dy, hdy, r, s.ex x1, fun t2 H2 e2 x2 s2 o => ?_⟩
    subst e2
    have e3 := er_scl (toB_some hy) rfl
    exact k t2 H2 (toB_some hy) (x1.trans x2) s2 (o.back x1)
  | false =>
    rw [if_neg Bool.false_ne_true] at hm ⊢
    cases hm
    exact k (.s (.bl false)) H' rfl x1 trivial own_s
theorem sp_or (ha : SP X a ma) (hb : SP X (.BoolOp .Or (b :: rest) pos) mb) : SP X (.BoolOp .Or (a :: b :: rest) pos) (mOrV ma mb) := PE.weak (pe_or ha hb) fun σ H Q ⟨env, d, hm, r, s, k⟩ => by
  obtain ⟨x, hx, hm⟩ := bind_some hm
  obtain ⟨dx, hdx, hx⟩ := bind_some hx
  refine ⟨env, dx, hdx, r, s, fun t H' e1 x1 s1 _ => ?_⟩
  subst e1
  rw [er_scl (toB_some hx) rfl]
  refine ⟨x, rfl, ?_⟩
  cases x with
  | false =>
    rw [if_neg Bool.false_ne_true] at hm ⊢
    obtain ⟨c, hc, rfl⟩ := map_some hm
    obtain ⟨dy, hdy, hy⟩ := bind_some hc
    refine ⟨env, dy, hdy, r, s.ex x1, fun t2 H2 e2 x2 s2 o => ?_⟩
    subst e2
    exact k t2 H2 (toB_some hy) (x1.trans x2) s2 (o.back x1)
  | true =>
    rw [if_pos rfl] at hm ⊢
    cases hm
    exact k (.s (.bl true)) H' rfl x1 trivial own_s
theorem sp_not (ha : SP X a ma) : SP X (.UnaryOp .Not a pos) (mNotV ma) := PE.weak (pe_not ha) fun σ H Q ⟨env, d, hm, r, s, k⟩ => by
  obtain ⟨x, hx, rfl⟩ := map_some hm
  obtain ⟨dx, hdx, hx⟩ := bind_some hx
  refine ⟨env, dx, hdx, r, s, fun t H' e1 x1 s1 _ => ?_⟩
  subst e1
  rw [er_scl (toB_some hx) rfl]
  exact ⟨x, rfl, k (.s (.bl (!x))) H' rfl x1 trivial own_s⟩
theorem sp_if {c : Expr} {mc : BM} (hc : ST X c mc) (ha : SP X a ma) (hb : SP X b mb) : SP X (.IfExp c a b pos) (mIf mc ma mb) := PE.weak (pe_ifExp hc ha hb) fun σ H Q ⟨env, d, hm, r, s, k⟩ => by
  obtain ⟨x, hx, hm⟩ := bind_some hm
  refine ⟨env, x, hx, r, s, fun H' x1 => ?_⟩
  cases x with
  | true =>
    rw [if_pos rfl] at hm ⊢
    exact ⟨env, d, hm, r, s.ex x1, fun t H2 e2 x2 s2 o => k t H2 e2 (x1.trans x2) s2 (o.back x1)⟩
  | false =>
    rw [if_neg Bool.false_ne_true] at hm ⊢
    exact ⟨env, d, hm, r, s.ex x1, fun t H2 e2 x2 s2 o => k t H2 e2 (x1.trans x2) s2 (o.back x1)⟩
end
end Ow

namespace Ow
open PySem L2

/-! ### argument lists -/
def OwnL (H : Hp) (env : TEnv) (ts : List T) : Prop := ∀ a, (coL a ts ≤ 1 ∧ (coL a ts = 0 ∨ cuL a ts = 0)) ∧ (0 < coL a ts → H a = none) ∧ (0 < cuL a ts → 0 < cuE a env ∨ H a = none)
def BorL (H : Hp) (env : TEnv) (ts : List T) : Prop := ∀ a, (0 < coL a ts → 0 < coE a env ∨ H a = none) ∧ (0 < cuL a ts → 0 < cuE a env ∨ H a = none)
abbrev LM := Env → Option (List D)
def trBA (K : PySem.W.Frag) (m : LM) : TA := fun σ H Q => ∃ env ds, m (erE env) = some ds ∧ Rel σ env ∧ SatE K H env ∧ ∀ ts H', erL ts = ds → Ex H H' → satL K H' ts → BorL H env ts → Q (vals ts) H'
def trPA (K : PySem.W.Frag) (m : LM) : TA := fun σ H Q => ∃ env ds, m (erE env) = some ds ∧ Rel σ env ∧ SatE K H env ∧ ∀ ts H', erL ts = ds → Ex H H' → satL K H' ts → OwnL H env ts → Q (vals ts) H'
def SBA (X : Cx) (es : List Expr) (m : LM) : Prop := PA X es (trBA X.K m)
def SPA (X : Cx) (es : List Expr) (m : LM) : Prop := PA X es (trPA X.K m)
theorem PA.weak {X : Cx} {es : List Expr} {t u : TA} (h : PA X es t) (w : ∀ σ H Q, u σ H Q → t σ H Q) : PA X es u := ⟨fun p pins s σ H Q I z => h.run p pins s σ H Q I (w σ H Q z)⟩
@[simp] def lNil : LM := fun _ => some []
@[simp] def lCons (m : PM) (n : LM) : LM := fun env => (m env).bind fun d => (n env).map (d :: ·)
section
variable {K : PySem.W.Frag} {H H1 H' : Hp} {env : TEnv} {ts us : List T} {p : Addr}
theorem OwnL.back (e : Ex H H1) (h : OwnL H1 env ts) : OwnL H env ts := fun a =>
  ⟨(h a).1, fun z => Evl.fresh_back e ((h a).2.1 z), fun z => ((h a).2.2 z).imp id (Evl.fresh_back e)⟩
theorem BorL.back (e : Ex H H1) (h : BorL H1 env ts) : BorL H env ts := fun a =>
  ⟨fun z => ((h a).1 z).imp id (Evl.fresh_back e), fun z => ((h a).2 z).imp id (Evl.fresh_back e)⟩
theorem OwnL.bor (h : OwnL H env ts) : BorL H env ts := fun a => ⟨fun z => .inr ((h a).2.1 z), (h a).2.2⟩
theorem BorL.own (h : BorL H env ts) (hp : pureL (erL ts) = true) : OwnL H env ts := fun a => by
  rw [pureL_co ts hp]
  exact ⟨⟨Nat.zero_le _, .inl rfl⟩, fun z => absurd z (Nat.lt_irrefl _), (h a).2⟩
theorem Bor.own {t : T} (h : Bor H env t) (hp : t.er.pure = true) : Own H env t := fun a => by
  rw [pure_co t hp]
  exact ⟨⟨Nat.zero_le _, .inl rfl⟩, fun z => absurd z (Nat.lt_irrefl _), (h a).2⟩
theorem Bor.sub {t : T} (h : Bor H env t) (h1 : ∀ b, coL b ts ≤ t.co b) (h2 : ∀ b, cuL b ts ≤ t.cu b) : BorL H env ts := fun a =>
  ⟨fun z => (h a).1 (Nat.lt_of_lt_of_le z (h1 a)), fun z => (h a).2 (Nat.lt_of_lt_of_le z (h2 a))⟩
theorem BorL.mem {t : T} (h : BorL H env ts) (ht : t ∈ ts) : Bor H env t := fun a =>
  ⟨fun z => (h a).1 (Nat.lt_of_lt_of_le z (coL_mem ht)), fun z => (h a).2 (Nat.lt_of_lt_of_le z (cuL_mem ht))⟩
theorem BorL.subset : ∀ {us : List T}, BorL H env ts → (∀ u ∈ us, u ∈ ts) → BorL H env us
  | [], _, _ => fun a => ⟨fun z => absurd z (by rw [coL]; omega), fun z => absurd z (by rw [cuL]; omega)⟩
  | u :: us, h, hs => fun a => by
    have h1 := (h.mem (hs u (List.mem_cons_self ..))) a
    have h2 := (BorL.subset (us := us) h fun v hv => hs v (List.mem_cons_of_mem _ hv)) a
    rw [coL, cuL]
    refine ⟨fun z => ?_, fun z => ?_⟩
    · by_cases q : 0 < u.co a
      · exact h1.1 q
      · exact h2.1 (by omega)
    · by_cases q : 0 < u.cu a
      · exact h1.2 q
      · exact h2.2 (by omega)
theorem ownL_nil : OwnL H env [] := fun a => by
  rw [coL, cuL]
  exact ⟨⟨Nat.zero_le _, .inl rfl⟩, fun z => absurd z (Nat.lt_irrefl _), fun z => absurd z (Nat.lt_irrefl _)⟩
theorem OwnL.cons {t : T} (x1 : Ex H H1) (hs : SatE K H env) (s1 : t.sat K H1) (o1 : Own H env t) (o2 : OwnL H1 env ts) : OwnL H env (t :: ts) := fun a => by
  have h1 := o1 a
  have h2 := o2 a
  have c1 : 0 < t.co a → H1 a ≠ none := fun z => co_some t s1 z
  have c2 : 0 < t.cu a → H1 a ≠ none := fun z => cu_some t s1 z
  have c3 : 0 < cuE a env → H a ≠ none := fun z => cuE_some hs z
  have c4 : H1 a = none → H a = none := Evl.fresh_back x1
  rw [coL, cuL]
  by_cases q1 : H a = none
  · have n3 : cuE a env = 0 := by
      rcases Nat.eq_zero_or_pos (cuE a env) with z | z
      · exact z
      · exact absurd q1 (c3 z)
    by_cases q2 : H1 a = none
    · have n1 : t.co a = 0 := by
        rcases Nat.eq_zero_or_pos (t.co a) with z | z
        · exact z
        · exact absurd q2 (c1 z)
      have n2 : t.cu a = 0 := by
        rcases Nat.eq_zero_or_pos (t.cu a) with z | z
        · exact z
        · exact absurd q2 (c2 z)
      rw [n1, n2, Nat.zero_add, Nat.zero_add]
      exact ⟨h2.1, fun _ => q1, fun _ => .inr q1⟩
    · have n1 : coL a ts = 0 := by
        rcases Nat.eq_zero_or_pos (coL a ts) with z | z
        · exact z
        · exact absurd (h2.2.1 z) q2
      have n2 : cuL a ts = 0 := by
        rcases Nat.eq_zero_or_pos (cuL a ts) with z | z
        · exact z
        · rcases h2.2.2 z with z | z
          · omega
          · exact absurd z q2
      rw [n1, n2, Nat.add_zero, Nat.add_zero]
      exact ⟨h1.1, fun _ => q1, fun _ => .inr q1⟩
  · have n1 : t.co a = 0 := by
      rcases Nat.eq_zero_or_pos (t.co a) with z | z
      · exact z
      · exact absurd (h1.2.1 z) q1
    have n2 : coL a ts = 0 := by
      rcases Nat.eq_zero_or_pos (coL a ts) with z | z
      · exact z
      · exact absurd (c4 (h2.2.1 z)) q1
    rw [n1, n2]
    refine ⟨⟨by omega, .inl rfl⟩, fun z => absurd z (by omega), fun z => ?_⟩
    by_cases q : 0 < t.cu a
    · exact h1.2.2 q
    · rcases h2.2.2 (by omega) with z | z
      · exact .inl z
      · exact .inr (c4 z)
/-- a new node over what is at hand -/
theorem new_node {k : Kd} (hk : k.isw = false) (x1 : Ex H H1) (hs : SatE K H env) (s1 : satL K H1 us) (o : OwnL H env us) (hp : H1 p = none) :
    Ex H1 (upd H1 p (k.ho (vals us))) ∧ (T.n k p us).sat K (upd H1 p (k.ho (vals us))) ∧ Own H env (.n k p us) := by
  have e := Evl.Ex.new (o := k.ho (vals us)) hp
  refine ⟨e, ⟨⟨upd_same, hk⟩, satL_ex e s1⟩, fun a => ?_⟩
  have h := o a
  have c1 : 0 < coL a us → H1 a ≠ none := fun z => coL_some us s1 z
  have c2 : 0 < cuL a us → H1 a ≠ none := fun z => cuL_some us s1 z
  have c4 : H1 a = none → H a = none := Evl.fresh_back x1
  rw [T.co, T.cu]
  by_cases q : p = a
  · subst q
    have n1 : coL p us = 0 := by
      rcases Nat.eq_zero_or_pos (coL p us) with z | z
      · exact z
      · exact absurd hp (c1 z)
    have n2 : cuL p us = 0 := by
      rcases Nat.eq_zero_or_pos (cuL p us) with z | z
      · exact z
      · exact absurd hp (c2 z)
    rw [n1, n2]
    refine ⟨?_, fun _ => c4 hp, fun _ => .inr (c4 hp)⟩
    cases k.own <;> simp
  · rw [if_neg (fun z => q z.2), if_neg (fun z => q z.2), Nat.zero_add, Nat.zero_add]
    exact h
end
section
variable {X : Cx} {m ma mb : PM} {ml : LM} {e a b : Expr} {es : List Expr} {pos : Pos}
theorem sba_nil : SBA X [] lNil := PA.weak pa_nil fun σ H Q ⟨env, d, hm, r, s, k⟩ => by
  cases hm
  exact k [] H rfl (Evl.Ex.refl H) trivial ownL_nil.bor
theorem spa_nil : SPA X [] lNil := PA.weak pa_nil fun σ H Q ⟨env, d, hm, r, s, k⟩ => by
  cases hm
  exact k [] H rfl (Evl.Ex.refl H) trivial ownL_nil
theorem sba_cons (ha : SB X e m) (hr : SBA X es ml) (hs : starEach (e :: es) X.env = (false, eval e X.env) :: starEach es X.env := by rfl) : SBA X (e :: es) (lCons m ml) := PA.weak (pa_cons ha hr hs) fun σ H Q ⟨env, d, hm, r, s, k⟩ => by
  obtain ⟨x, hx, hm⟩ := bind_some hm
  obtain ⟨ys, hy, rfl⟩ := map_some hm
  refine ⟨env, x, hx, r, s, fun t H1 e1 x1 s1 b1 => ⟨env, ys, hy, r, s.ex x1, fun ts H2 e2 x2 s2 b2 => ?_⟩⟩
  refine k (t :: ts) H2 (by rw [erL, e1, e2]) (x1.trans x2) ⟨sat_ex x2 s1, s2⟩ fun a => ?_
  have h1 := b1 a
  have h2 := (b2.back x1) a
  rw [coL, cuL]
  refine ⟨fun z => ?_, fun z => ?_⟩
  · by_cases q : 0 < t.co a
    · exact h1.1 q
    · exact h2.1 (by omega)
  · by_cases q : 0 < t.cu a
    · exact h1.2 q
    · exact h2.2 (by omega)
theorem spa_cons (ha : SP X e m) (hr : SPA X es ml) (hs : starEach (e :: es) X.env = (false, eval e X.env) :: starEach es X.env := by rfl) : SPA X (e :: es) (lCons m ml) := PA.weak (pa_cons ha hr hs) fun σ H Q ⟨env, d, hm, r, s, k⟩ => by
  obtain ⟨x, hx, hm⟩ := bind_some hm
  obtain ⟨ys, hy, rfl⟩ := map_some hm
  refine ⟨env, x, hx, r, s, fun t H1 e1 x1 s1 b1 => ⟨env, ys, hy, r, s.ex x1, fun ts H2 e2 x2 s2 b2 => ?_⟩⟩
  exact k (t :: ts) H2 (by rw [erL, e1, e2]) (x1.trans x2) ⟨sat_ex x2 s1, s2⟩ (OwnL.cons x1 s s1 b1 b2)

/-! ### displays -/
@[simp] def mk (k : Kd) (m : LM) : PM := fun env => (m env).bind fun ds => if ds.length ≤ 16777216 then some (.n k ds) else none
theorem len_er {ts : List T} {ds : List D} (h : erL ts = ds) : ts.length = ds.length := by rw [← h, erL_length]
theorem sizeLine_le {n : Nat} (h : n ≤ 16777216) : n ≤ sizeLine := by rw [sizeLine_eq]; exact h
theorem mk_some {k : Kd} {m : LM} {env : Env} {d : D} (h : mk k m env = some d) : ∃ ds, m env = some ds ∧ ds.length ≤ 16777216 ∧ d = .n k ds := by
  obtain ⟨ds, h1, h⟩ := bind_some h
  split at h
  · cases h
    exact ⟨ds, h1, by assumption, rfl⟩
  · cases h
theorem sp_lst (h : SPA X es ml) : SP X (.List es pos) (mk (.lst .o) ml) := PE.weak (pe_lst h) fun σ H Q ⟨env, d, hm, r, s, k⟩ => by
  obtain ⟨ds, h1, h2, rfl⟩ := mk_some hm
  refine ⟨env, ds, h1, r, s, fun ts H1 e1 x1 s1 o1 => ⟨sizeLine_le (by rw [List.length_map, len_er e1]; exact h2), fun p hp => ?_⟩⟩
  obtain ⟨x2, s2, o2⟩ := new_node (k := .lst .o) rfl x1 s s1 o1 hp
  exact k (.n (.lst .o) p ts) _ (by rw [T.er, e1]) (x1.trans x2) s2 o2
theorem sp_tup {x1} (h : SPA X es ml) : SP X (.Tuple es x1 pos) (mk .tup ml) := PE.weak (pe_tup h) fun σ H Q ⟨env, d, hm, r, s, k⟩ => by
  obtain ⟨ds, h1, h2, rfl⟩ := mk_some hm
  refine ⟨env, ds, h1, r, s, fun ts H1 e1 x1 s1 o1 => ⟨sizeLine_le (by rw [List.length_map, len_er e1]; exact h2), fun p hp => ?_⟩⟩
  obtain ⟨x2, s2, o2⟩ := new_node (k := .tup) rfl x1 s s1 o1 hp
  exact k (.n .tup p ts) _ (by rw [T.er, e1]) (x1.trans x2) s2 o2

/-! ### calls of built-ins that give scalars, lists -/
def OpN (K : PySem.W.Frag) (r : List V → Hp → VK → Prop) (f : List D → Option V) : Prop := ∀ (ts : List T) (v : V) (H : Hp) (Q : VK), satL K H ts → f (erL ts) = some v → Q v H → r (vals ts) H Q
@[simp] def mCall (f : List D → Option V) (m : LM) : PM := fun env => (m env).bind fun ds => (f ds).bind sv
theorem rdN1 {ta : TA} {r : List V → Hp → VK → Prop} {f : List D → Option V} {K : PySem.W.Frag} {σ : L2.St} {H : Hp} {Q : VK} (ho : OpN K r f) (h : trP K (mCall f ml) σ H Q) : tCB r (trBA K ml) σ H Q := by
  obtain ⟨env, d, hm, hr, hs, k⟩ := h
  obtain ⟨xs, hx, hm⟩ := bind_some hm
  obtain ⟨v, hv, hm⟩ := bind_some hm
  obtain ⟨s1, rfl⟩ := sv_some hm
  refine ⟨env, xs, hx, hr, hs, fun ts H1 e1 x1 s2 _ => ?_⟩
  subst e1
  exact ho ts v H1 Q s2 hv (k (.s v) H1 (by rw [T.er, hid_scl s1]) x1 trivial own_s)
/-- a call that gives a new list: of the arguments' parts -/
def OpNL (K : PySem.W.Frag) (r : List V → Hp → VK → Prop) (f : List D → Option (List D)) : Prop := ∀ (ts : List T) (ds : List D) (H : Hp) (Q : VK), satL K H ts → f (erL ts) = some ds →
  (∀ us p, erL us = ds → satL K H us → (∀ a, 0 < coL a us → 0 < coL a ts) → (∀ a, 0 < cuL a us → 0 < cuL a ts) → H p = none → Q (.ref p) (upd H p (.lst (vals us)))) → r (vals ts) H Q
@[simp] def mCallL (f : List D → Option (List D)) (m : LM) : PM := fun env => (m env).bind fun ds => (f ds).bind fun rs => if pureL rs = true then some (.n (.lst .o) rs) else none
theorem rdNL {r : List V → Hp → VK → Prop} {f : List D → Option (List D)} {K : PySem.W.Frag} {σ : L2.St} {H : Hp} {Q : VK} (ho : OpNL K r f) (h : trP K (mCallL f ml) σ H Q) : tCB r (trBA K ml) σ H Q := by
  obtain ⟨env, d, hm, hr, hs, k⟩ := h
  obtain ⟨xs, hx, hm⟩ := bind_some hm
  obtain ⟨rs, hv, hm⟩ := bind_some hm
  split at hm
  · rename_i hp
    cases hm
    refine ⟨env, xs, hx, hr, hs, fun ts H1 e1 x1 s2 b1 => ?_⟩
    subst e1
    refine ho ts rs H1 Q s2 hv fun us p e2 s3 c1 c2 hn => ?_
    have b2 : BorL H env us := fun a => ⟨fun z => (b1 a).1 (c1 a z), fun z => (b1 a).2 (c2 a z)⟩
    obtain ⟨x2, s4, o2⟩ := new_node (k := .lst .o) rfl x1 hs s3 (b2.own (by rw [e2]; exact hp)) hn
    exact k (.n (.lst .o) p us) _ (by rw [T.er, e2]) (x1.trans x2) s4 o2
  · cases hm
theorem sp_callB {x : Str} {p : Pos} {id : String} {r : List V → Hp → VK → Prop} {f : List D → Option V} (hc : CallR X (.builtin id) r) (hf : OpN X.K r f) (hv : bootBuiltins x = some (.builtin id)) (hm : X.mg x = none) (ha : SBA X (e :: es) ml) (hg : Gl X x := by rfl)
    (hn : x ≠ "__name__" := by decide) (hdb : (x == ("__debug__" : Str)) = false := by decide) (he : starEach (e :: es) X.env = (false, eval e X.env) :: starEach es X.env := by rfl) (hpl : (backTo pos (starEach es X.env)).any (·.1) = false := by rfl) :
    SP X (.Call (.Name x p) (e :: es) [] pos) (mCall f ml) := PE.weak (pe_callB hc hg hm hv ha hn hdb he hpl) fun σ H Q h => rdN1 (ta := trBA X.K ml) hf h
theorem sp_callTy {x : Str} {p : Pos} {id : String} {r : List V → Hp → VK → Prop} {f : List D → Option V} (hc : CallR X (.type id) r) (hf : OpN X.K r f) (hv : bootBuiltins x = some (.type id)) (hm : X.mg x = none) (ha : SBA X (e :: es) ml) (hg : Gl X x := by rfl)
    (hn : x ≠ "__name__" := by decide) (hdb : (x == ("__debug__" : Str)) = false := by decide) (he : starEach (e :: es) X.env = (false, eval e X.env) :: starEach es X.env := by rfl) (hpl : (backTo pos (starEach es X.env)).any (·.1) = false := by rfl) :
    SP X (.Call (.Name x p) (e :: es) [] pos) (mCall f ml) := PE.weak (pe_callTy hc hg hm hv ha hn hdb he hpl) fun σ H Q h => rdN1 (ta := trBA X.K ml) hf h
theorem sp_callBL {x : Str} {p : Pos} {id : String} {r : List V → Hp → VK → Prop} {f : List D → Option (List D)} (hc : CallR X (.builtin id) r) (hf : OpNL X.K r f) (hv : bootBuiltins x = some (.builtin id)) (hm : X.mg x = none) (ha : SBA X (e :: es) ml) (hg : Gl X x := by rfl)
    (hn : x ≠ "__name__" := by decide) (hdb : (x == ("__debug__" : Str)) = false := by decide) (he : starEach (e :: es) X.env = (false, eval e X.env) :: starEach es X.env := by rfl) (hpl : (backTo pos (starEach es X.env)).any (·.1) = false := by rfl) :
    SP X (.Call (.Name x p) (e :: es) [] pos) (mCallL f ml) := PE.weak (pe_callB hc hg hm hv ha hn hdb he hpl) fun σ H Q h => rdNL hf h
theorem sp_callTyL {x : Str} {p : Pos} {id : String} {r : List V → Hp → VK → Prop} {f : List D → Option (List D)} (hc : CallR X (.type id) r) (hf : OpNL X.K r f) (hv : bootBuiltins x = some (.type id)) (hm : X.mg x = none) (ha : SBA X (e :: es) ml) (hg : Gl X x := by rfl)
    (hn : x ≠ "__name__" := by decide) (hdb : (x == ("__debug__" : Str)) = false := by decide) (he : starEach (e :: es) X.env = (false, eval e X.env) :: starEach es X.env := by rfl) (hpl : (backTo pos (starEach es X.env)).any (·.1) = false := by rfl) :
    SP X (.Call (.Name x p) (e :: es) [] pos) (mCallL f ml) := PE.weak (pe_callTy hc hg hm hv ha hn hdb he hpl) fun σ H Q h => rdNL hf h

/-! the built-ins -/
@[simp] def intsD : List D → Option (List Int)
  | [] => some []
  | .s (.int i) :: ds => (intsD ds).map (i :: ·)
  | _ => none
@[simp] def boolsD : List D → Option (List Bool)
  | [] => some []
  | .s (.bl i) :: ds => (boolsD ds).map (i :: ·)
  | _ => none
theorem intsD_of : ∀ {ts : List T} {ns : List Int}, intsD (erL ts) = some ns → ts = ns.map fun i => T.s (.int i)
  | [], ns, h => by
    rw [erL, intsD] at h
    cases h; rfl
  | t :: ts, ns, h => by
    rw [erL] at h
    unfold intsD at h
    split at h
    · rename_i e; cases e
    · rename_i i ds e
      injection e with e1 e2
      subst e2
      obtain ⟨ms, h1, rfl⟩ := map_some h
      rw [List.map_cons, ← intsD_of h1, ← er_int e1]
    · cases h
theorem boolsD_of : ∀ {ts : List T} {ns : List Bool}, boolsD (erL ts) = some ns → ts = ns.map fun i => T.s (.bl i)
  | [], ns, h => by
    rw [erL, boolsD] at h
    cases h; rfl
  | t :: ts, ns, h => by
    rw [erL] at h
    unfold boolsD at h
    split at h
    · rename_i e; cases e
    · rename_i i ds e
      injection e with e1 e2
      subst e2
      obtain ⟨ms, h1, rfl⟩ := map_some h
      rw [List.map_cons, ← boolsD_of h1, ← er_scl e1 rfl]
    · cases h
theorem vals_ints (ns : List Int) : vals (ns.map fun i => T.s (.int i)) = ns.map V.int := by
  rw [vals, List.map_map]
  rfl
theorem vals_bools (ns : List Bool) : vals (ns.map fun i => T.s (.bl i)) = ns.map V.bl := by
  rw [vals, List.map_map]
  rfl
theorem one_er {ts : List T} {d : D} (h : erL ts = [d]) : ∃ t, ts = [t] ∧ t.er = d := by
  match ts, h with
  | [t], h =>
    rw [erL, erL] at h
    cases h
    exact ⟨t, rfl, rfl⟩
theorem two_er {ts : List T} {d c : D} (h : erL ts = [d, c]) : ∃ t u, ts = [t, u] ∧ t.er = d ∧ u.er = c := by
  match ts, h with
  | [t, u], h =>
    rw [erL, erL, erL] at h
    cases h
    exact ⟨t, u, rfl, rfl, rfl⟩
/-- the intsD of a list argument -/
def li : List D → Option (List Int)
  | [.n (.lst _) ds] => intsD ds
  | _ => none
@[simp] theorem li_c0 {ds : List D} {o : Fl} : li [.n (.lst o) ds] = intsD ds := rfl
def lb : List D → Option (List Bool)
  | [.n (.lst _) ds] => boolsD ds
  | _ => none
@[simp] theorem lb_c0 {ds : List D} {o : Fl} : lb [.n (.lst o) ds] = boolsD ds := rfl
theorem li_of {K : PySem.W.Frag} {H : Hp} {ts : List T} {ns : List Int} (hs : satL K H ts) (h : li (erL ts) = some ns) : ∃ a, vals ts = [.ref a] ∧ SqL K H a (ns.map V.int) := by
  unfold li at h
  split at h
  · rename_i o ds e
    obtain ⟨t, rfl, e1⟩ := one_er e
    obtain ⟨a, us, e2, e3, e4, _⟩ := rdL hs.1 e1
    rw [← e3] at h
    refine ⟨a, by rw [vals, List.map_cons, e2]; rfl, ?_⟩
    rw [intsD_of h, vals_ints] at e4
    exact e4
  · cases h
theorem lb_of {K : PySem.W.Frag} {H : Hp} {ts : List T} {ns : List Bool} (hs : satL K H ts) (h : lb (erL ts) = some ns) : ∃ a, vals ts = [.ref a] ∧ SqL K H a (ns.map V.bl) := by
  unfold lb at h
  split at h
  · rename_i o ds e
    obtain ⟨t, rfl, e1⟩ := one_er e
    obtain ⟨a, us, e2, e3, e4, _⟩ := rdL hs.1 e1
    rw [← e3] at h
    refine ⟨a, by rw [vals, List.map_cons, e2]; rfl, ?_⟩
    rw [boolsD_of h, vals_bools] at e4
    exact e4
  · cases h
def fLen : List D → Option V
  | [.n (.lst _) ds] => some (.int ds.length)
  | [.n .tup ds] => some (.int ds.length)
  | _ => none
@[simp] theorem fLen_c0 {ds : List D} {o : Fl} : fLen [.n (.lst o) ds] = some (.int ds.length) := rfl
@[simp] theorem fLen_c1 {ds : List D} : fLen [.n .tup ds] = some (.int ds.length) := rfl
@[simp] def fSum (ds : List D) : Option V := (li ds).map fun ns => .int ns.sum
@[simp] def fMaxL (ds : List D) : Option V := (li ds).bind fun ns => ns.max?.map .int
@[simp] def fMinL (ds : List D) : Option V := (li ds).bind fun ns => ns.min?.map .int
@[simp] def fAny (ds : List D) : Option V := (lb ds).map fun ns => .bl (ns.any id)
@[simp] def fAll (ds : List D) : Option V := (lb ds).map fun ns => .bl (ns.all id)
def fAbs : List D → Option V
  | [.s (.int i)] => some (.int (if i < 0 then -i else i))
  | _ => none
@[simp] theorem fAbs_c0 {i : Int} : fAbs [.s (.int i)] = some (.int (if i < 0 then -i else i)) := rfl
def fMax2 : List D → Option V
  | [.s (.int i), .s (.int j)] => some (.int (if j > i then j else i))
  | _ => none
@[simp] theorem fMax2_c0 {i : Int} {j : Int} : fMax2 [.s (.int i), .s (.int j)] = some (.int (if j > i then j else i)) := rfl
def fMin2 : List D → Option V
  | [.s (.int i), .s (.int j)] => some (.int (if j < i then j else i))
  | _ => none
@[simp] theorem fMin2_c0 {i : Int} {j : Int} : fMin2 [.s (.int i), .s (.int j)] = some (.int (if j < i then j else i)) := rfl
def fInt1 : List D → Option V
  | [.s (.int i)] => some (.int i)
  | [.s (.bl b)] => some (.int (if b then 1 else 0))
  | _ => none
@[simp] theorem fInt1_c0 {i : Int} : fInt1 [.s (.int i)] = some (.int i) := rfl
@[simp] theorem fInt1_c1 {b : Bool} : fInt1 [.s (.bl b)] = some (.int (if b then 1 else 0)) := rfl
def fStr1 : List D → Option V
  | [.s (.int i)] => if i.natAbs.log2 < 1920 then some (.str (toString i)) else none
  | _ => none
section
variable {K : PySem.W.Frag}
theorem opn_len : OpN K (fun xs H Q => ∃ p ys, xs = [.ref p] ∧ (SqL K H p ys ∨ SqT K H p ys) ∧ Q (.int ys.length) H) fLen := fun ts v H Q hs h q => by
  unfold fLen at h
  split at h
  · rename_i o ds e
    cases h
    obtain ⟨t, rfl, e1⟩ := one_er e
    obtain ⟨a, us, e2, e3, e4, _⟩ := rdL hs.1 e1
    refine ⟨a, _, by rw [vals, List.map_cons, e2]; rfl, .inl e4, ?_⟩
    rw [List.length_map, len_er e3]
    exact q
  · rename_i ds e
    cases h
    obtain ⟨t, rfl, e1⟩ := one_er e
    obtain ⟨a, us, e2, e3, e4, _⟩ := rdT hs.1 e1
    refine ⟨a, _, by rw [vals, List.map_cons, e2]; rfl, .inr e4, ?_⟩
    rw [List.length_map, len_er e3]
    exact q
  · cases h
theorem opn_sum : OpN K (rSum K) fSum := fun ts v H Q hs h q => by
  obtain ⟨ns, h1, rfl⟩ := map_some h
  obtain ⟨a, e1, e2⟩ := li_of hs h1
  exact ⟨a, ns, e1, e2, q⟩
theorem opn_max : OpN K (rMax K) fMaxL := fun ts v H Q hs h q => by
  obtain ⟨ns, h1, h⟩ := bind_some h
  obtain ⟨z, h2, rfl⟩ := map_some h
  obtain ⟨a, e1, e2⟩ := li_of hs h1
  rw [List.max?_eq_some_iff] at h2
  refine ⟨a, ns, e1, e2, List.length_pos_of_mem h2.1, fun m hm hx => ?_⟩
  have : m = z := Int.le_antisymm (h2.2 m hm) (hx z h2.1)
  rw [this]
  exact q
theorem opn_min : OpN K (rMin K) fMinL := fun ts v H Q hs h q => by
  obtain ⟨ns, h1, h⟩ := bind_some h
  obtain ⟨z, h2, rfl⟩ := map_some h
  obtain ⟨a, e1, e2⟩ := li_of hs h1
  rw [List.min?_eq_some_iff] at h2
  refine ⟨a, ns, e1, e2, List.length_pos_of_mem h2.1, fun m hm hx => ?_⟩
  have : m = z := Int.le_antisymm (hx z h2.1) (h2.2 m hm)
  rw [this]
  exact q
theorem opn_any : OpN K (rAny K) fAny := fun ts v H Q hs h q => by
  obtain ⟨ns, h1, rfl⟩ := map_some h
  obtain ⟨a, e1, e2⟩ := lb_of hs h1
  exact ⟨a, ns, e1, e2, q⟩
theorem opn_all : OpN K (rAll K) fAll := fun ts v H Q hs h q => by
  obtain ⟨ns, h1, rfl⟩ := map_some h
  obtain ⟨a, e1, e2⟩ := lb_of hs h1
  exact ⟨a, ns, e1, e2, q⟩
theorem opn_abs : OpN K (fun xs H Q => ∃ i, xs = [.int i] ∧ Q (.int (if i < 0 then -i else i)) H) fAbs := fun ts v H Q hs h q => by
  unfold fAbs at h
  split at h
  · rename_i i e
    cases h
    obtain ⟨t, rfl, e1⟩ := one_er e
    rw [er_int e1]
    exact ⟨i, rfl, q⟩
  · cases h
theorem opn_max2 : OpN K (fun xs H Q => ∃ i j, xs = [.int i, .int j] ∧ Q (.int (if j > i then j else i)) H) fMax2 := fun ts v H Q hs h q => by
  unfold fMax2 at h
  split at h
  · rename_i i j e
    cases h
    obtain ⟨t, u, rfl, e1, e2⟩ := two_er e
    rw [er_int e1, er_int e2]
    exact ⟨i, j, rfl, q⟩
  · cases h
theorem opn_min2 : OpN K (fun xs H Q => ∃ i j, xs = [.int i, .int j] ∧ Q (.int (if j < i then j else i)) H) fMin2 := fun ts v H Q hs h q => by
  unfold fMin2 at h
  split at h
  · rename_i i j e
    cases h
    obtain ⟨t, u, rfl, e1, e2⟩ := two_er e
    rw [er_int e1, er_int e2]
    exact ⟨i, j, rfl, q⟩
  · cases h
theorem opn_int1 : OpN K (fun xs H Q => (∃ i, xs = [.int i] ∧ Q (.int i) H) ∨ ∃ k, xs = [.bl k] ∧ Q (.int (if k then 1 else 0)) H) fInt1 := fun ts v H Q hs h q => by
  unfold fInt1 at h
  split at h
  · rename_i i e
    cases h
    obtain ⟨t, rfl, e1⟩ := one_er e
    rw [er_int e1]
    exact .inl ⟨i, rfl, q⟩
  · rename_i i e
    cases h
    obtain ⟨t, rfl, e1⟩ := one_er e
    rw [er_scl e1 rfl]
    exact .inr ⟨i, rfl, q⟩
  · cases h
theorem opn_str1 : OpN K (fun xs H Q => ∃ i, xs = [.int i] ∧ i.natAbs.log2 < 1920 ∧ Q (.str (toString i)) H) fStr1 := fun ts v H Q hs h q => by
  unfold fStr1 at h
  split at h
  · rename_i i e
    split at h
    · rename_i hl
      cases h
      obtain ⟨t, rfl, e1⟩ := one_er e
      rw [er_int e1]
      exact ⟨i, rfl, hl, q⟩
    · cases h
  · cases h
/-- list(x) -/
def fList : List D → Option (List D)
  | [.n (.lst _) ds] => some ds
  | [.n .tup ds] => some ds
  | _ => none
@[simp] theorem fList_c0 {ds : List D} {o : Fl} : fList [.n (.lst o) ds] = some ds := rfl
@[simp] theorem fList_c1 {ds : List D} : fList [.n .tup ds] = some ds := rfl
theorem opnl_list : OpNL K (fun xs H Q => ∃ p ys, xs = [.ref p] ∧ (SqL K H p ys ∨ SqT K H p ys) ∧ ∀ l, H l = none → Q (.ref l) (upd H l (.lst ys))) fList := fun ts ds H Q hs h q => by
  unfold fList at h
  split at h
  · rename_i o ds' e
    cases h
    obtain ⟨t, rfl, e1⟩ := one_er e
    obtain ⟨a, us, e2, e3, e4, e5, e6, e7⟩ := rdL hs.1 e1
    refine ⟨a, _, by rw [vals, List.map_cons, e2]; rfl, .inl e4, fun p hp => q us p e3 e5 (fun b z => ?_) (fun b z => ?_) hp⟩
    · rw [coL]; have := e6 b; omega
    · rw [cuL]; have := e7 b; omega
  · rename_i ds' e
    cases h
    obtain ⟨t, rfl, e1⟩ := one_er e
    obtain ⟨a, us, e2, e3, e4, e5, e6, e7⟩ := rdT hs.1 e1
    refine ⟨a, _, by rw [vals, List.map_cons, e2]; rfl, .inr e4, fun p hp => q us p e3 e5 (fun b z => ?_) (fun b z => ?_) hp⟩
    · rw [coL]; have := e6 b; omega
    · rw [cuL]; have := e7 b; omega
  · cases h
end
end
end Ow

namespace Ow
open PySem L2

/-! ### subscripts, slices, + and * of lists -/
section
variable {K : PySem.W.Frag} {H H1 H' : Hp} {env : TEnv} {ts us : List T} {p : Addr}
theorem atI_map {α β : Type} (f : α → β) (xs : List α) (i : Int) : atI (xs.map f) i = (atI xs i).map f := by
  unfold atI
  rw [List.length_map]
  cases ixN xs.length i with
  | none => rfl
  | some j => exact List.getElem?_map ..
theorem atI_mem {α : Type} {xs : List α} {i : Int} {x : α} (h : atI xs i = some x) : x ∈ xs := by
  unfold atI at h
  obtain ⟨j, _, h⟩ := bind_some h
  exact List.mem_of_getElem? h
def cutG {α : Type} (xs : List α) (lo hi : Option Int) : List α := (xs.drop (HT.sIx xs.length 0 lo)).take (HT.sIx xs.length xs.length hi - HT.sIx xs.length 0 lo)
theorem cutG_map {α β : Type} (f : α → β) (xs : List α) (lo hi : Option Int) : cutG (xs.map f) lo hi = (cutG xs lo hi).map f := by
  unfold cutG
  rw [List.length_map, List.map_take, List.map_drop]
theorem cutV_vals (ts : List T) (lo hi : Option Int) : cutV (vals ts) lo hi = vals (cutG ts lo hi) := cutG_map T.val ts lo hi
theorem cutG_mem {α : Type} {xs : List α} {lo hi : Option Int} {x : α} (h : x ∈ cutG xs lo hi) : x ∈ xs := List.mem_of_mem_drop (List.mem_of_mem_take h)
def fItem (x y : D) : Option D := match x, y with
  | .n (.lst _) ds, .s (.int i) => atI ds i
  | .n .tup ds, .s (.int i) => atI ds i
  | .s (.str z), .s (.int i) => if z.length ≤ 16777216 then (atI z.cps.toList i).map fun c => .s (.str ⟨#[c]⟩) else none
  | _, _ => none
@[simp] theorem fItem_c0 {i : Int} {ds : List D} {o : Fl} : fItem (.n (.lst o) ds) (.s (.int i)) = atI ds i := rfl
@[simp] theorem fItem_c1 {i : Int} {ds : List D} : fItem (.n .tup ds) (.s (.int i)) = atI ds i := rfl
@[simp] def mItem (ma mb : PM) : PM := fun env => (ma env).bind fun x => (mb env).bind fun y => fItem x y
@[simp] def mPure (m : PM) : PM := fun env => (m env).bind fun d => if d.pure = true then some d else none
def rIt (K : PySem.W.Frag) : R2 := fun x y H Q => (rIxL K x y H Q ∨ rIxT K x y H Q) ∨ rIxS x y H Q
end
section
variable {X : Cx} {m ma mb : PM} {ml : LM} {e a b : Expr} {es : List Expr} {pos : Pos}
theorem ix_it : IxR X (rIt X.K) := (ix_list.or ix_tup).or ix_str
theorem sp_pure (h : SB X e m) : SP X e (mPure m) := PE.weak h fun σ H Q ⟨env, d, hm, r, s, k⟩ => by
  obtain ⟨x, hx, hm⟩ := bind_some hm
  split at hm
  · rename_i hp
    cases hm
    refine ⟨env, d, hx, r, s, fun t H1 e1 x1 s1 b1 => k t H1 e1 x1 s1 (b1.own ?_)⟩
    rw [e1]
    exact hp
  · cases hm
theorem sb_item (ha : SB X a ma) (hb : SB X b mb) (hs : PlainIx b := by exact fun _ _ => rfl) : SB X (.Subscript a b pos) (mItem ma mb) := PE.weak (pe_ix ix_it ha hb hs) fun σ H Q ⟨env, d, hm, r, s, k⟩ => by
  obtain ⟨x, hx, hm⟩ := bind_some hm
  obtain ⟨y, hy, hm⟩ := bind_some hm
  refine ⟨env, x, hx, r, s, fun t H1 e1 x1 s1 b1 => ⟨env, y, hy, r, s.ex x1, fun u H2 e2 x2 s2 b2 => ?_⟩⟩
  subst e1 e2
  unfold fItem at hm
  split at hm
  · rename_i o ds i e1 e2
    obtain ⟨a, ts, f1, f2, f3, f4, f5, f6⟩ := rdL (sat_ex x2 s1) e1
    rw [f1, er_int e2]
    rw [← f2, erL_map, atI_map] at hm
    obtain ⟨z, hz, rfl⟩ := map_some hm
    refine .inl (.inl ⟨a, _, i, z.val, rfl, rfl, f3, by rw [vals, atI_map, hz]; rfl, ?_⟩)
    have hz2 := atI_mem hz
    exact k z H2 rfl (x1.trans x2) (satL_iff.mp f4 z hz2) ((b1.sub f5 f6).mem hz2)
  · rename_i ds i e1 e2
    obtain ⟨a, ts, f1, f2, f3, f4, f5, f6⟩ := rdT (sat_ex x2 s1) e1
    rw [f1, er_int e2]
    rw [← f2, erL_map, atI_map] at hm
    obtain ⟨z, hz, rfl⟩ := map_some hm
    refine .inl (.inr ⟨a, _, i, z.val, rfl, rfl, f3, by rw [vals, atI_map, hz]; rfl, ?_⟩)
    have hz2 := atI_mem hz
    exact k z H2 rfl (x1.trans x2) (satL_iff.mp f4 z hz2) ((b1.sub f5 f6).mem hz2)
  · rename_i z i e1 e2
    split at hm
    · rename_i hl
      obtain ⟨c, hc, rfl⟩ := map_some hm
      rw [er_scl e1 rfl, er_int e2]
      exact .inr ⟨z, i, c, rfl, rfl, sizeLine_le hl, hc, k (.s (.str ⟨#[c]⟩)) H2 rfl (x1.trans x2) trivial own_s.bor⟩
    · cases hm
  · cases hm
theorem sp_item (ha : SB X a ma) (hb : SB X b mb) (hs : PlainIx b := by exact fun _ _ => rfl) : SP X (.Subscript a b pos) (mPure (mItem ma mb)) := sp_pure (sb_item ha hb hs)
/-- a part of a slice -/
def trO (K : PySem.W.Frag) (m : Env → Option (Option Int)) : TO := fun σ H Q => ∃ env o, m (erE env) = some o ∧ Rel σ env ∧ SatE K H env ∧ ∀ H', Ex H H' → Q o H'
def SO (X : Cx) (e : Option Expr) (m : Env → Option (Option Int)) : Prop := PO X e (trO X.K m)
theorem PO.weak {e : Option Expr} {t u : TO} (h : PO X e t) (w : ∀ σ H Q, u σ H Q → t σ H Q) : PO X e u := ⟨fun pins s σ H Q I z => h.run pins s σ H Q I (w σ H Q z)⟩
@[simp] def oNo : Env → Option (Option Int) := fun _ => some none
def toI : D → Option Int
  | .s (.int i) => some i
  | _ => none
@[simp] theorem toI_c0 {i : Int} : toI (.s (.int i)) = some i := rfl
theorem toI_some {d : D} {i : Int} (h : toI d = some i) : d = .s (.int i) := by
  unfold toI at h
  split at h
  · cases h; rfl
  · cases h
@[simp] def oYes (m : PM) : Env → Option (Option Int) := fun env => ((m env).bind toI).map some
theorem so_none : SO X none oNo := PO.weak po_none fun σ H Q ⟨env, d, hm, r, s, k⟩ => by
  cases hm
  exact k H (Evl.Ex.refl H)
theorem so_some (h : SB X e m) : SO X (some e) (oYes m) := PO.weak (po_some h) fun σ H Q ⟨env, d, hm, r, s, k⟩ => by
  obtain ⟨i, hi, rfl⟩ := map_some hm
  obtain ⟨x, hx, hi⟩ := bind_some hi
  refine ⟨env, x, hx, r, s, fun t H1 e1 x1 s1 b1 => ?_⟩
  subst e1
  rw [er_int (toI_some hi)]
  exact ⟨i, rfl, k H1 x1⟩
@[simp] def mSl (m : PM) (lo hi : Env → Option (Option Int)) : PM := fun env => (m env).bind fun x => (lo env).bind fun l => (hi env).bind fun h => match x with
  | .n (.lst _) ds => if pureL (cutG ds l h) = true then some (.n (.lst .o) (cutG ds l h)) else none
  | _ => none
theorem sp_slice {lo hi : Option Expr} {p2 : Pos} {ol oh : Env → Option (Option Int)} (ha : SB X a ma) (hl : SO X lo ol) (hh : SO X hi oh) : SP X (.Subscript a (.Slice lo hi none p2) pos) (mSl ma ol oh) := PE.weak (pe_slice sl_list ha hl hh) fun σ H Q ⟨env, d, hm, r, s, k⟩ => by
  obtain ⟨x, hx, hm⟩ := bind_some hm
  obtain ⟨l, hl, hm⟩ := bind_some hm
  obtain ⟨h, hh, hm⟩ := bind_some hm
  refine ⟨env, x, hx, r, s, fun t H1 e1 x1 s1 b1 => ⟨env, l, hl, r, s.ex x1, fun H2 x2 => ⟨env, h, hh, r, (s.ex x1).ex x2, fun H3 x3 => ?_⟩⟩⟩
  subst e1
  split at hm
  · rename_i o ds e1
    split at hm
    · rename_i hp
      cases hm
      obtain ⟨a, ts, f1, f2, f3, f4, f5, f6⟩ := rdL (sat_ex x3 (sat_ex x2 s1)) e1
      rw [f1]
      refine ⟨a, _, rfl, f3, fun p hn => ?_⟩
      rw [cutV_vals]
      have x4 := (x1.trans x2).trans x3
      have f7 : erL (cutG ts l h) = cutG ds l h := by rw [erL_map, ← cutG_map, ← erL_map, f2]
      have b2 : BorL H env (cutG ts l h) := (b1.sub f5 f6).subset fun u hu => cutG_mem hu
      obtain ⟨x5, s5, o5⟩ := new_node (k := .lst .o) rfl x4 s (satL_iff.mpr fun u hu => satL_iff.mp f4 u (cutG_mem hu)) (b2.own (by rw [f7]; exact hp)) hn
      exact k (.n (.lst .o) p (cutG ts l h)) _ (by rw [T.er, f7]) (x4.trans x5) s5 o5
    · cases hm
  · cases hm
@[simp] def nw : Fl → Bool
  | .w => false
  | _ => true
def fCat (x y : D) : Option (List D) := match x, y with
  | .n (.lst o) ds, .n (.lst o') es => if (nw o && nw o' && decide (ds.length + es.length ≤ 16777216)) = true then some (ds ++ es) else none
  | _, _ => none
@[simp] theorem fCat_c0 {ds : List D} {es : List D} {o : Fl} {o2 : Fl} : fCat (.n (.lst o) ds) (.n (.lst o2) es) = if (nw o && nw o2 && decide (ds.length + es.length ≤ 16777216)) = true then some (ds ++ es) else none := rfl
@[simp] def mCat (ma mb : PM) : PM := fun env => (ma env).bind fun x => (mb env).bind fun y => (fCat x y).bind fun rs => if pureL rs = true then some (.n (.lst .o) rs) else none
theorem nw_isw {o : Fl} (h : nw o = true) : (Kd.lst o).isw = false := by cases o <;> first | rfl | cases h
theorem erL_append (ts us : List T) : erL (ts ++ us) = erL ts ++ erL us := by rw [erL_map, erL_map, erL_map, List.map_append]
theorem sp_cat (ha : SB X a ma) (hb : SB X b mb) : SP X (.BinOp a .Add b pos) (mCat ma mb) := PE.weak (pe_op op_cat ha hb) fun σ H Q ⟨env, d, hm, r, s, k⟩ => by
  obtain ⟨x, hx, hm⟩ := bind_some hm
  obtain ⟨y, hy, hm⟩ := bind_some hm
  obtain ⟨rs, hr, hm⟩ := bind_some hm
  split at hm
  · rename_i hp
    cases hm
    refine ⟨env, x, hx, r, s, fun t H1 e1 x1 s1 b1 => ⟨env, y, hy, r, s.ex x1, fun u H2 e2 x2 s2 b2 => ?_⟩⟩
    subst e1 e2
    unfold fCat at hr
    split at hr
    · rename_i o ds o' es e1 e2
      split at hr
      · rename_i hc
        simp only [Bool.and_eq_true, decide_eq_true_eq] at hc
        cases hr
        obtain ⟨a, ts, f1, f2, f3, f4⟩ := rdN (sat_ex x2 s1) e1 (nw_isw hc.1.1) (by simp)
        obtain ⟨c, us, g1, g2, g3, g4⟩ := rdN s2 e2 (nw_isw hc.1.2) (by simp)
        subst f1 g1
        have x3 := x1.trans x2
        refine ⟨a, c, _, _, rfl, rfl, f3, g3, sizeLine_le (by rw [List.length_map, List.length_map, len_er f2, len_er g2]; exact hc.2), fun p hn => ?_⟩
        rw [← List.map_append]
        have c1 : BorL H env ts := b1.sub (fun b => by rw [T.co]; omega) (fun b => by rw [T.cu]; omega)
        have c2 : BorL H env us := (b2.back x1).sub (fun b => by rw [T.co]; omega) (fun b => by rw [T.cu]; omega)
        have c3 : BorL H env (ts ++ us) := fun z => by
          rw [coL_append, cuL_append]
          refine ⟨fun q => ?_, fun q => ?_⟩
          · by_cases w : 0 < coL z ts
            · exact (c1 z).1 w
            · exact (c2 z).1 (by omega)
          · by_cases w : 0 < cuL z ts
            · exact (c1 z).2 w
            · exact (c2 z).2 (by omega)
        have f7 : erL (ts ++ us) = ds ++ es := by rw [erL_append, f2, g2]
        obtain ⟨x5, s5, o5⟩ := new_node (k := .lst .o) rfl x3 s (satL_append.mpr ⟨f4, g4⟩) (c3.own (by rw [f7]; exact hp)) hn
        exact k (.n (.lst .o) p (ts ++ us)) _ (by rw [T.er, f7]) (x3.trans x5) s5 o5
      · cases hr
    · cases hr
  · cases hm
def fRep (x y : D) : Option (List D) := match x, y with
  | .n (.lst o) ds, .s (.int n) => if (nw o && decide (-(2 ^ 63) ≤ n ∧ n < 2 ^ 63 ∧ ds.length * n.toNat ≤ 16777216)) = true then some (List.replicate n.toNat ds).flatten else none
  | _, _ => none
@[simp] theorem fRep_c0 {ds : List D} {o : Fl} {n : Int} : fRep (.n (.lst o) ds) (.s (.int n)) = if (nw o && decide (-(2 ^ 63) ≤ n ∧ n < 2 ^ 63 ∧ ds.length * n.toNat ≤ 16777216)) = true then some (List.replicate n.toNat ds).flatten else none := rfl
@[simp] def mRep (ma mb : PM) : PM := fun env => (ma env).bind fun x => (mb env).bind fun y => (fRep x y).bind fun rs => if pureL rs = true then some (.n (.lst .o) rs) else none
theorem sp_rep (ha : SB X a ma) (hb : SB X b mb) : SP X (.BinOp a .Mult b pos) (mRep ma mb) := PE.weak (pe_op op_rep ha hb) fun σ H Q ⟨env, d, hm, r, s, k⟩ => by
  obtain ⟨x, hx, hm⟩ := bind_some hm
  obtain ⟨y, hy, hm⟩ := bind_some hm
  obtain ⟨rs, hr, hm⟩ := bind_some hm
  split at hm
  · rename_i hp
    cases hm
    refine ⟨env, x, hx, r, s, fun t H1 e1 x1 s1 b1 => ⟨env, y, hy, r, s.ex x1, fun u H2 e2 x2 s2 b2 => ?_⟩⟩
    subst e1 e2
    unfold fRep at hr
    split at hr
    · rename_i o ds n e1 e2
      split at hr
      · rename_i hc
        simp only [Bool.and_eq_true, decide_eq_true_eq] at hc
        cases hr
        obtain ⟨a, ts, f1, f2, f3, f4⟩ := rdN (sat_ex x2 s1) e1 (nw_isw hc.1) (by simp)
        subst f1
        have x3 := x1.trans x2
        rw [er_int e2]
        refine ⟨a, n, _, rfl, rfl, f3, hc.2.1, hc.2.2.1, sizeLine_le (by rw [List.length_map, len_er f2]; exact hc.2.2.2), fun p hn => ?_⟩
        have ev : (List.replicate n.toNat (vals ts)).flatten = vals (List.replicate n.toNat ts).flatten := by
          rw [vals, vals, List.map_flatten, List.map_replicate]
        show Q (.ref p) (upd H2 p (.lst (List.replicate n.toNat (vals ts)).flatten))
        rw [ev]
        have c1 : BorL H env ts := b1.sub (fun b => by rw [T.co]; omega) (fun b => by rw [T.cu]; omega)
        have hsub : ∀ u ∈ (List.replicate n.toNat ts).flatten, u ∈ ts := fun u hu => by
          obtain ⟨l, hl, hu⟩ := List.mem_flatten.mp hu
          rw [List.eq_of_mem_replicate hl] at hu
          exact hu
        have f7 : erL (List.replicate n.toNat ts).flatten = (List.replicate n.toNat ds).flatten := by
          rw [erL_map, List.map_flatten, List.map_replicate, ← erL_map, f2]
        obtain ⟨x5, s5, o5⟩ := new_node (k := .lst .o) rfl x3 s (satL_iff.mpr fun u hu => satL_iff.mp f4 u (hsub u hu)) ((c1.subset hsub).own (by rw [f7]; exact hp)) hn
        exact k (.n (.lst .o) p _) _ (by rw [T.er, f7]) (x3.trans x5) s5 o5
      · cases hr
    · cases hr
  · cases hm
/-- list(range(a, b)) -/
def rgD (a b : Int) : List D := (List.range (b - a).toNat).map fun (i : Nat) => D.s (.int (a + (i : Int)))
def trRg (K : PySem.W.Frag) (m : Env → Option (Int × Int)) : L2.St → Hp → (Int → Int → Hp → Prop) → Prop := fun σ H Q => ∃ env r, m (erE env) = some r ∧ Rel σ env ∧ SatE K H env ∧ ∀ H', Ex H H' → Q r.1 r.2 H'
@[simp] def rg1 (m : PM) : Env → Option (Int × Int) := fun env => ((m env).bind toI).map fun n => (0, n)
@[simp] def rg2 (m n : PM) : Env → Option (Int × Int) := fun env => ((m env).bind toI).bind fun i => ((n env).bind toI).map fun j => (i, j)
instance {a b : Int} : Decidable (RgOk a b) := by unfold RgOk; infer_instance
@[simp] def mRg (r : Env → Option (Int × Int)) : PM := fun env => (r env).bind fun x => if (decide (RgOk x.1 x.2)) = true then some (.n (.lst .o) (rgD x.1 x.2)) else none
end
section
variable {X : Cx} {m ma mb : PM} {ml : LM} {e a b : Expr} {es : List Expr} {pos p : Pos}
def SRg (X : Cx) (e : Expr) (m : Env → Option (Int × Int)) : Prop := PRg X e (trRg X.K m)
theorem srg_1 (hm : X.mg "range" = none) (ha : SB X a ma) (hg : Gl X "range" := by rfl) (na : starEach [a] X.env = (false, eval a X.env) :: starEach [] X.env := by rfl) : SRg X (.Call (.Name "range" p) [a] [] pos) (rg1 ma) := fun pins s σ H Q I h => by
  obtain ⟨env, x, hm', r, hs, k⟩ := h
  obtain ⟨n, hn, rfl⟩ := map_some hm'
  obtain ⟨d, hd, hn⟩ := bind_some hn
  refine prg_1 hg hm ha na pins s σ H Q I ⟨env, d, hd, r, hs, fun t H1 e1 x1 s1 b1 => ?_⟩
  subst e1
  rw [er_int (toI_some hn)]
  exact ⟨n, rfl, k H1 x1⟩
theorem srg_2 (hm : X.mg "range" = none) (ha : SB X a ma) (hb : SB X b mb) (hg : Gl X "range" := by rfl) (na : starEach [a, b] X.env = (false, eval a X.env) :: starEach [b] X.env := by rfl)
    (nb : starEach [b] X.env = (false, eval b X.env) :: starEach [] X.env := by rfl) (hp : (backTo pos (starEach [b] X.env)).any (·.1) = false := by rfl) : SRg X (.Call (.Name "range" p) [a, b] [] pos) (rg2 ma mb) := fun pins s σ H Q I h => by
  obtain ⟨env, x, hm', r, hs, k⟩ := h
  obtain ⟨i, hi, hm'⟩ := bind_some hm'
  obtain ⟨j, hj, rfl⟩ := map_some hm'
  obtain ⟨d, hd, hi⟩ := bind_some hi
  obtain ⟨c, hc, hj⟩ := bind_some hj
  refine prg_2 hg hm ha hb na nb hp pins s σ H Q I ⟨env, d, hd, r, hs, fun t H1 e1 x1 s1 b1 => ⟨env, c, hc, r, hs.ex x1, fun u H2 e2 x2 s2 b2 => ?_⟩⟩
  subst e1 e2
  rw [er_int (toI_some hi), er_int (toI_some hj)]
  exact ⟨i, j, rfl, rfl, k H2 (x1.trans x2)⟩
theorem rgV_vals (a b : Int) : rgV a b = vals ((List.range (b - a).toNat).map fun (i : Nat) => T.s (.int (a + (i : Int)))) := by
  rw [vals, List.map_map]
  rfl
theorem sp_listRg {mr : Env → Option (Int × Int)} (hc : X.calm = true) (hm : X.mg "list" = none) (h : SRg X e mr) (hg : Gl X "list" := by rfl) (hs : starEach [e] X.env = (false, eval e X.env) :: starEach [] X.env := by rfl) : SP X (.Call (.Name "list" p) [e] [] pos) (mRg mr) := PE.weak (pe_listRg hc hg hm h hs) fun σ H Q ⟨env, d, hm, r, s, k⟩ => by
  obtain ⟨x, hx, hm⟩ := bind_some hm
  split at hm
  · rename_i hok
    cases hm
    refine ⟨env, x, hx, r, s, fun H1 x1 => ⟨of_decide_eq_true hok, fun q hq => ?_⟩⟩
    rw [rgV_vals]
    have hown : OwnL H env ((List.range (x.2 - x.1).toNat).map fun (i : Nat) => T.s (.int (x.1 + (i : Int)))) := by
      have : BorL H env ((List.range (x.2 - x.1).toNat).map fun (i : Nat) => T.s (.int (x.1 + (i : Int)))) := by
        generalize List.range (x.2 - x.1).toNat = l
        induction l with
        | nil => exact ownL_nil.bor
        | cons z l ih =>
        intro a
        have := ih a
        rw [List.map_cons, coL, cuL, T.co, T.cu, Nat.zero_add, Nat.zero_add]
        exact this
      refine this.own ?_
      generalize List.range (x.2 - x.1).toNat = l
      induction l with
      | nil => rfl
      | cons z l ih => rw [List.map_cons, erL, pureL, ih]; rfl
    obtain ⟨x2, s2, o2⟩ := new_node (k := .lst .o) (us := (List.range (x.2 - x.1).toNat).map fun (i : Nat) => T.s (.int (x.1 + (i : Int)))) rfl x1 s (satL_iff.mpr fun u hu => by
      obtain ⟨i, _, rfl⟩ := List.mem_map.mp hu
      trivial) hown hq
    refine k (.n (.lst .o) q _) _ ?_ (x1.trans x2) s2 o2
    rw [T.er, erL_map, List.map_map]
    rfl
  · cases hm
end
end Ow

namespace Ow
open PySem L2

/-! ### targets -/
inductive Tg where
  | nm (j : Nat)
  | tp (gs : List Tg)
mutual
def gOf (K : PySem.W.Frag) : Tg → TG
  | .nm j => gName j
  | .tp gs => gTup K gs.length (gsOf K gs)
def gsOf (K : PySem.W.Frag) : List Tg → TGs
  | [] => gNil
  | g :: gs => gCons (gOf K g) (gsOf K gs)
end
mutual
def bD : Tg → D → Env → Option Env
  | .nm j, d, env => some (env.set j (some d))
  | .tp gs, .n .tup ds, env => if ds.length = gs.length then bDs gs ds env else none
  | .tp _, _, _ => none
def bDs : List Tg → List D → Env → Option Env
  | [], [], env => some env
  | g :: gs, d :: ds, env => (bD g d env).bind fun env' => bDs gs ds env'
  | _, _, _ => none
end
mutual
@[simp] def Tg.sl : Tg → List Nat
  | .nm j => [j]
  | .tp gs => slL gs
@[simp] def slL : List Tg → List Nat
  | [] => []
  | g :: gs => g.sl ++ slL gs
end
theorem bD_tp {gs : List Tg} {d : D} {env e' : Env} (h : bD (.tp gs) d env = some e') : ∃ ds, d = .n .tup ds ∧ ds.length = gs.length ∧ bDs gs ds env = some e' := by
  match d, h with
  | .n .tup ds, h =>
    rw [bD] at h
    split at h
    · exact ⟨ds, rfl, by assumption, h⟩
    · cases h
  | .s _, h => simp [bD] at h
  | .n (.lst _) _, h => simp [bD] at h
  | .n (.dic _ _) _, h => simp [bD] at h
  | .n (.dct _ _) _, h => simp [bD] at h
/-- what a binding leaves -/
structure Bnd (K : PySem.W.Frag) (H : Hp) (σ : L2.St) (env : TEnv) (c u : Addr → Nat) (sl : List Nat) (e' : Env) (σ' : L2.St) (env' : TEnv) : Prop where
  er : erE env' = e'
  rel : Rel σ' env'
  len : σ'.length = σ.length
  out : ∀ i, i ∉ sl → σ'[i]? = σ[i]? ∧ env'[i]? = env[i]?
  co : ∀ a, coE a env' ≤ c a + coE a env
  cu : ∀ a, cuE a env' ≤ u a + cuE a env
  sat : ∀ t, some t ∈ env' → some t ∈ env ∨ t.sat K H
section
variable {K : PySem.W.Frag} {H : Hp}
theorem set_co {env : TEnv} {j : Nat} {t : T} {a : Addr} : coE a (env.set j (some t)) ≤ t.co a + coE a env := by
  cases h : env[j]? with
  | none =>
    rw [List.getElem?_eq_none_iff] at h
    rw [List.set_eq_of_length_le h]; omega
  | some x =>
    have := coE_set (a := a) (some t) h
    have e : oT (T.co a) (some t) = t.co a := rfl
    omega
theorem set_cu {env : TEnv} {j : Nat} {t : T} {a : Addr} : cuE a (env.set j (some t)) ≤ t.cu a + cuE a env := by
  cases h : env[j]? with
  | none =>
    rw [List.getElem?_eq_none_iff] at h
    rw [List.set_eq_of_length_le h]; omega
  | some x =>
    have := cuE_set (a := a) (some t) h
    have e : oT (T.cu a) (some t) = t.cu a := rfl
    omega
mutual
theorem g_run : ∀ (g : Tg) (t : T) (σ : L2.St) (env : TEnv) (e' : Env) (Q : L2.St → Hp → Prop), Rel σ env → t.sat K H → bD g t.er (erE env) = some e' →
    (∀ σ' env', Bnd K H σ env (fun a => t.co a) (fun a => t.cu a) g.sl e' σ' env' → Q σ' H) → gOf K g t.val σ H Q
  | .nm j, t, σ, env, e', Q, r, s, h, k => by
    rw [bD] at h
    cases h
    rw [gOf]
    refine k (σ.set j (some t.val)) (env.set j (some t)) ⟨erE_set, r.set, List.length_set, fun i hi => ?_, fun a => set_co, fun a => set_cu, fun u hu => ?_⟩
    · have e : j ≠ i := fun z => hi (by rw [Tg.sl, z]; simp)
      rw [List.getElem?_set, if_neg e, List.getElem?_set, if_neg e]
      exact ⟨rfl, rfl⟩
    · rcases List.mem_or_eq_of_mem_set hu with q | q
      · exact .inl q
      · cases q
        exact .inr s
  | .tp gs, t, σ, env, e', Q, r, s, h, k => by
    obtain ⟨ds, he, hl, h⟩ := bD_tp h
    obtain ⟨a, ts, f1, f2, f3, f4, f5, f6⟩ := rdT s he
    rw [gOf, f1]
    rw [← f2] at h hl
    refine ⟨a, vals ts, rfl, f3, by rw [List.length_map, ← erL_length, hl], gs_run gs ts σ env e' Q r f4 h fun σ' env' b => ?_⟩
    exact k σ' env' ⟨b.er, b.rel, b.len, b.out, fun z => Nat.le_trans (b.co z) (Nat.add_le_add_right (f5 z) _), fun z => Nat.le_trans (b.cu z) (Nat.add_le_add_right (f6 z) _), b.sat⟩
  termination_by g => sizeOf g
  decreasing_by all_goals (simp_wf <;> omega)
theorem gs_run : ∀ (gs : List Tg) (ts : List T) (σ : L2.St) (env : TEnv) (e' : Env) (Q : L2.St → Hp → Prop), Rel σ env → satL K H ts → bDs gs (erL ts) (erE env) = some e' →
    (∀ σ' env', Bnd K H σ env (fun a => coL a ts) (fun a => cuL a ts) (slL gs) e' σ' env' → Q σ' H) → gsOf K gs (vals ts) σ H Q
  | [], [], σ, env, e', Q, r, s, h, k => by
    rw [erL, bDs] at h
    cases h
    rw [gsOf]
    exact ⟨rfl, k σ env ⟨rfl, r, rfl, fun _ _ => ⟨rfl, rfl⟩, fun a => by rw [coL]; omega, fun a => by rw [cuL]; omega, fun t ht => .inl ht⟩⟩
  | [], t :: ts, σ, env, e', Q, r, s, h, k => by simp [erL, bDs] at h
  | g :: gs, [], σ, env, e', Q, r, s, h, k => by simp [erL, bDs] at h
  | g :: gs, t :: ts, σ, env, e', Q, r, s, h, k => by
    rw [erL, bDs] at h
    obtain ⟨e1, h1, h2⟩ := bind_some h
    rw [gsOf]
    refine ⟨t.val, vals ts, rfl, g_run g t σ env e1 _ r s.1 h1 fun σ1 env1 b1 => ?_⟩
    refine gs_run gs ts σ1 env1 e' Q b1.rel s.2 (by rw [b1.er]; exact h2) fun σ2 env2 b2 => ?_
    refine k σ2 env2 ⟨b2.er, b2.rel, b2.len.trans b1.len, fun i hi => ?_, fun a => ?_, fun a => ?_, fun u hu => ?_⟩
    · rw [slL, List.mem_append] at hi
      have x1 := b1.out i (fun z => hi (.inl z))
      have x2 := b2.out i (fun z => hi (.inr z))
      exact ⟨x2.1.trans x1.1, x2.2.trans x1.2⟩
    · have x1 := b1.co a
      have x2 := b2.co a
      rw [coL]; omega
    · have x1 := b1.cu a
      have x2 := b2.cu a
      rw [cuL]; omega
    · rcases b2.sat u hu with q | q
      · exact b1.sat u q
      · exact .inr q
  termination_by gs => sizeOf gs
  decreasing_by all_goals (simp_wf <;> omega)
end
end
def SG (X : Cx) (tg : Expr) (g : Tg) : Prop := PG X tg (gOf X.K g)
def SGs (X : Cx) (ts : List Expr) (gs : List Tg) : Prop := PGs X ts (gsOf X.K gs)
section
variable {X : Cx} {pos : Pos} {e : Expr} {es : List Expr}
theorem sg_name {x : Str} (j : Nat) (hN : X.N.Nodup) (hi : X.N[j]? = some x := by rfl) (hx : Loc X.env.scope x := by first | exact .inl rfl | exact .inr rfl) (hf : X.fn x = true ∨ X.env.scope.names.lookup x = some .local := by first | exact .inl rfl | exact .inr rfl | assumption) :
    SG X (.Name x pos) (.nm j) := by
  unfold SG
  rw [gOf]
  exact pg_name hN hi hx hf
theorem sg_tup {k : Nat} {gs : List Tg} (hc : X.calm = true) (h : SGs X es gs) (hn : (assignEach es X.env).length = gs.length := by rfl) (hst : (assignEach es X.env).findIdx? (·.1) = none := by rfl) : SG X (.Tuple es k pos) (.tp gs) := by
  unfold SG
  rw [gOf]
  exact pg_tup hc h hn hst
theorem sgs_nil : SGs X [] [] := by
  unfold SGs
  rw [gsOf]
  exact pgs_nil
theorem sgs_cons {g : Tg} {gs : List Tg} (h1 : SG X e g) (h2 : SGs X es gs) (hs : (assignEach (e :: es) X.env).map (·.2) = assign e X.env :: (assignEach es X.env).map (·.2) := by rfl) : SGs X (e :: es) (g :: gs) := by
  unfold SGs
  rw [gsOf]
  exact pgs_cons h1 h2 hs
end

/-! ### what is walked -/
structure Wk (K : PySem.W.Frag) (J : It) (src : List T) (ds : List D) : Prop where
  stop : ∀ i H, satL K H src → ds.length ≤ i → J.stop i H
  go : ∀ i H, satL K H src → i < ds.length → J.go i H
  yld : ∀ i H x H', satL K H src → J.yld i H x H' → ∀ d, ds[i]? = some d → ∃ t : T, t.val = x ∧ t.er = d ∧ Ex H H' ∧ t.sat K H' ∧ (∀ a, 0 < t.co a → 0 < coL a src) ∧ (∀ a, 0 < t.cu a → 0 < cuL a src ∨ H a = none)
def trI (K : PySem.W.Frag) (m : LM) : TI := fun σ H R => ∃ env ds, m (erE env) = some ds ∧ Rel σ env ∧ SatE K H env ∧ ∀ J src H1, Ex H H1 → satL K H1 src → BorL H env src → Wk K J src ds → R J H1
def trJ (K : PySem.W.Frag) (m : LM) : TI := fun σ H R => ∃ env ds, m (erE env) = some ds ∧ Rel σ env ∧ SatE K H env ∧ ∀ J src H1, Ex H H1 → satL K H1 src → OwnL H env src → Wk K J src ds → R J H1
def SI (X : Cx) (tg e : Expr) (m : LM) : Prop := PI X tg e (trI X.K m)
def SJ (X : Cx) (tg e : Expr) (m : LM) : Prop := PI X tg e (trJ X.K m)
theorem PI.weak {X : Cx} {tg e : Expr} {t u : TI} (h : PI X tg e t) (w : ∀ σ H Q, u σ H Q → t σ H Q) : PI X tg e u := ⟨fun pins s σ H Q I z => h.run pins s σ H Q I (w σ H Q z)⟩
def asL : D → Option (List D)
  | .n (.lst _) ds => some ds
  | _ => none
@[simp] theorem asL_c0 {ds : List D} {o : Fl} : asL (.n (.lst o) ds) = some ds := rfl
def asT : D → Option (List D)
  | .n .tup ds => some ds
  | _ => none
@[simp] theorem asT_c0 {ds : List D} : asT (.n .tup ds) = some ds := rfl
theorem asL_some {d : D} {ds : List D} (h : asL d = some ds) : ∃ o, d = .n (.lst o) ds := by
  unfold asL at h
  split at h
  · cases h; exact ⟨_, rfl⟩
  · cases h
theorem asT_some {d : D} {ds : List D} (h : asT d = some ds) : d = .n .tup ds := by
  unfold asT at h
  split at h
  · cases h; rfl
  · cases h
section
variable {K : PySem.W.Frag}
theorem er_at {ts : List T} {ds : List D} {i : Nat} {d : D} (e : erL ts = ds) (h : ds[i]? = some d) : ∃ t, ts[i]? = some t ∧ t.er = d := by
  rw [← e, erL_map, List.getElem?_map] at h
  obtain ⟨t, h1, h2⟩ := map_some h
  exact ⟨t, h1, h2⟩
def T.kids : T → List T
  | .s _ => []
  | .n _ _ ts => ts
  | .w _ _ _ ts => ts
theorem rdLk {t : T} {H : Hp} {o : Fl} {ds : List D} (hs : t.sat K H) (he : t.er = .n (.lst o) ds) : ∃ a, t.val = .ref a ∧ erL t.kids = ds ∧ SqL K H a (vals t.kids) ∧ satL K H t.kids ∧ (∀ b, coL b t.kids ≤ t.co b) ∧ (∀ b, cuL b t.kids ≤ t.cu b) := by
  cases t with
  | s v => rw [T.er] at he; cases he
  | n k a ts =>
    rw [T.er] at he
    cases he
    exact ⟨a, rfl, rfl, .inl (.inl hs.1.1), hs.2, fun b => by rw [T.co, T.kids]; omega, fun b => by rw [T.cu, T.kids]; omega⟩
  | w z k a ts =>
    rw [T.er] at he
    cases k with
    | lst o' =>
      cases he
      refine ⟨a, rfl, rfl, ?_, hs.2, fun b => by rw [T.co, T.kids]; omega, fun b => by rw [T.cu, T.kids]; omega⟩
      cases z with
      | true => exact sql_up hs.1
      | false => exact .inl (.inr hs.1)
    | tup => cases he
    | dic _ _ => cases he
    | dct _ _ => cases he
theorem rdTk {t : T} {H : Hp} {ds : List D} (hs : t.sat K H) (he : t.er = .n .tup ds) : ∃ a, t.val = .ref a ∧ erL t.kids = ds ∧ SqT K H a (vals t.kids) ∧ satL K H t.kids ∧ (∀ b, coL b t.kids ≤ t.co b) ∧ (∀ b, cuL b t.kids ≤ t.cu b) := by
  cases t with
  | s v => rw [T.er] at he; cases he
  | n k a ts =>
    rw [T.er] at he
    cases he
    exact ⟨a, rfl, rfl, .inl (.inl hs.1.1), hs.2, fun b => by rw [T.co, T.kids]; omega, fun b => by rw [T.cu, T.kids]; omega⟩
  | w z k a ts =>
    rw [T.er] at he
    cases k with
    | tup =>
      cases he
      refine ⟨a, rfl, rfl, ?_, hs.2, fun b => by rw [T.co, T.kids]; omega, fun b => by rw [T.cu, T.kids]; omega⟩
      cases z with
      | true => exact sqt_up hs.1
      | false => exact .inl (.inr hs.1)
    | lst _ => cases he
    | dic _ _ => cases he
    | dct _ _ => cases he
theorem sat_at {H : Hp} {ts : List T} {i : Nat} {t : T} (h : satL K H ts) (g : ts[i]? = some t) : t.sat K H := satL_iff.mp h t (List.mem_of_getElem? g)
theorem vals_at {ts : List T} {i : Nat} {t : T} (g : ts[i]? = some t) : (vals ts)[i]? = some t.val := by rw [vals, List.getElem?_map, g]; rfl
theorem co1 {t : T} {a : Addr} : coL a [t] = t.co a := by rw [coL, coL, Nat.add_zero]
theorem cu1 {t : T} {a : Addr} : cuL a [t] = t.cu a := by rw [cuL, cuL, Nat.add_zero]
theorem wk_list {t : T} {H0 : Hp} {o : Fl} {ds : List D} (hs0 : t.sat K H0) (e : t.er = .n (.lst o) ds) : ∃ a, t.val = .ref a ∧ SqL K H0 a (vals t.kids) ∧ Wk K (Itl K a) [t] ds := by
  obtain ⟨a, f1, f2, f3, _, f5, f6⟩ := rdLk hs0 e
  have key : ∀ H, satL K H [t] → SqL K H a (vals t.kids) ∧ satL K H t.kids := fun H hs => by
    obtain ⟨a', g1, g2, g3, g4, _⟩ := rdLk hs.1 e
    rw [f1] at g1
    cases g1
    exact ⟨g3, g4⟩
  have hl : ds.length = (vals t.kids).length := by rw [List.length_map, len_er f2]
  refine ⟨a, f1, f3, fun i H hs hi => ⟨_, (key H hs).1, by rw [← hl]; exact hi⟩, fun i H hs hi => ?_, fun i H x H' hs y d hd => ?_⟩
  · obtain ⟨u, hu, _⟩ := er_at f2 (List.getElem?_eq_getElem hi)
    exact ⟨_, u.val, (key H hs).1, vals_at hu⟩
  · obtain ⟨rfl, y⟩ := y
    obtain ⟨u, hu, he⟩ := er_at f2 hd
    have q := y _ (key _ hs).1
    rw [vals_at hu] at q
    cases q
    have hm := List.mem_of_getElem? hu
    refine ⟨u, rfl, he, Evl.Ex.refl _, sat_at (key _ hs).2 hu, fun b hb => ?_, fun b hb => .inl ?_⟩
    · rw [co1]; exact Nat.lt_of_lt_of_le hb (Nat.le_trans (coL_mem hm) (f5 b))
    · rw [cu1]; exact Nat.lt_of_lt_of_le hb (Nat.le_trans (cuL_mem hm) (f6 b))
theorem wk_tup {t : T} {H0 : Hp} {ds : List D} (hs0 : t.sat K H0) (e : t.er = .n .tup ds) : ∃ a, t.val = .ref a ∧ SqT K H0 a (vals t.kids) ∧ Wk K (Itt K a) [t] ds := by
  obtain ⟨a, f1, f2, f3, _, f5, f6⟩ := rdTk hs0 e
  have key : ∀ H, satL K H [t] → SqT K H a (vals t.kids) ∧ satL K H t.kids := fun H hs => by
    obtain ⟨a', g1, g2, g3, g4, _⟩ := rdTk hs.1 e
    rw [f1] at g1
    cases g1
    exact ⟨g3, g4⟩
  have hl : ds.length = (vals t.kids).length := by rw [List.length_map, len_er f2]
  refine ⟨a, f1, f3, fun i H hs hi => ⟨_, (key H hs).1, by rw [← hl]; exact hi⟩, fun i H hs hi => ?_, fun i H x H' hs y d hd => ?_⟩
  · obtain ⟨u, hu, _⟩ := er_at f2 (List.getElem?_eq_getElem hi)
    exact ⟨_, u.val, (key H hs).1, vals_at hu⟩
  · obtain ⟨rfl, y⟩ := y
    obtain ⟨u, hu, he⟩ := er_at f2 hd
    have q := y _ (key _ hs).1
    rw [vals_at hu] at q
    cases q
    have hm := List.mem_of_getElem? hu
    refine ⟨u, rfl, he, Evl.Ex.refl _, sat_at (key _ hs).2 hu, fun b hb => ?_, fun b hb => .inl ?_⟩
    · rw [co1]; exact Nat.lt_of_lt_of_le hb (Nat.le_trans (coL_mem hm) (f5 b))
    · rw [cu1]; exact Nat.lt_of_lt_of_le hb (Nat.le_trans (cuL_mem hm) (f6 b))
def rgDn (lo : Int) (n : Nat) : List D := (List.range n).map fun (i : Nat) => D.s (.int (lo + (i : Int)))
theorem wk_range {lo : Int} {n : Nat} : Wk K (Itr lo n) [] (rgDn lo n) := by
  have hl : (rgDn lo n).length = n := by rw [rgDn, List.length_map, List.length_range]
  refine ⟨fun i H _ hi => by rw [hl] at hi; exact hi, fun i H _ hi => by rw [hl] at hi; exact hi, fun i H x H' _ y d hd => ?_⟩
  obtain ⟨rfl, rfl⟩ := y
  rw [rgDn, List.getElem?_map] at hd
  obtain ⟨j, h1, rfl⟩ := map_some hd
  have hj : j = i := by
    obtain ⟨hi, e⟩ := List.getElem?_eq_some_iff.mp h1
    rw [List.getElem_range] at e
    exact e.symm
  subst hj
  exact ⟨.s (.int (lo + (j : Int))), rfl, rfl, Evl.Ex.refl _, trivial, fun b hb => by rw [T.co] at hb; omega, fun b hb => by rw [T.cu] at hb; omega⟩
/-- a new pair over what stands -/
theorem pair_new {H : Hp} {p : Addr} {t u : T} (hp : H p = none) (s1 : t.sat K H) (s2 : u.sat K H) : Ex H (upd H p (.tup [t.val, u.val])) ∧ (T.n .tup p [t, u]).sat K (upd H p (.tup [t.val, u.val])) := by
  have e : Ex H (upd H p (.tup [t.val, u.val])) := Evl.Ex.new hp
  exact ⟨e, ⟨upd_same, rfl⟩, sat_ex e s1, sat_ex e s2, trivial⟩
theorem wk_zip {t u : T} {H0 : Hp} {o o' : Fl} {ds es : List D} (hs0 : t.sat K H0) (e : t.er = .n (.lst o) ds) (hs1 : u.sat K H0) (e' : u.er = .n (.lst o') es) :
    ∃ a b, t.val = .ref a ∧ u.val = .ref b ∧ SqL K H0 a (vals t.kids) ∧ SqL K H0 b (vals u.kids) ∧ Wk K (Itz K a b) [t, u] (List.zipWith (fun x y => D.n .tup [x, y]) ds es) := by
  obtain ⟨a, f1, f2, f3, _, f5, f6⟩ := rdLk hs0 e
  obtain ⟨b, g1, g2, g3, _, g5, g6⟩ := rdLk hs1 e'
  have key : ∀ H, satL K H [t, u] → (SqL K H a (vals t.kids) ∧ satL K H t.kids) ∧ SqL K H b (vals u.kids) ∧ satL K H u.kids := fun H hs => by
    obtain ⟨a', h1, h2, h3, h4, _⟩ := rdLk hs.1 e
    obtain ⟨b', k1, k2, k3, k4, _⟩ := rdLk hs.2.1 e'
    rw [f1] at h1
    rw [g1] at k1
    cases h1
    cases k1
    exact ⟨⟨h3, h4⟩, k3, k4⟩
  have l1 : ds.length = (vals t.kids).length := by rw [List.length_map, len_er f2]
  have l2 : es.length = (vals u.kids).length := by rw [List.length_map, len_er g2]
  refine ⟨a, b, f1, g1, f3, g3, fun i H hs hi => ⟨_, _, (key H hs).1.1, (key H hs).2.1, ?_⟩, fun i H hs hi => ?_, fun i H x H' hs y d hd => ?_⟩
  · rw [List.length_zipWith] at hi; omega
  · rw [List.length_zipWith] at hi
    obtain ⟨v, hv, _⟩ := er_at f2 (List.getElem?_eq_getElem (show i < ds.length by omega))
    obtain ⟨w, hw, _⟩ := er_at g2 (List.getElem?_eq_getElem (show i < es.length by omega))
    exact ⟨_, _, v.val, w.val, (key H hs).1.1, (key H hs).2.1, vals_at hv, vals_at hw⟩
  · obtain ⟨p, x1, y1, rfl, hp, rfl, z1, z2⟩ := y
    rw [List.getElem?_zipWith] at hd
    cases c1 : ds[i]? with
    | none => rw [c1] at hd; cases hd
    | some d1 =>
      cases c2 : es[i]? with
      | none => rw [c1, c2] at hd; cases hd
      | some d2 =>
        rw [c1, c2] at hd
        cases hd
        obtain ⟨v, hv, ev⟩ := er_at f2 c1
        obtain ⟨w, hw, ew⟩ := er_at g2 c2
        have q1 := z1 _ (key _ hs).1.1
        have q2 := z2 _ (key _ hs).2.1
        rw [vals_at hv] at q1
        rw [vals_at hw] at q2
        cases q1
        cases q2
        obtain ⟨x3, s3⟩ := pair_new (K := K) hp (sat_at (key _ hs).1.2 hv) (sat_at (key _ hs).2.2 hw)
        have m1 := List.mem_of_getElem? hv
        have m2 := List.mem_of_getElem? hw
        refine ⟨.n .tup p [v, w], rfl, by rw [T.er, erL, erL, erL, ev, ew], x3, s3, fun c hc => ?_, fun c hc => ?_⟩
        · have n1 := Nat.le_trans (coL_mem (a := c) m1) (f5 c)
          have n2 := Nat.le_trans (coL_mem (a := c) m2) (g5 c)
          simp only [T.co, coL, Kd.own, Bool.false_eq_true, false_and, if_false] at hc ⊢
          omega
        · have n1 := Nat.le_trans (cuL_mem (a := c) m1) (f6 c)
          have n2 := Nat.le_trans (cuL_mem (a := c) m2) (g6 c)
          by_cases q : p = c
          · subst q
            exact .inr hp
          · simp only [T.cu, cuL, q, and_false, if_false] at hc ⊢
            exact .inl (by omega)
def enD : Nat → List D → List D
  | _, [] => []
  | i, d :: ds => .n .tup [.s (.int (i : Int)), d] :: enD (i + 1) ds
theorem enD_at : ∀ {ds : List D} {k i : Nat} {d : D}, (enD k ds)[i]? = some d → ∃ c, ds[i]? = some c ∧ d = .n .tup [.s (.int ((k + i : Nat) : Int)), c]
  | [], _, _, _, h => by simp [enD] at h
  | c :: ds, k, 0, d, h => by
    rw [enD] at h
    exact ⟨c, rfl, (Option.some.inj h).symm⟩
  | c :: ds, k, i + 1, d, h => by
    rw [enD, List.getElem?_cons_succ] at h
    obtain ⟨c', h1, h2⟩ := enD_at h
    refine ⟨c', h1, ?_⟩
    rw [h2, show k + 1 + i = k + (i + 1) by omega]
theorem enD_len : ∀ {ds : List D} {k : Nat}, (enD k ds).length = ds.length
  | [], _ => rfl
  | d :: ds, k => by rw [enD, List.length_cons, enD_len, List.length_cons]
theorem wk_enum {t : T} {H0 : Hp} {o : Fl} {ds : List D} (hs0 : t.sat K H0) (e : t.er = .n (.lst o) ds) : ∃ a, t.val = .ref a ∧ SqL K H0 a (vals t.kids) ∧ Wk K (Ite K a) [t] (enD 0 ds) := by
  obtain ⟨a, f1, f2, f3, _, f5, f6⟩ := rdLk hs0 e
  have key : ∀ H, satL K H [t] → SqL K H a (vals t.kids) ∧ satL K H t.kids := fun H hs => by
    obtain ⟨a', g1, g2, g3, g4, _⟩ := rdLk hs.1 e
    rw [f1] at g1
    cases g1
    exact ⟨g3, g4⟩
  have hl : ds.length = (vals t.kids).length := by rw [List.length_map, len_er f2]
  refine ⟨a, f1, f3, fun i H hs hi => ⟨_, (key H hs).1, by rw [← hl]; rw [enD_len] at hi; exact hi⟩, fun i H hs hi => ?_, fun i H x H' hs y d hd => ?_⟩
  · rw [enD_len] at hi
    obtain ⟨u, hu, _⟩ := er_at f2 (List.getElem?_eq_getElem hi)
    exact ⟨_, u.val, (key H hs).1, vals_at hu⟩
  · obtain ⟨p, x1, rfl, hp, rfl, z1⟩ := y
    obtain ⟨c, hc, rfl⟩ := enD_at hd
    obtain ⟨u, hu, he⟩ := er_at f2 hc
    have q := z1 _ (key _ hs).1
    rw [vals_at hu] at q
    cases q
    obtain ⟨x3, s3⟩ := pair_new (K := K) (t := .s (.int ((i : Nat) : Int))) hp trivial (sat_at (key _ hs).2 hu)
    have m1 := List.mem_of_getElem? hu
    refine ⟨.n .tup p [.s (.int ((i : Nat) : Int)), u], rfl, ?_, x3, s3, fun c hc => ?_, fun c hc => ?_⟩
    · rw [T.er, erL, erL, erL, he, T.er, Nat.zero_add]
      rfl
    · have n1 := Nat.le_trans (coL_mem (a := c) m1) (f5 c)
      simp only [T.co, coL, Kd.own, Bool.false_eq_true, false_and, if_false] at hc ⊢
      omega
    · have n1 := Nat.le_trans (cuL_mem (a := c) m1) (f6 c)
      by_cases q : p = c
      · subst q
        exact .inr hp
      · simp only [T.cu, cuL, q, and_false, if_false] at hc ⊢
        exact .inl (by omega)
end
end Ow

namespace Ow
open PySem L2

section
variable {X : Cx} {tg e a b : Expr} {es : List Expr} {m ma mb : PM} {ml : LM} {pos p tpos : Pos}
theorem bor1 {H : Hp} {env : TEnv} {t : T} (h : Bor H env t) : BorL H env [t] := fun a => by rw [co1, cu1]; exact h a
theorem own1 {H : Hp} {env : TEnv} {t : T} (h : Own H env t) : OwnL H env [t] := fun a => by rw [co1, cu1]; exact h a
@[simp] def wL (m : PM) : LM := fun env => (m env).bind asL
@[simp] def wT (m : PM) : LM := fun env => (m env).bind asT
theorem si_list (h : SB X e m) : SI X tg e (wL m) := PI.weak (pi_list h) fun σ H R ⟨env, ds, hm, r, s, k⟩ => by
  obtain ⟨d, hd, h1⟩ := bind_some hm
  obtain ⟨o, rfl⟩ := asL_some h1
  refine ⟨env, _, hd, r, s, fun t H1 e1 x1 s1 b1 => ?_⟩
  obtain ⟨a, f1, f2, w⟩ := wk_list s1 e1
  exact ⟨a, f1, ⟨_, f2⟩, k _ [t] H1 x1 ⟨s1, trivial⟩ (bor1 b1) w⟩
theorem sj_list (h : SP X e m) : SJ X tg e (wL m) := PI.weak (pi_list h) fun σ H R ⟨env, ds, hm, r, s, k⟩ => by
  obtain ⟨d, hd, h1⟩ := bind_some hm
  obtain ⟨o, rfl⟩ := asL_some h1
  refine ⟨env, _, hd, r, s, fun t H1 e1 x1 s1 b1 => ?_⟩
  obtain ⟨a, f1, f2, w⟩ := wk_list s1 e1
  exact ⟨a, f1, ⟨_, f2⟩, k _ [t] H1 x1 ⟨s1, trivial⟩ (own1 b1) w⟩
theorem si_tup (h : SB X e m) : SI X tg e (wT m) := PI.weak (pi_tup h) fun σ H R ⟨env, ds, hm, r, s, k⟩ => by
  obtain ⟨d, hd, h1⟩ := bind_some hm
  have h2 := asT_some h1
  subst h2
  refine ⟨env, _, hd, r, s, fun t H1 e1 x1 s1 b1 => ?_⟩
  obtain ⟨a, f1, f2, w⟩ := wk_tup s1 e1
  exact ⟨a, f1, ⟨_, f2⟩, k _ [t] H1 x1 ⟨s1, trivial⟩ (bor1 b1) w⟩
theorem sj_tup (h : SP X e m) : SJ X tg e (wT m) := PI.weak (pi_tup h) fun σ H R ⟨env, ds, hm, r, s, k⟩ => by
  obtain ⟨d, hd, h1⟩ := bind_some hm
  have h2 := asT_some h1
  subst h2
  refine ⟨env, _, hd, r, s, fun t H1 e1 x1 s1 b1 => ?_⟩
  obtain ⟨a, f1, f2, w⟩ := wk_tup s1 e1
  exact ⟨a, f1, ⟨_, f2⟩, k _ [t] H1 x1 ⟨s1, trivial⟩ (own1 b1) w⟩
@[simp] def wR (m : Env → Option (Int × Int)) : LM := fun env => (m env).bind fun r => if (decide (RgOk r.1 r.2)) = true then some (rgDn r.1 (r.2 - r.1).toNat) else none
@[simp] def a1 (m : PM) : LM := lCons m lNil
@[simp] def a2 (m n : PM) : LM := lCons m (lCons n lNil)
theorem i1_of {ts : List T} {d : D} {i : Int} (h : erL ts = [d]) (hi : toI d = some i) : vals ts = [.int i] := by
  obtain ⟨t, rfl, e⟩ := one_er h
  rw [toI_some hi] at e
  rw [er_int e]; rfl
theorem i2_of {ts : List T} {d c : D} {i j : Int} (h : erL ts = [d, c]) (hi : toI d = some i) (hj : toI c = some j) : vals ts = [.int i, .int j] := by
  obtain ⟨t, u, rfl, e, e'⟩ := two_er h
  rw [toI_some hi] at e
  rw [toI_some hj] at e'
  rw [er_int e, er_int e']; rfl
theorem wk_weak_range {K : PySem.W.Frag} {lo hi : Int} {n : Nat} (h : n = (hi - lo).toNat) : Wk K (Itr lo n) [] (rgDn lo (hi - lo).toNat) := by
  rw [← h]; exact wk_range
theorem range1_rd {K : PySem.W.Frag} {σ : L2.St} {H : Hp} {R : It → Hp → Prop} {own : Bool} (env : TEnv) (ds : List D) (hm : wR (rg1 ma) (erE env) = some ds) (r : Rel σ env) (s : SatE K H env)
    (k : ∀ J H1, Ex H H1 → Wk K J [] ds → R J H1) : iRng1 (trBA K (lCons ma lNil)) σ H R := by
  obtain ⟨x, hx, hm⟩ := bind_some hm
  obtain ⟨n, hn, rfl⟩ := map_some hx
  obtain ⟨d, hd, hn⟩ := bind_some hn
  split at hm
  · rename_i hok
    have hok := of_decide_eq_true hok
    cases hm
    refine ⟨env, [d], ?_, r, s, fun ts H1 e1 x1 s1 b1 => ⟨n, i1_of e1 hn, hok.2.2.1, hok.2.2.2.1, k _ H1 x1 (wk_weak_range (by simp))⟩⟩
    rw [lCons, hd]; rfl
  · cases hm
theorem si_range1 (hm : X.mg "range" = none) (ha : SB X a ma) (hg : Gl X "range" := by rfl) (hp : starEach [a] X.env = (false, eval a X.env) :: starEach [] X.env := by rfl) (hs : starEach [a] X.env = [(false, eval a X.env)] := by rfl) : SI X tg (.Call (.Name "range" p) [a] [] pos) (wR (rg1 ma)) :=
  PI.weak (pi_range1 hg hm (sba_cons ha sba_nil hp) hs) fun σ H R ⟨env, ds, hm, r, s, k⟩ => range1_rd (own := true) env ds hm r s fun J H1 x1 w => k J [] H1 x1 trivial ownL_nil.bor w
theorem sj_range1 (hm : X.mg "range" = none) (ha : SB X a ma) (hg : Gl X "range" := by rfl) (hp : starEach [a] X.env = (false, eval a X.env) :: starEach [] X.env := by rfl) (hs : starEach [a] X.env = [(false, eval a X.env)] := by rfl) : SJ X tg (.Call (.Name "range" p) [a] [] pos) (wR (rg1 ma)) :=
  PI.weak (pi_range1 hg hm (sba_cons ha sba_nil hp) hs) fun σ H R ⟨env, ds, hm, r, s, k⟩ => range1_rd (own := true) env ds hm r s fun J H1 x1 w => k J [] H1 x1 trivial ownL_nil w
theorem range2_rd {K : PySem.W.Frag} {σ : L2.St} {H : Hp} {R : It → Hp → Prop} (env : TEnv) (ds : List D) (hm : wR (rg2 ma mb) (erE env) = some ds) (r : Rel σ env) (s : SatE K H env)
    (k : ∀ J H1, Ex H H1 → Wk K J [] ds → R J H1) : iRng2 (trBA K (lCons ma (lCons mb lNil))) σ H R := by
  obtain ⟨x, hx, hm⟩ := bind_some hm
  obtain ⟨i, hi, hx⟩ := bind_some hx
  obtain ⟨j, hj, rfl⟩ := map_some hx
  obtain ⟨d, hd, hi⟩ := bind_some hi
  obtain ⟨c, hc, hj⟩ := bind_some hj
  split at hm
  · rename_i hok
    have hok := of_decide_eq_true hok
    cases hm
    refine ⟨env, [d, c], ?_, r, s, fun ts H1 e1 x1 s1 b1 => ⟨i, j, i2_of e1 hi hj, ⟨hok.1, hok.2.1, hok.2.2.1, hok.2.2.2.1⟩, k _ H1 x1 wk_range⟩⟩
    rw [lCons, hd, lCons, hc]; rfl
  · cases hm
theorem si_range2 (hm : X.mg "range" = none) (ha : SB X a ma) (hb : SB X b mb) (hg : Gl X "range" := by rfl) (hp : starEach [a, b] X.env = (false, eval a X.env) :: starEach [b] X.env := by rfl) (hp2 : starEach [b] X.env = (false, eval b X.env) :: starEach [] X.env := by rfl)
    (hs : starEach [a, b] X.env = [(false, eval a X.env), (false, eval b X.env)] := by rfl) (hs2 : starEach [b] X.env = [(false, eval b X.env)] := by rfl) : SI X tg (.Call (.Name "range" p) [a, b] [] pos) (wR (rg2 ma mb)) :=
  PI.weak (pi_range2 hg hm (sba_cons ha (sba_cons hb sba_nil hp2) hp) hs hs2) fun σ H R ⟨env, ds, hm, r, s, k⟩ => range2_rd env ds hm r s fun J H1 x1 w => k J [] H1 x1 trivial ownL_nil.bor w
theorem sj_range2 (hm : X.mg "range" = none) (ha : SB X a ma) (hb : SB X b mb) (hg : Gl X "range" := by rfl) (hp : starEach [a, b] X.env = (false, eval a X.env) :: starEach [b] X.env := by rfl) (hp2 : starEach [b] X.env = (false, eval b X.env) :: starEach [] X.env := by rfl)
    (hs : starEach [a, b] X.env = [(false, eval a X.env), (false, eval b X.env)] := by rfl) (hs2 : starEach [b] X.env = [(false, eval b X.env)] := by rfl) : SJ X tg (.Call (.Name "range" p) [a, b] [] pos) (wR (rg2 ma mb)) :=
  PI.weak (pi_range2 hg hm (sba_cons ha (sba_cons hb sba_nil hp2) hp) hs hs2) fun σ H R ⟨env, ds, hm, r, s, k⟩ => range2_rd env ds hm r s fun J H1 x1 w => k J [] H1 x1 trivial ownL_nil w
@[simp] def wZ (m n : PM) : LM := fun env => (m env).bind fun x => (n env).bind fun y => (asL x).bind fun ds => (asL y).map fun es => List.zipWith (fun x y => D.n .tup [x, y]) ds es
@[simp] def wE (m : PM) : LM := fun env => (m env).bind fun x => (asL x).map (enD 0)
theorem si_zip {elts : List Expr} {kk : Nat} (hm : X.mg "zip" = none) (ha : SB X a ma) (hb : SB X b mb) (hg : Gl X "zip" := by rfl) (hs : starEach [a, b] X.env = (false, eval a X.env) :: starEach [b] X.env := by rfl) (hp2 : starEach [b] X.env = (false, eval b X.env) :: starEach [] X.env := by rfl)
    (hpl : (backTo pos (starEach [b] X.env)).any (·.1) = false := by rfl) : SI X (.Tuple elts kk tpos) (.Call (.Name "zip" p) [a, b] [] pos) (wZ ma mb) :=
  PI.weak (pi_zip hg hm (sba_cons ha (sba_cons hb sba_nil hp2) hs) hs hpl) fun σ H R ⟨env, ds, hm, r, s, k⟩ => by
    obtain ⟨x, hx, hm⟩ := bind_some hm
    obtain ⟨y, hy, hm⟩ := bind_some hm
    obtain ⟨xs, h1, hm⟩ := bind_some hm
    obtain ⟨ys, h2, rfl⟩ := map_some hm
    obtain ⟨o, rfl⟩ := asL_some h1
    obtain ⟨o', rfl⟩ := asL_some h2
    refine ⟨env, [_, _], by rw [lCons, hx, lCons, hy]; rfl, r, s, fun ts H1 e1 x1 s1 b1 => ?_⟩
    obtain ⟨t, u, rfl, et, eu⟩ := two_er e1
    obtain ⟨a, b, f1, f2, f3, f4, w⟩ := wk_zip s1.1 et s1.2.1 eu
    exact ⟨a, b, _, _, by rw [vals, List.map_cons, List.map_cons, f1, f2]; rfl, f3, f4, k _ [t, u] H1 x1 s1 b1 w⟩
theorem si_enum {elts : List Expr} {kk : Nat} (hm : X.mg "enumerate" = none) (ha : SB X a ma) (hg : Gl X "enumerate" := by rfl) (hp : starEach [a] X.env = (false, eval a X.env) :: starEach [] X.env := by rfl) (hs : starEach [a] X.env = [(false, eval a X.env)] := by rfl) :
    SI X (.Tuple elts kk tpos) (.Call (.Name "enumerate" p) [a] [] pos) (wE ma) :=
  PI.weak (pi_enum hg hm (sba_cons ha sba_nil hp) hs) fun σ H R ⟨env, ds, hm, r, s, k⟩ => by
    obtain ⟨x, hx, hm⟩ := bind_some hm
    obtain ⟨xs, h1, rfl⟩ := map_some hm
    obtain ⟨o, rfl⟩ := asL_some h1
    refine ⟨env, [_], by rw [lCons, hx]; rfl, r, s, fun ts H1 e1 x1 s1 b1 => ?_⟩
    obtain ⟨t, rfl, et⟩ := one_er e1
    obtain ⟨a, f1, f2, w⟩ := wk_enum s1.1 et
    exact ⟨a, _, by rw [vals, List.map_cons, f1]; rfl, f2, k _ [t] H1 x1 s1 b1 w⟩
/-- the same, what is walked being at hand alone -/
theorem sj_enum {elts : List Expr} {kk : Nat} (hm : X.mg "enumerate" = none) (ha : SP X a ma) (hg : Gl X "enumerate" := by rfl) (hp : starEach [a] X.env = (false, eval a X.env) :: starEach [] X.env := by rfl) (hs : starEach [a] X.env = [(false, eval a X.env)] := by rfl) :
    SJ X (.Tuple elts kk tpos) (.Call (.Name "enumerate" p) [a] [] pos) (wE ma) :=
  PI.weak (pi_enum hg hm (spa_cons ha spa_nil hp) hs) fun σ H R ⟨env, ds, hm, r, s, k⟩ => by
    obtain ⟨x, hx, hm⟩ := bind_some hm
    obtain ⟨xs, h1, rfl⟩ := map_some hm
    obtain ⟨o, rfl⟩ := asL_some h1
    refine ⟨env, [_], by rw [lCons, hx]; rfl, r, s, fun ts H1 e1 x1 s1 b1 => ?_⟩
    obtain ⟨t, rfl, et⟩ := one_er e1
    obtain ⟨a, f1, f2, w⟩ := wk_enum s1.1 et
    exact ⟨a, _, by rw [vals, List.map_cons, f1]; rfl, f2, k _ [t] H1 x1 s1 b1 w⟩
theorem sj_zip {elts : List Expr} {kk : Nat} (hm : X.mg "zip" = none) (ha : SP X a ma) (hb : SP X b mb) (hg : Gl X "zip" := by rfl) (hs : starEach [a, b] X.env = (false, eval a X.env) :: starEach [b] X.env := by rfl) (hp2 : starEach [b] X.env = (false, eval b X.env) :: starEach [] X.env := by rfl)
    (hpl : (backTo pos (starEach [b] X.env)).any (·.1) = false := by rfl) : SJ X (.Tuple elts kk tpos) (.Call (.Name "zip" p) [a, b] [] pos) (wZ ma mb) :=
  PI.weak (pi_zip hg hm (spa_cons ha (spa_cons hb spa_nil hp2) hs) hs hpl) fun σ H R ⟨env, ds, hm, r, s, k⟩ => by
    obtain ⟨x, hx, hm⟩ := bind_some hm
    obtain ⟨y, hy, hm⟩ := bind_some hm
    obtain ⟨xs, h1, hm⟩ := bind_some hm
    obtain ⟨ys, h2, rfl⟩ := map_some hm
    obtain ⟨o, rfl⟩ := asL_some h1
    obtain ⟨o', rfl⟩ := asL_some h2
    refine ⟨env, [_, _], by rw [lCons, hx, lCons, hy]; rfl, r, s, fun ts H1 e1 x1 s1 b1 => ?_⟩
    obtain ⟨t, u, rfl, et, eu⟩ := two_er e1
    obtain ⟨a, b, f1, f2, f3, f4, w⟩ := wk_zip s1.1 et s1.2.1 eu
    exact ⟨a, b, _, _, by rw [vals, List.map_cons, List.map_cons, f1, f2]; rfl, f3, f4, k _ [t, u] H1 x1 s1 b1 w⟩
end

/-! ### comprehensions -/
@[simp] def wipeD (env : Env) : List Nat → Env
  | [] => env
  | v :: vs => (wipeD env vs).set v none
def wipeT (env : TEnv) : List Nat → TEnv
  | [] => env
  | v :: vs => (wipeT env vs).set v none
def lcD (g : Tg) (mt : BM) (me : PM) (e0 : Env) : List D → Option (List D)
  | [] => some []
  | d :: ds => (bD g d e0).bind fun e1 => (mt e1).bind fun b => if b = true then (me e1).bind fun r => (lcD g mt me e0 ds).map (r :: ·) else lcD g mt me e0 ds
@[simp] def mLc (mi : LM) (g : Tg) (mt : BM) (me : PM) (vs : List Nat) : PM := fun env => (mi env).bind fun ds => if ds.length ≤ 16777216 then (lcD g mt me (wipeD env vs) ds).map fun rs => .n (.lst .o) rs else none
@[simp] def bYes : BM := fun _ => some true
section
variable {K : PySem.W.Frag} {H H1 H' : Hp} {σ : L2.St} {env : TEnv}
theorem wipe_er : ∀ vs : List Nat, erE (wipeT env vs) = wipeD (erE env) vs
  | [] => rfl
  | v :: vs => by rw [wipeT, erE_set, wipe_er vs]; rfl
theorem wipe_rel (r : Rel σ env) : ∀ vs : List Nat, Rel (wipe σ vs) (wipeT env vs)
  | [] => r
  | v :: vs => by
    have ih := wipe_rel r vs
    refine ⟨by rw [wipeT, wipe, List.length_set, List.length_set, ih.1], fun j u h => ?_⟩
    rw [wipeT, List.getElem?_set] at h
    rw [wipe, List.getElem?_set]
    by_cases e : v = j
    · subst e
      rw [if_pos rfl] at h
      split at h <;> cases h
    · rw [if_neg e] at h ⊢
      exact ih.2 j u h
theorem wipe_sat (s : SatE K H env) : ∀ vs : List Nat, SatE K H (wipeT env vs)
  | [] => s
  | v :: vs => SatE.set (wipe_sat s vs) fun t h => by cases h
theorem none_co {j : Nat} {a : Addr} : coE a (env.set j none) ≤ coE a env := by
  cases h : env[j]? with
  | none =>
    rw [List.getElem?_eq_none_iff] at h
    rw [List.set_eq_of_length_le h]; omega
  | some x =>
    have := coE_set (a := a) none h
    have e : oT (T.co a) none = 0 := rfl
    omega
theorem none_cu {j : Nat} {a : Addr} : cuE a (env.set j none) ≤ cuE a env := by
  cases h : env[j]? with
  | none =>
    rw [List.getElem?_eq_none_iff] at h
    rw [List.set_eq_of_length_le h]; omega
  | some x =>
    have := cuE_set (a := a) none h
    have e : oT (T.cu a) none = 0 := rfl
    omega
theorem wipe_co {a : Addr} : ∀ vs : List Nat, coE a (wipeT env vs) ≤ coE a env
  | [] => Nat.le_refl _
  | v :: vs => Nat.le_trans none_co (wipe_co vs)
theorem wipe_cu {a : Addr} : ∀ vs : List Nat, cuE a (wipeT env vs) ≤ cuE a env
  | [] => Nat.le_refl _
  | v :: vs => Nat.le_trans none_cu (wipe_cu vs)
theorem wipe_at {σ : L2.St} {i : Nat} : ∀ {vs : List Nat}, i ∈ vs → i < σ.length → (wipe σ vs)[i]? = some none
  | v :: vs, h, hl => by
    rw [wipe, List.getElem?_set]
    by_cases e : v = i
    · rw [if_pos e, if_pos (by rw [wipe_length]; omega)]
    · rw [if_neg e]
      rcases List.mem_cons.mp h with q | q
      · exact absurd q.symm e
      · exact wipe_at q hl
theorem wipe_out {σ : L2.St} {i : Nat} : ∀ {vs : List Nat}, i ∉ vs → (wipe σ vs)[i]? = σ[i]?
  | [], _ => rfl
  | v :: vs, h => by
    rw [wipe, List.getElem?_set, if_neg (fun z => h (by rw [z]; exact List.mem_cons_self ..))]
    exact wipe_out fun z => h (List.mem_cons_of_mem _ z)
theorem wipe_same {σ σ2 : L2.St} {vs sl : List Nat} (hl : σ2.length = (wipe σ vs).length) (ho : ∀ i, i ∉ sl → σ2[i]? = (wipe σ vs)[i]?) (hs : ∀ i ∈ sl, i ∈ vs) : wipe σ2 vs = wipe σ vs := by
  apply List.ext_getElem?
  intro i
  by_cases h : i ∈ vs
  · by_cases l : i < σ.length
    · rw [wipe_at h l, wipe_at h (by rw [hl, wipe_length]; exact l)]
    · rw [List.getElem?_eq_none (by rw [wipe_length, hl, wipe_length]; omega), List.getElem?_eq_none (by rw [wipe_length]; omega)]
  · rw [wipe_out h, ho i fun z => h (hs i z)]
/-- one more item behind what is made -/
theorem OwnL.snoc {eS : TEnv} {acc : List T} {t : T} (x1 : Ex H H1) (hs : SatE K H eS) (s1 : satL K H1 acc) (o1 : OwnL H eS acc) (s2 : t.sat K H') (o2 : Own H1 eS t) : OwnL H eS (acc ++ [t]) := fun a => by
  have h1 := o1 a
  have h2 := o2 a
  have c1 : 0 < coL a acc → H1 a ≠ none := fun z => coL_some acc s1 z
  have c2 : 0 < cuL a acc → H1 a ≠ none := fun z => cuL_some acc s1 z
  have c3 : 0 < cuE a eS → H a ≠ none := fun z => cuE_some hs z
  have c4 : H1 a = none → H a = none := Evl.fresh_back x1
  rw [coL_append, cuL_append, co1, cu1]
  by_cases q1 : H a = none
  · have n3 : cuE a eS = 0 := by
      rcases Nat.eq_zero_or_pos (cuE a eS) with z | z
      · exact z
      · exact absurd q1 (c3 z)
    by_cases q2 : H1 a = none
    · have n1 : coL a acc = 0 := by
        rcases Nat.eq_zero_or_pos (coL a acc) with z | z
        · exact z
        · exact absurd q2 (c1 z)
      have n2 : cuL a acc = 0 := by
        rcases Nat.eq_zero_or_pos (cuL a acc) with z | z
        · exact z
        · exact absurd q2 (c2 z)
      rw [n1, n2, Nat.zero_add, Nat.zero_add]
      exact ⟨h2.1, fun _ => q1, fun _ => .inr q1⟩
    · have n1 : t.co a = 0 := by
        rcases Nat.eq_zero_or_pos (t.co a) with z | z
        · exact z
        · exact absurd (h2.2.1 z) q2
      have n2 : t.cu a = 0 := by
        rcases Nat.eq_zero_or_pos (t.cu a) with z | z
        · exact z
        · rcases h2.2.2 z with z | z
          · omega
          · exact absurd z q2
      rw [n1, n2, Nat.add_zero, Nat.add_zero]
      exact ⟨h1.1, fun _ => q1, fun _ => .inr q1⟩
  · have n1 : coL a acc = 0 := by
      rcases Nat.eq_zero_or_pos (coL a acc) with z | z
      · exact z
      · exact absurd (h1.2.1 z) q1
    have n2 : t.co a = 0 := by
      rcases Nat.eq_zero_or_pos (t.co a) with z | z
      · exact z
      · exact absurd (c4 (h2.2.1 z)) q1
    rw [n1, n2]
    refine ⟨⟨by omega, .inl rfl⟩, fun z => absurd z (by omega), fun z => ?_⟩
    by_cases q : 0 < cuL a acc
    · exact h1.2.2 q
    · rcases h2.2.2 (by omega) with z | z
      · exact .inl z
      · exact .inr (c4 z)
theorem cuE_app {a : Addr} : ∀ {e1 e2 : TEnv}, cuE a (e1 ++ e2) = cuE a e1 + cuE a e2
  | [], e2 => by rw [List.nil_append, cuE, Nat.zero_add]
  | o :: e1, e2 => by rw [List.cons_append, cuE, cuE, cuE_app (e1 := e1)]; omega
theorem cuE_some_map {a : Addr} : ∀ {ts : List T}, cuE a (ts.map some) = cuL a ts
  | [] => rfl
  | t :: ts => by rw [List.map_cons, cuE, cuL, cuE_some_map (ts := ts)]; rfl
theorem lcD_drop {g : Tg} {mt : BM} {me : PM} {e0 : Env} {ds : List D} {i : Nat} {d : D} {r : List D} (hd : ds[i]? = some d) (h : lcD g mt me e0 (ds.drop i) = some r) :
    ∃ e1 b, bD g d e0 = some e1 ∧ mt e1 = some b ∧ ((b = true ∧ ∃ z r', me e1 = some z ∧ lcD g mt me e0 (ds.drop (i + 1)) = some r' ∧ r = z :: r') ∨ (b = false ∧ lcD g mt me e0 (ds.drop (i + 1)) = some r)) := by
  obtain ⟨hi, e⟩ := List.getElem?_eq_some_iff.mp hd
  rw [List.drop_eq_getElem_cons hi, e, lcD] at h
  obtain ⟨e1, h1, h⟩ := bind_some h
  obtain ⟨b, h2, h⟩ := bind_some h
  refine ⟨e1, b, h1, h2, ?_⟩
  cases b with
  | true =>
    rw [if_pos rfl] at h
    obtain ⟨z, h3, h⟩ := bind_some h
    obtain ⟨r', h4, rfl⟩ := map_some h
    exact .inl ⟨rfl, z, r', h3, h4, rfl⟩
  | false =>
    rw [if_neg Bool.false_ne_true] at h
    exact .inr ⟨rfl, h⟩
/-- what a comprehension holds behind i turns -/
structure LcW (K : PySem.W.Frag) (H H1 : Hp) (Dl : Addr) (env eS : TEnv) (src : List T) (g : Tg) (mt : BM) (me : PM) (e0 : Env) (ds rs : List D) (i m : Nat) (H' : Hp) : Prop where
  le : i ≤ ds.length
  ms : m = ds.length - i
  ex : Ex H1 H'
  acc : ∃ acc : List T, H' Dl = some (.lst (vals acc)) ∧ satL K H' acc ∧ OwnL H1 eS acc ∧ coL Dl acc = 0 ∧ cuL Dl acc = 0 ∧ acc.length ≤ i ∧ ∃ r, lcD g mt me e0 (ds.drop i) = some r ∧ rs = erL acc ++ r
end
section
variable {X : Cx} {elt tg iter : Expr} {ifs : List Expr} {scope : Scope} {own : List (Str × Nat)} {pos : Pos} {mi : LM} {g : Tg} {mt : BM} {me : PM}
def STs (X : Cx) (ifs : List Expr) (m : BM) : Prop := PTs X ifs (trT X.K m)
theorem PTs.weak {X : Cx} {ifs : List Expr} {t u : TT} (h : PTs X ifs t) (w : ∀ σ H Q, u σ H Q → t σ H Q) : PTs X ifs u := ⟨fun pins s σ H Q I z => h.run pins s σ H Q I (w σ H Q z)⟩
theorem sts_nil : STs X [] bYes := PTs.weak pts_nil fun σ H Q ⟨env, b, hm, r, s, k⟩ => by
  cases hm
  exact k H (Evl.Ex.refl H)
theorem sts_one {c : Expr} {m : BM} (h : ST X c m) : STs X [c] m := pts_one h
theorem lc_rd {K : PySem.W.Frag} {σ : L2.St} {H : Hp} {Q : VK} {vs : List Nat} (hsl : ∀ i ∈ g.sl, i ∈ vs) (h : trP K (mLc mi g mt me vs) σ H Q) : tLc (trI K mi) (gOf K g) (trT K mt) (trP K me) vs σ H Q := by
  obtain ⟨env, d, hm, r, s, k⟩ := h
  obtain ⟨ds, hi, hm⟩ := bind_some hm
  split at hm
  case isFalse => cases hm
  rename_i hlen
  obtain ⟨rs, hrs, rfl⟩ := map_some hm
  refine ⟨env, ds, hi, r, s, fun J src H1 x1 ss bs w Dl hD => ?_⟩
  rw [← wipe_er] at hrs
  -- what a turn rests on
  let eS : TEnv := wipeT env vs ++ src.map some
  have satS : SatE K H1 eS := fun t ht => by
    rcases List.mem_append.mp ht with q | q
    · exact (wipe_sat (s.ex x1) vs) t q
    · obtain ⟨u, hu, e⟩ := List.mem_map.mp q
      cases e
      exact satL_iff.mp ss _ hu
  refine ⟨LcW K H H1 Dl env eS src g mt me (erE (wipeT env vs)) ds rs, ⟨ds.length, ?_⟩, fun i m H2 W => ?_⟩
  · exact ⟨Nat.zero_le _, rfl, Evl.Ex.new hD, [], upd_same, trivial, ownL_nil, rfl, rfl, Nat.le_refl _, rs, hrs, rfl⟩
  obtain ⟨le, ms, ex, acc, hacc, sacc, oacc, n1, n2, lacc, rr, hrr, ers⟩ := W
  have ss2 : satL K H2 src := satL_ex ex ss
  by_cases hi2 : i < ds.length
  · refine .inr ⟨w.go i H2 ss2 hi2, fun H' => ∃ m', m' < m ∧ LcW K H H1 Dl env eS src g mt me (erE (wipeT env vs)) ds rs (i + 1) m' H', fun H' h => h, fun x H3 hy => ?_⟩
    have hd := List.getElem?_eq_getElem hi2
    obtain ⟨t, rfl, et, x3, s3, c3, u3⟩ := w.yld i H2 x H3 ss2 hy _ hd
    obtain ⟨e1, b, hb1, hb2, hb3⟩ := lcD_drop hd hrr
    rw [← et] at hb1
    have sw : SatE K H3 (wipeT env vs) := (wipe_sat ((s.ex x1).ex ex) vs).ex x3
    refine g_run g t (wipe σ vs) (wipeT env vs) e1 _ (wipe_rel r vs) s3 hb1 fun σ2 env2 B => ?_
    refine ⟨wipe_same B.len (fun i hi => (B.out i hi).1) hsl, ?_⟩
    have s2 : SatE K H3 env2 := fun u hu => by
      rcases B.sat u hu with q | q
      · exact sw u q
      · exact q
    have hl3 : H3 Dl = some (.lst (vals acc)) := x3 Dl _ hacc
    refine ⟨env2, b, by rw [B.er]; exact hb2, B.rel, s2, fun H4 x4 => ?_⟩
    have hl4 : H4 Dl = some (.lst (vals acc)) := x4 Dl _ hl3
    have ex4 : Ex H1 H4 := (ex.trans x3).trans x4
    rcases hb3 with ⟨rfl, z, r', hz, hr', rfl⟩ | ⟨rfl, hr'⟩
    · dsimp only
      rw [if_pos rfl]
      refine ⟨env2, z, by rw [B.er]; exact hz, B.rel, s2.ex x4, fun u H5 eu x5 s5 o5 => ?_⟩
      have hl5 : H5 Dl = some (.lst (vals acc)) := x5 Dl _ hl4
      refine ⟨vals acc, hl5, Nat.lt_of_lt_of_le (by rw [List.length_map]; omega) (sizeLine_le hlen), m - 1, by omega, ?_⟩
      have ex5 : Ex H1 H5 := ex4.trans x5
      have ex25 : Ex H2 H5 := (x3.trans x4).trans x5
      have sacc5 : satL K H5 acc := satL_ex ex25 sacc
      have ou : Own H2 eS u := fun a => by
        have h := o5 a
        refine ⟨h.1, fun q => Evl.fresh_back (x3.trans x4) (h.2.1 q), fun q => ?_⟩
        rcases h.2.2 q with q | q
        · have c := B.cu a
          by_cases q2 : 0 < cuE a (wipeT env vs)
          · exact .inl (by show 0 < cuE a (wipeT env vs ++ src.map some); rw [cuE_app]; omega)
          · rcases u3 a (by omega) with z | z
            · exact .inl (by show 0 < cuE a (wipeT env vs ++ src.map some); rw [cuE_app, cuE_some_map]; omega)
            · exact .inr z
        · exact .inr (Evl.fresh_back (x3.trans x4) q)
      have hn : H2 Dl ≠ none := by rw [hacc]; exact fun z => by cases z
      have u1 : u.co Dl = 0 := by
        rcases Nat.eq_zero_or_pos (u.co Dl) with q | q
        · exact q
        · exact absurd ((ou Dl).2.1 q) hn
      have u2 : u.cu Dl = 0 := by
        rcases Nat.eq_zero_or_pos (u.cu Dl) with q | q
        · exact q
        · rcases (ou Dl).2.2 q with q | q
          · exact absurd hD (cuE_some satS q)
          · exact absurd q hn
      have m1 : coL Dl (acc ++ [u]) = 0 := by rw [coL_append, co1, n1, u1]
      have m2 : cuL Dl (acc ++ [u]) = 0 := by rw [cuL_append, cu1, n2, u2]
      refine ⟨hi2, by omega, Evl.Ex.mut ex5 hD, acc ++ [u], ?_, ?_, OwnL.snoc ex satS sacc oacc s5 ou, m1, m2, ?_, r', hr', ?_⟩
      · rw [upd_same]; simp [vals]
      · refine satL_keep (H := H5) _ (fun a o q e => ?_) (satL_append.mpr ⟨sacc5, s5, trivial⟩)
        have ne : a ≠ Dl := fun z => by subst z; omega
        rw [upd_ne ne]
        exact e
      · rw [List.length_append, List.length_singleton]; omega
      · rw [ers, erL_append, erL, erL, eu, List.append_assoc]; rfl
    · dsimp only
      rw [if_neg Bool.false_ne_true]
      exact ⟨m - 1, by omega, hi2, by omega, ex4, acc, hl4, satL_ex (x3.trans x4) sacc, oacc, n1, n2, by omega, rr, hr', ers⟩
  · have hi3 : ds.length ≤ i := Nat.le_of_not_lt hi2
    refine .inl ⟨w.stop i H2 ss2 hi3, ?_⟩
    rw [List.drop_eq_nil_of_le hi3, lcD] at hrr
    cases hrr
    rw [List.append_nil] at ers
    refine k (.n (.lst .o) Dl acc) H2 (by rw [T.er, ← ers]) (x1.trans ex) ⟨⟨hacc, rfl⟩, sacc⟩ fun a => ?_
    have h := oacc a
    have c4 : H1 a = none → H a = none := Evl.fresh_back x1
    rw [T.co, T.cu]
    by_cases q : Dl = a
    · subst q
      rw [n1, n2]
      refine ⟨by simp [Kd.own], fun _ => c4 hD, fun q => absurd q (by simp [Kd.own])⟩
    · rw [if_neg (fun z => q z.2), if_neg (fun z => q z.2), Nat.zero_add, Nat.zero_add]
      refine ⟨h.1, fun z => c4 (h.2.1 z), fun z => ?_⟩
      rcases h.2.2 z with z | z
      · have z : 0 < cuE a (wipeT env vs ++ src.map some) := z
        rw [cuE_app, cuE_some_map] at z
        have := wipe_cu (env := env) (a := a) vs
        by_cases y : 0 < cuL a src
        · exact (bs a).2 y
        · exact .inl (by omega)
      · exact .inr (c4 z)
theorem sp_lc (hc : X.calm = true) (hN : X.N.Nodup) (hi : SI X tg iter mi) (ok : blkC X.N X.env.scope scope own = true)
    (hg : ∀ (s : Shared) (H : Hp) (C : Addr) (cl : List (Str × Addr)) (fp : List Addr), SG (X.blk s H scope (compEnvC scope cl C X.env) fp) tg g) (ht : ∀ (s : Shared) (H : Hp) (C : Addr) (cl : List (Str × Addr)) (fp : List Addr), STs (X.blk s H scope (compEnvC scope cl C X.env) fp) ifs mt)
    (he : ∀ (s : Shared) (H : Hp) (C : Addr) (cl : List (Str × Addr)) (fp : List Addr), SP (X.blk s H scope (compEnvC scope cl C X.env) fp) elt me) (hsl : ∀ i ∈ g.sl, i ∈ own.map (·.2)) (hs : ∀ x, foldedSetIterable iter X.env x = pure x := by intro _; rfl) :
    SP X (.ListComp elt [⟨tg, iter, ifs, 0⟩] scope pos) (mLc mi g mt me (own.map (·.2))) :=
  PE.weak (pe_lc (own := own) (g := gOf X.K g) (tt := trT X.K mt) (te := trP X.K me) hc hN hi (blkOk_by ok) hg ht he hs) fun σ H Q h => lc_rd hsl h

/-! ### calls of the program's own defs that change nothing -/
end
mutual
def T.frz : T → T
  | .s v => .s v
  | .n k a ts => .n k.frz a (frzL ts)
  | .w z k a ts => .w z k a (frzL ts)
def frzL : List T → List T
  | [] => []
  | t :: ts => t.frz :: frzL ts
end
mutual
@[simp] def D.frz : D → D
  | .s v => .s v
  | .n k ds => .n k.frz (frzD ds)
@[simp] def frzD : List D → List D
  | [] => []
  | d :: ds => d.frz :: frzD ds
end
theorem frz_val (t : T) : t.frz.val = t.val := by cases t <;> simp [T.frz, T.val]
theorem frzL_vals : ∀ ts : List T, vals (frzL ts) = vals ts
  | [] => rfl
  | t :: ts => by rw [frzL, vals, List.map_cons, frz_val]; exact congrArg _ (frzL_vals ts)
theorem kfrz_ho (k : Kd) (vs : List V) : k.frz.ho vs = k.ho vs := by cases k <;> rfl
theorem kfrz_own (k : Kd) : k.frz.own = false := by
  cases k with
  | lst o => cases o <;> rfl
  | tup => rfl
  | dic o ks => cases o <;> rfl
  | dct o ks => cases o <;> rfl
theorem kfrz_isw {k : Kd} (h : k.isw = false) : k.frz.isw = false := by
  cases k with
  | lst o => cases o <;> first | rfl | cases h
  | tup => rfl
  | dic o ks => cases o <;> first | rfl | cases h
  | dct o ks => cases o <;> first | rfl | cases h
theorem kwri_frz (k : Kd) : k.wri.frz = k.wri := by cases k <;> rfl
section
variable {K : PySem.W.Frag} {H : Hp} {a : Addr}
mutual
theorem frz_er : ∀ t : T, t.frz.er = t.er.frz
  | .s v => by rw [T.frz, T.er, D.frz]
  | .n k a ts => by rw [T.frz, T.er, T.er, D.frz, frzL_er ts]
  | .w z k a ts => by rw [T.frz, T.er, T.er, D.frz, frzL_er ts, kwri_frz]
theorem frzL_er : ∀ ts : List T, erL (frzL ts) = frzD (erL ts)
  | [] => rfl
  | t :: ts => by rw [frzL, erL, erL, frzD, frz_er t, frzL_er ts]
end
mutual
theorem frz_co : ∀ t : T, t.frz.co a = 0
  | .s v => rfl
  | .n k b ts => by rw [T.frz, T.co, frzL_co ts, kfrz_own]; simp
  | .w z k b ts => by rw [T.frz, T.co, frzL_co ts]
theorem frzL_co : ∀ ts : List T, coL a (frzL ts) = 0
  | [] => rfl
  | t :: ts => by rw [frzL, coL, frz_co t, frzL_co ts]
end
mutual
theorem frz_cu : ∀ t : T, t.frz.cu a = t.co a + t.cu a
  | .s v => rfl
  | .n k b ts => by
    rw [T.frz, T.cu, T.co, T.cu, frzL_cu ts, kfrz_own]
    cases k.own <;> by_cases q : b = a <;> simp [q] <;> omega
  | .w z k b ts => by rw [T.frz, T.cu, T.co, T.cu, frzL_cu ts]; omega
theorem frzL_cu : ∀ ts : List T, cuL a (frzL ts) = coL a ts + cuL a ts
  | [] => rfl
  | t :: ts => by rw [frzL, cuL, coL, cuL, frz_cu t, frzL_cu ts]; omega
end
mutual
theorem frz_sat : ∀ t : T, t.sat K H → t.frz.sat K H
  | .s v, _ => trivial
  | .n k b ts, h => by
    rw [T.frz]
    refine ⟨⟨?_, kfrz_isw h.1.2⟩, frzL_sat ts h.2⟩
    rw [kfrz_ho, frzL_vals]
    exact h.1.1
  | .w z k b ts, h => by
    rw [T.frz]
    refine ⟨?_, frzL_sat ts h.2⟩
    rw [frzL_vals]
    exact h.1
theorem frzL_sat : ∀ ts : List T, satL K H ts → satL K H (frzL ts)
  | [], _ => trivial
  | t :: ts, h => ⟨frz_sat t h.1, frzL_sat ts h.2⟩
end
end
@[simp] def Kd.nF : Kd → Bool
  | .tup => true
  | k => k.own
mutual
/-- no shared list or dict -/
@[simp] def D.noF : D → Bool
  | .s _ => true
  | .n k ds => k.nF && noFL ds
@[simp] def noFL : List D → Bool
  | [] => true
  | d :: ds => d.noF && noFL ds
end
def isTupO : HO → Bool
  | .tup _ => true
  | .frz _ (.tup _) => true
  | _ => false
section
variable {K : PySem.W.Frag} {H : Hp} {a : Addr}
mutual
theorem noF_cu : ∀ t : T, t.er.noF = true → t.sat K H → 0 < t.cu a → ∃ o, H a = some o ∧ isTupO o = true
  | .s v, _, _, h => by rw [T.cu] at h; omega
  | .n k b ts, hn, hs, h => by
    rw [T.er, D.noF, Bool.and_eq_true] at hn
    rw [T.cu] at h
    by_cases q : k.own = false ∧ b = a
    · obtain ⟨q1, q2⟩ := q
      subst q2
      have h1 := hs.1.1
      cases k with
      | tup => exact ⟨_, h1, rfl⟩
      | lst o => exact absurd (q1.symm.trans hn.1) Bool.false_ne_true
      | dic o ks => exact absurd (q1.symm.trans hn.1) Bool.false_ne_true
      | dct o ks => exact absurd (q1.symm.trans hn.1) Bool.false_ne_true
    · rw [if_neg q] at h
      exact noFL_cu ts hn.2 hs.2 (by omega)
  | .w z k b ts, hn, hs, h => by
    rw [T.er, D.noF, Bool.and_eq_true] at hn
    rw [T.cu] at h
    by_cases q : z = false ∧ b = a
    · obtain ⟨q1, q2⟩ := q
      subst q1 q2
      obtain ⟨o, h1⟩ := hs.1
      cases k with
      | tup => exact ⟨_, h1, rfl⟩
      | lst o => exact absurd hn.1 (by simp [Kd.wri, Kd.nF, Kd.own])
      | dic o ks => exact absurd hn.1 (by simp [Kd.wri, Kd.nF, Kd.own])
      | dct o ks => exact absurd hn.1 (by simp [Kd.wri, Kd.nF, Kd.own])
    · rw [if_neg q] at h
      exact noFL_cu ts hn.2 hs.2 (by omega)
theorem noFL_cu : ∀ ts : List T, noFL (erL ts) = true → satL K H ts → 0 < cuL a ts → ∃ o, H a = some o ∧ isTupO o = true
  | [], _, _, h => by rw [cuL] at h; omega
  | t :: ts, hn, hs, h => by
    rw [erL, noFL, Bool.and_eq_true] at hn
    rw [cuL] at h
    by_cases q : 0 < t.cu a
    · exact noF_cu t hn.1 hs.1 q
    · exact noFL_cu ts hn.2 hs.2 (by omega)
end
mutual
theorem co_no : ∀ t : T, t.sat K H → 0 < t.co a → ∃ o, H a = some o ∧ isTupO o = false
  | .s v, _, h => by rw [T.co] at h; omega
  | .n k b ts, hs, h => by
    rw [T.co] at h
    by_cases q : k.own = true ∧ b = a
    · obtain ⟨q1, q2⟩ := q
      subst q2
      have h1 := hs.1.1
      cases k with
      | tup => cases q1
      | lst o => exact ⟨_, h1, rfl⟩
      | dic o ks => exact ⟨_, h1, rfl⟩
      | dct o ks => exact ⟨_, h1, rfl⟩
    · rw [if_neg q] at h
      exact coL_no ts hs.2 (by omega)
  | .w z k b ts, hs, h => by
    rw [T.co] at h
    exact coL_no ts hs.2 h
theorem coL_no : ∀ ts : List T, satL K H ts → 0 < coL a ts → ∃ o, H a = some o ∧ isTupO o = false
  | [], _, h => by rw [coL] at h; omega
  | t :: ts, hs, h => by
    rw [coL] at h
    by_cases q : 0 < t.co a
    · exact co_no t hs.1 q
    · exact coL_no ts hs.2 (by omega)
end
theorem coE_no : ∀ {env : TEnv}, SatE K H env → 0 < coE a env → ∃ o, H a = some o ∧ isTupO o = false
  | [], _, h => by rw [coE] at h; omega
  | none :: r, hs, h => by
    rw [coE, oT] at h
    exact coE_no (env := r) (fun t ht => hs t (List.mem_cons_of_mem _ ht)) (by omega)
  | some t :: r, hs, h => by
    rw [coE, oT] at h
    by_cases q : 0 < t.co a
    · exact co_no t (hs t (List.mem_cons_self ..)) q
    · exact coE_no (env := r) (fun t ht => hs t (List.mem_cons_of_mem _ ht)) (by omega)
end
/-- what a def gives of what it is handed: the promise of one that changes nothing -/
def OwnA (H : Hp) (ts : List T) (t : T) : Prop := ∀ a, (t.co a ≤ 1 ∧ (t.co a = 0 ∨ t.cu a = 0)) ∧ (0 < t.co a → H a = none) ∧ (0 < t.cu a → 0 < coL a ts ∨ 0 < cuL a ts ∨ H a = none)
abbrev FM := List D → Option D
def spP (K : PySem.W.Frag) (n : Nat) (f : FM) : Sp := fun vs H Q _ => ∃ ts d, vs = vals ts ∧ ts.length = n ∧ satL K H ts ∧ f (frzD (erL ts)) = some d ∧ ∀ t H', t.er = d → Ex H H' → t.sat K H' → OwnA H ts t → Q t.val H'
@[simp] def mFn (f : FM) (ml : LM) : PM := fun env => (ml env).bind fun ds => (f (frzD ds)).bind fun d => if (d.noF || pureL ds) = true then some d else none
section
variable {X : Cx} {e : Expr} {es : List Expr} {ml : LM} {pos p : Pos}
theorem sp_call {k n : Nat} {x : Str} {f : Addr} {fd : FuncData} {ps : List Str} {fm : FM} {CX : CXT} {E : XK} (F : FnOk X.prog X.w X.K X.mg X.base CX k f fd ps (spP X.K n fm)) (hl : n = es.length + 1) (hr : Room k X.A) (hm : X.mg x = some (.ref f)) (hk : PySem.W.keepIn X.K (.ref f) = true)
    (hb : Binds X.K fd ps []) (hx : Passes CX X E) (ha : SBA X (e :: es) ml) (hln : ∀ env ds, ml env = some ds → ds.length = n) (hg : Gl X x := by rfl) (hdb : (x == ("__debug__" : Str)) = false := by decide) (he : starEach (e :: es) X.env = (false, eval e X.env) :: starEach es X.env := by rfl) (hpl : (backTo pos (starEach es X.env)).any (·.1) = false := by rfl) :
    SP X (.Call (.Name x p) (e :: es) [] pos) (mFn fm ml) := PE.weak (pe_call F hr hg hm hk hb .nil hx ha hdb he hpl) fun σ H Q ⟨env, d, hm, r, s, k⟩ => by
  obtain ⟨ds, h1, hm⟩ := bind_some hm
  obtain ⟨d', h2, hm⟩ := bind_some hm
  split at hm
  case isFalse => cases hm
  rename_i hc
  cases hm
  refine ⟨env, ds, h1, r, s, fun ts H1 e1 x1 s1 b1 => ?_⟩
  refine ⟨ts, d, by rw [List.append_nil], by rw [len_er e1]; exact hln _ _ h1, s1, by rw [e1]; exact h2, fun t H2 e2 x2 s2 o2 => k t H2 e2 (x1.trans x2) s2 fun a => ?_⟩
  have o := o2 a
  refine ⟨o.1, fun z => Evl.fresh_back x1 (o.2.1 z), fun z => ?_⟩
  rcases o.2.2 z with q | q | q
  · rw [Bool.or_eq_true] at hc
    rcases hc with hc | hc
    · -- a tuple of the answer is no list of ours
      rw [← e2] at hc
      obtain ⟨u, hu, hv⟩ := noF_cu t hc s2 z
      obtain ⟨u', hu', hv'⟩ := coL_no ts (satL_ex x2 s1) q
      rw [hu] at hu'
      cases hu'
      rw [hv] at hv'
      cases hv'
    · rw [← e1] at hc
      rw [pureL_co ts hc] at q
      omega
  · exact (b1 a).2 q
  · exact .inr (Evl.fresh_back x1 q)
end
/-- what was made on the way, held for shared -/
@[simp] def wLF (m : PM) : LM := fun env => (m env).bind fun d => asL d.frz
section
variable {X : Cx} {tg e : Expr} {m : PM}
theorem sj_listF (h : SP X e m) : SJ X tg e (wLF m) := PI.weak (pi_list h) fun σ H R ⟨env, ds, hm, r, s, k⟩ => by
  obtain ⟨d, hd, h1⟩ := bind_some hm
  obtain ⟨o, h2⟩ := asL_some h1
  refine ⟨env, d, hd, r, s, fun t H1 e1 x1 s1 b1 => ?_⟩
  subst e1
  rw [← frz_er] at h2
  obtain ⟨a, f1, f2, w⟩ := wk_list (frz_sat t s1) h2
  rw [frz_val] at f1
  refine ⟨a, f1, ⟨_, f2⟩, k _ [t.frz] H1 x1 ⟨frz_sat t s1, trivial⟩ (fun b => ?_) w⟩
  rw [co1, cu1, frz_co, frz_cu]
  have := b1 b
  refine ⟨⟨Nat.zero_le _, .inl rfl⟩, fun z => absurd z (Nat.lt_irrefl _), fun z => ?_⟩
  by_cases q : 0 < t.co b
  · exact .inr (this.2.1 q)
  · exact this.2.2 (by omega)
end
end Ow

namespace Ow
open PySem L2

/-! ### parts that change what is owned -/
def WfF (F : List T) (env : TEnv) : Prop := Wf (fun a => coL a F + coE a env) (fun a => cuL a F + cuE a env)
def StpF (H : Hp) (F : List T) (env : TEnv) (H' : Hp) (F' : List T) (env' : TEnv) : Prop := Stp H (fun a => coL a F + coE a env) (fun a => cuL a F + cuE a env) H' (fun a => coL a F' + coE a env') (fun a => cuL a F' + cuE a env')
/-- where one stands: begun at H0 with env0, the trees F at hand -/
structure Cf (K : PySem.W.Frag) (H0 : Hp) (env0 : TEnv) (σ : L2.St) (H : Hp) (F : List T) (env : TEnv) : Prop where
  rel : Rel σ env
  satF : satL K H F
  satE : SatE K H env
  wf : WfF F env
  stp : StpF H0 [] env0 H F env
section
variable {K : PySem.W.Frag} {H0 H H' : Hp} {env0 env env' : TEnv} {σ σ' : L2.St} {F G : List T} {t : T}
theorem Cf.start (r : Rel σ env) (s : SatE K H env) (w : WfF [] env) : Cf K H env σ H [] env := ⟨r, trivial, s, w, Stp.refl⟩
/-- THE FRAME: a step of the environment alone, with F beside it -/
theorem Cf.step (c : Cf K H0 env0 σ H F env) (c' : Cf K H env σ' H' G env') : Cf K H0 env0 σ' H' (G ++ F) env' := by
  have keepF : ∀ a o, 0 < coL a F + cuL a F → H a = some o → H' a = some o := fun a o h e => c'.stp.1 a o e (by
    have := c.wf a
    simp only [coL] at this ⊢
    omega)
  have someF : ∀ a, 0 < coL a F + cuL a F → H a ≠ none := fun a h => by
    by_cases q : 0 < coL a F
    · exact coL_some F c.satF q
    · exact cuL_some F c.satF (by omega)
  refine ⟨c'.rel, satL_append.mpr ⟨c'.satF, satL_keep F keepF c.satF⟩, c'.satE, fun a => ?_, ?_⟩
  · have w := c.wf a
    have w' := c'.wf a
    have s := c'.stp.2.2 a
    have sf := someF a
    simp only [coL, cuL, Nat.zero_add, coL_append, cuL_append] at w w' s ⊢
    by_cases z : H a = none
    · have n1 : coL a F = 0 := by
        rcases Nat.eq_zero_or_pos (coL a F) with q | q
        · exact q
        · exact absurd z (sf (by omega))
      have n2 : cuL a F = 0 := by
        rcases Nat.eq_zero_or_pos (cuL a F) with q | q
        · exact q
        · exact absurd z (sf (by omega))
      omega
    · have s1 := s.1
      have s2 := s.2
      simp only [z, or_false] at s1 s2
      omega
  · refine Stp.trans c.stp ⟨fun a o h hc => c'.stp.1 a o h (by simp only [coL] at hc ⊢; omega), c'.stp.2.1, fun a => ?_⟩
    have s := c'.stp.2.2 a
    simp only [coL, cuL, Nat.zero_add, coL_append, cuL_append] at s ⊢
    refine ⟨fun h => ?_, fun h => ?_⟩
    · by_cases q : 0 < coL a F
      · exact .inl (by omega)
      · rcases s.1 (by omega) with z | z
        · exact .inl (by omega)
        · exact .inr z
    · by_cases q : 0 < cuL a F
      · exact .inr (.inl (by omega))
      · rcases s.2 (by omega) with z | z | z
        · exact .inl (by omega)
        · exact .inr (.inl (by omega))
        · exact .inr (.inr z)
/-- the environment alone -/
theorem Cf.base (c : Cf K H0 env0 σ H F env) : WfF [] env := fun a => by
  have w := c.wf a
  simp only [coL, cuL, Nat.zero_add] at w ⊢
  omega
/-- what was made purely -/
theorem Cf.pure (r : Rel σ env) (s : SatE K H env) (w : WfF [] env) (x : Ex H H') (s1 : t.sat K H') (o : Own H env t) : Cf K H env σ H' [t] env := by
  refine ⟨r, ⟨s1, trivial⟩, s.ex x, fun a => ?_, ⟨fun a o h _ => x a o h, fun a h => Evl.fresh_back x h, fun a => ?_⟩⟩
  · have h := o a
    have w := w a
    have c1 : 0 < coE a env → H a ≠ none := coE_some s
    have c2 : 0 < cuE a env → H a ≠ none := cuE_some s
    simp only [coL, cuL, Nat.zero_add, Nat.add_zero] at w ⊢
    by_cases q : 0 < t.co a
    · have z := h.2.1 q
      have n1 : coE a env = 0 := by
        rcases Nat.eq_zero_or_pos (coE a env) with q | q
        · exact q
        · exact absurd z (c1 q)
      have n2 : cuE a env = 0 := by
        rcases Nat.eq_zero_or_pos (cuE a env) with q | q
        · exact q
        · exact absurd z (c2 q)
      omega
    · by_cases q2 : 0 < t.cu a
      · rcases h.2.2 q2 with z | z
        · omega
        · have n1 : coE a env = 0 := by
            rcases Nat.eq_zero_or_pos (coE a env) with q | q
            · exact q
            · exact absurd z (c1 q)
          omega
      · omega
  · have h := o a
    simp only [coL, cuL, Nat.zero_add, Nat.add_zero]
    refine ⟨fun q => ?_, fun q => ?_⟩
    · by_cases q2 : 0 < t.co a
      · exact .inr (h.2.1 q2)
      · exact .inl (by omega)
    · by_cases q2 : 0 < t.cu a
      · rcases h.2.2 q2 with z | z
        · exact .inr (.inl z)
        · exact .inr (.inr z)
      · exact .inr (.inl (by omega))
theorem Cf.ex (c : Cf K H0 env0 σ H F env) (x : Ex H H') : Cf K H0 env0 σ H' F env :=
  ⟨c.rel, satL_ex x c.satF, c.satE.ex x, c.wf, Stp.trans c.stp ⟨fun a o h _ => x a o h, fun a h => Evl.fresh_back x h, fun a => ⟨fun q => .inl q, fun q => .inr (.inl q)⟩⟩⟩
/-- fewer trees -/
theorem Cf.less {F' : List T} {env' : TEnv} (c : Cf K H0 env0 σ H F env) (r : Rel σ' env') (sF : satL K H F') (sE : SatE K H env') (h1 : ∀ a, coL a F' + coE a env' ≤ coL a F + coE a env) (h2 : ∀ a, cuL a F' + cuE a env' ≤ cuL a F + cuE a env) : Cf K H0 env0 σ' H F' env' := by
  refine ⟨r, sF, sE, fun a => ?_, Stp.trans c.stp ⟨fun a o h _ => h, fun a h => h, fun a => ⟨fun q => .inl ?_, fun q => .inr (.inl ?_)⟩⟩⟩
  · have w := c.wf a
    have := h1 a
    have := h2 a
    simp only at w ⊢
    omega
  · have := h1 a
    simp only at q ⊢
    omega
  · have := h2 a
    simp only at q ⊢
    omega
end
/-- an expression that may change the environment; the slots of U keep their trees -/
def trE (K : PySem.W.Frag) (U : List Nat) (m : EM) : TE := fun σ H Q => ∃ env d e', m (erE env) = some (d, e') ∧ Rel σ env ∧ SatE K H env ∧ WfF [] env ∧
  ∀ t env' H', t.er = d → erE env' = e' → Cf K H env σ H' [t] env' → (∀ i ∈ U, env'[i]? = env[i]?) → Q t.val H'
abbrev TM := Env → Option (Bool × Env)
def trET (K : PySem.W.Frag) (m : TM) : TT := fun σ H Q => ∃ env b e', m (erE env) = some (b, e') ∧ Rel σ env ∧ SatE K H env ∧ WfF [] env ∧
  ∀ env' H', erE env' = e' → Cf K H env σ H' [] env' → Q b H'
def SE (X : Cx) (U : List Nat) (e : Expr) (m : EM) : Prop := PE X e (trE X.K U m)
def SET (X : Cx) (e : Expr) (m : TM) : Prop := PT X e (trET X.K m)
@[simp] def lift (m : PM) : EM := fun env => (m env).map fun d => (d, env)
@[simp] def liftT (m : BM) : TM := fun env => (m env).map fun d => (d, env)
/-- how statements end -/
inductive O where
  | nx | bk | ct
  | rt (d : D)
abbrev SM := Env → Option (O × Env)
def outs (De : Ends) (o : O) (F : List T) (σ : L2.St) (H : Hp) : Prop := match o with
  | .nx => F = [] → De.nx σ H
  | .bk => F = [] → De.bk σ H
  | .ct => F = [] → De.ct σ H
  | .rt d => ∀ t, F = [t] → t.er = d → De.rt t.val H
def trS (K : PySem.W.Frag) (P : List Nat) (m : SM) : TS := fun De σ H => ∃ env o e', m (erE env) = some (o, e') ∧ Rel σ env ∧ SatE K H env ∧ WfF [] env ∧
  ∀ F σ' env' H', erE env' = e' → Cf K H env σ' H' F env' → (∀ i ∈ P, σ'[i]? = σ[i]?) → outs De o F σ' H'
def SS (X : Cx) (P : List Nat) (st : Stmt) (m : SM) : Prop := PS X st (trS X.K P m)
def SSs (X : Cx) (P : List Nat) (st : List Stmt) (m : SM) : Prop := PSs X st (trS X.K P m)
theorem PS.weak {X : Cx} {st : Stmt} {t u : TS} (h : PS X st t) (w : ∀ D σ H, u D σ H → t D σ H) : PS X st u := ⟨fun pins s σ H D I z => h.run pins s σ H D I (w D σ H z)⟩
theorem PSs.weak {X : Cx} {st : List Stmt} {t u : TS} (h : PSs X st t) (w : ∀ D σ H, u D σ H → t D σ H) : PSs X st u := ⟨fun pins s σ H D I z => h.run pins s σ H D I (w D σ H z)⟩
section
variable {K : PySem.W.Frag} {H0 H H' : Hp} {env0 env env' : TEnv} {σ σ' : L2.St} {F : List T} {U : List Nat} {m : PM} {me : EM} {d : D} {e' : Env} {Q : VK}
theorem goE (c : Cf K H0 env0 σ H F env) (hm : me (erE env) = some (d, e')) (k : ∀ t env' H', t.er = d → erE env' = e' → Cf K H0 env0 σ H' (t :: F) env' → (∀ i ∈ U, env'[i]? = env[i]?) → Q t.val H') : trE K U me σ H Q :=
  ⟨env, d, e', hm, c.rel, c.satE, c.base, fun t env' H' e1 e2 c' u => k t env' H' e1 e2 (c.step c') u⟩
theorem goP (c : Cf K H0 env0 σ H F env) (hm : m (erE env) = some d) (k : ∀ t H', t.er = d → Ex H H' → Cf K H0 env0 σ H' (t :: F) env → Q t.val H') : trP K m σ H Q :=
  ⟨env, d, hm, c.rel, c.satE, fun t H' e1 x s o => k t H' e1 x (c.step (Cf.pure c.rel c.satE c.base x s o))⟩
theorem goB (c : Cf K H0 env0 σ H F env) (hm : m (erE env) = some d) (k : ∀ t H', t.er = d → Ex H H' → t.sat K H' → Bor H env t → Cf K H0 env0 σ H' F env → Q t.val H') : trB K m σ H Q :=
  ⟨env, d, hm, c.rel, c.satE, fun t H' e1 x s o => k t H' e1 x s o (c.ex x)⟩
theorem goT {mb : BM} {b : Bool} {Q : Bool → Hp → Prop} (c : Cf K H0 env0 σ H F env) (hm : mb (erE env) = some b) (k : ∀ H', Cf K H0 env0 σ H' F env → Q b H') : trT K mb σ H Q :=
  ⟨env, b, hm, c.rel, c.satE, fun H' x => k H' (c.ex x)⟩
theorem goET {mb : TM} {b : Bool} {Q : Bool → Hp → Prop} (c : Cf K H0 env0 σ H F env) (hm : mb (erE env) = some (b, e')) (k : ∀ env' H', erE env' = e' → Cf K H0 env0 σ H' F env' → Q b H') : trET K mb σ H Q :=
  ⟨env, b, e', hm, c.rel, c.satE, c.base, fun env' H' e1 c' => k env' H' e1 (c.step c')⟩
end
section
variable {X : Cx} {m ma mb : PM} {me m1 m2 : EM} {e a b : Expr} {pos : Pos} {U P : List Nat}
theorem se_p (h : SP X e m) : SE X U e (lift m) := PE.weak h fun σ H Q ⟨env, d, e', hm, r, s, w, k⟩ => by
  obtain ⟨x, hx, e1⟩ := map_some hm
  cases e1
  exact goP (Cf.start r s w) hx fun t H' e1 x c => k t env H' e1 rfl c fun _ _ => rfl
theorem set_t {mt : BM} (h : ST X e mt) : SET X e (liftT mt) := PT.weak h fun σ H Q ⟨env, d, e', hm, r, s, w, k⟩ => by
  obtain ⟨x, hx, e1⟩ := map_some hm
  cases e1
  exact goT (Cf.start r s w) hx fun H' c => k env H' rfl c
@[simp] def eB (m : EM) : TM := fun env => (m env).bind fun x => (toB x.1).map fun b => (b, x.2)
theorem set_val (h : SE X [] e me) (he : ∀ whole, isTrue e X.env whole = (do let v ← whole; standAt e.pos; holding [v] (truthy v)) := by intro _; rfl) : SET X e (eB me) := PT.weak (pt_val h he) fun σ H Q ⟨env, d, e', hm, r, s, w, k⟩ => by
  obtain ⟨x, hx, hm⟩ := bind_some hm
  obtain ⟨b, hb, e1⟩ := map_some hm
  cases e1
  refine goE (d := x.1) (e' := x.2) (Cf.start r s w) hx fun t env' H' e1 e2 c _ => ?_
  rw [er_scl (e1.trans (toB_some hb)) rfl]
  exact ⟨d, rfl, k env' H' e2 (c.less c.rel trivial c.satE (fun a => by simp [coL]) (fun a => by simp [cuL]))⟩
/-- two parts, the answer a scalar -/
@[simp] def eOp2 (f : D → D → Option V) (ma mb : EM) : EM := fun env => (ma env).bind fun x => (mb x.2).bind fun y => (f x.1 y.1).bind fun v => (sv v).map fun d => (d, y.2)
theorem eop_rd {K : PySem.W.Frag} {σ : L2.St} {H : Hp} {Q : VK} {r : R2} {f : D → D → Option V} (ho : Op2 K r f) (h : trE K U (eOp2 f m1 m2) σ H Q) : tOp r (trE K U m1) (trE K U m2) σ H Q := by
  obtain ⟨env, d, e', hm, hr, s, w, k⟩ := h
  obtain ⟨x, hx, hm⟩ := bind_some hm
  obtain ⟨y, hy, hm⟩ := bind_some hm
  obtain ⟨v, hv, hm⟩ := bind_some hm
  obtain ⟨dv, hs, e1⟩ := map_some hm
  obtain ⟨s1, rfl⟩ := sv_some hs
  cases e1
  refine goE (d := x.1) (e' := x.2) (Cf.start hr s w) hx fun t env1 H1 e1 e2 c1 u1 => ?_
  refine goE (d := y.1) (e' := y.2) c1 (by rw [e2]; exact hy) fun u env2 H2 e3 e4 c2 u2 => ?_
  refine ho t u v H2 Q c2.satF.2.1 c2.satF.1 (by rw [e1, e3]; exact hv) ?_
  refine k (.s v) env2 H2 (by rw [T.er, hid_scl s1]) e4 (c2.less c2.rel ⟨trivial, trivial⟩ c2.satE (fun a => by simp [coL, T.co]; try omega) (fun a => by simp [cuL, T.cu]; try omega)) fun i hi => (u2 i hi).trans (u1 i hi)
theorem se_op {op : Operator} {r : R2} {f : D → D → Option V} (ho : OpR X (binaryOp op) r) (hf : Op2 X.K r f) (ha : SE X U a m1) (hb : SE X U b m2) : SE X U (.BinOp a op b pos) (eOp2 f m1 m2) :=
  PE.weak (pe_op ho ha hb) fun σ H Q h => eop_rd hf h
theorem se_cmp {op : CmpOp} {r : R2} {f : D → D → Option V} (ho : OpR X (compareOp op) r) (hf : Op2 X.K r f) (ha : SE X U a m1) (hb : SE X U b m2) (hm : behindInMarks op b = false) : SE X U (.Compare a [op] [b] pos) (eOp2 f m1 m2) :=
  PE.weak (pe_cmpR ho ha hb hm) fun σ H Q h => eop_rd hf h
theorem se_add (ha : SE X U a m1) (hb : SE X U b m2) : SE X U (.BinOp a .Add b pos) (eOp2 fAdd m1 m2) := se_op op_add op2_I0 ha hb
theorem se_sub (ha : SE X U a m1) (hb : SE X U b m2) : SE X U (.BinOp a .Sub b pos) (eOp2 fSub m1 m2) := se_op op_sub op2_I0 ha hb
theorem se_mod (ha : SE X U a m1) (hb : SE X U b m2) : SE X U (.BinOp a .Mod b pos) (eOp2 fMod m1 m2) := se_op op_mod (op2_I fun _ _ h => of_decide_eq_true h) ha hb
theorem se_mul (ha : SE X U a m1) (hb : SE X U b m2) : SE X U (.BinOp a .Mult b pos) (eOp2 fMul m1 m2) := se_op op_mulW (op2_I fun _ _ h => of_decide_eq_true h) ha hb
theorem se_div (ha : SE X U a m1) (hb : SE X U b m2) : SE X U (.BinOp a .FloorDiv b pos) (eOp2 fDiv m1 m2) := se_op op_fdivW (op2_I fun i j h => (of_decide_eq_true h : 0 < j ∧ j.natAbs.log2 < 9000)) ha hb
theorem se_eq {k : Nat} (hr : Room k X.A) (ha : SE X U a m1) (hb : SE X U b m2) : SE X U (.Compare a [.Eq] [b] pos) (eOp2 fEq m1 m2) := se_cmp (op_eqD (hu64 hr)) op2_eq ha hb (nomark _)
theorem se_ne {k : Nat} (hr : Room k X.A) (ha : SE X U a m1) (hb : SE X U b m2) : SE X U (.Compare a [.NotEq] [b] pos) (eOp2 fNe m1 m2) := se_cmp (op_neD (hu64 hr)) op2_ne ha hb (nomark _)
theorem se_lt (ha : SE X U a m1) (hb : SE X U b m2) : SE X U (.Compare a [.Lt] [b] pos) (eOp2 fLt m1 m2) := se_cmp op_lt op2_I0 ha hb (nomark _)
theorem se_gt (ha : SE X U a m1) (hb : SE X U b m2) : SE X U (.Compare a [.Gt] [b] pos) (eOp2 fGt m1 m2) := se_cmp op_gt op2_I0 ha hb (nomark _)
theorem se_le (ha : SE X U a m1) (hb : SE X U b m2) : SE X U (.Compare a [.LtE] [b] pos) (eOp2 fLe m1 m2) := se_cmp op_le op2_I0 ha hb (nomark _)
theorem se_ge (ha : SE X U a m1) (hb : SE X U b m2) : SE X U (.Compare a [.GtE] [b] pos) (eOp2 fGe m1 m2) := se_cmp op_ge op2_I0 ha hb (nomark _)
/-- an item of what was made, at a place that is drawn -/
@[simp] def eItem (ma mb : EM) : EM := fun env => (ma env).bind fun x => (mb x.2).bind fun y => (fItem x.1 y.1).bind fun d => if d.pure = true then some (d, y.2) else none
theorem se_item (ha : SE X U a m1) (hb : SE X U b m2) (hs : PlainIx b := by exact fun _ _ => rfl) : SE X U (.Subscript a b pos) (eItem m1 m2) := PE.weak (pe_ix ix_it ha hb hs) fun σ H Q ⟨env, d, e', hm, hr, s, w, k⟩ => by
  obtain ⟨x, hx, hm⟩ := bind_some hm
  obtain ⟨y, hy, hm⟩ := bind_some hm
  obtain ⟨d', hd, hm⟩ := bind_some hm
  split at hm
  case isFalse => cases hm
  rename_i hp
  cases hm
  refine goE (d := x.1) (e' := x.2) (Cf.start hr s w) hx fun t env1 H1 e1 e2 c1 u1 => ?_
  refine goE (d := y.1) (e' := y.2) c1 (by rw [e2]; exact hy) fun u env2 H2 e3 e4 c2 u2 => ?_
  rw [← e1, ← e3] at hd
  have fin : ∀ z : T, z.er = d → z.sat X.K H2 → (∀ b, cuL b [z] ≤ t.cu b) → Q z.val H2 := fun z ez sz lz => by
    rw [← ez] at hp
    exact k z env2 H2 ez e4 (c2.less c2.rel ⟨sz, trivial⟩ c2.satE (fun a => by simp only [coL, pure_co z hp]; omega) (fun a => by have := lz a; simp only [cuL] at this ⊢; omega)) fun i hi => (u2 i hi).trans (u1 i hi)
  unfold fItem at hd
  split at hd
  · rename_i o ds i g1 g2
    obtain ⟨a, ts, f1, f2, f3, f4, f5, f6⟩ := rdL c2.satF.2.1 g1
    rw [f1, er_int g2]
    rw [← f2, erL_map, atI_map] at hd
    obtain ⟨z, hz, ez⟩ := map_some hd
    have hz2 := atI_mem hz
    refine .inl (.inl ⟨a, _, i, z.val, rfl, rfl, f3, by rw [vals, atI_map, hz]; rfl, fin z ez (satL_iff.mp f4 z hz2) fun b => by rw [cu1]; exact Nat.le_trans (cuL_mem hz2) (f6 b)⟩)
  · rename_i ds i g1 g2
    obtain ⟨a, ts, f1, f2, f3, f4, f5, f6⟩ := rdT c2.satF.2.1 g1
    rw [f1, er_int g2]
    rw [← f2, erL_map, atI_map] at hd
    obtain ⟨z, hz, ez⟩ := map_some hd
    have hz2 := atI_mem hz
    refine .inl (.inr ⟨a, _, i, z.val, rfl, rfl, f3, by rw [vals, atI_map, hz]; rfl, fin z ez (satL_iff.mp f4 z hz2) fun b => by rw [cu1]; exact Nat.le_trans (cuL_mem hz2) (f6 b)⟩)
  · rename_i z i g1 g2
    split at hd
    · rename_i hl
      obtain ⟨c, hc, ez⟩ := map_some hd
      rw [er_scl g1 rfl, er_int g2]
      exact .inr ⟨z, i, c, rfl, rfl, sizeLine_le hl, hc, fin (.s (.str ⟨#[c]⟩)) ez trivial fun b => by simp [cuL, T.cu]⟩
    · cases hd
  · cases hd

/-! ### statements -/
@[simp] def sNx : SM := fun env => some (.nx, env)
@[simp] def sSeq (m n : SM) : SM := fun env => (m env).bind fun x => match x.1 with
  | .nx => n x.2
  | o => some (o, x.2)
@[simp] def sDrop (m : EM) : SM := fun env => (m env).map fun x => (.nx, x.2)
@[simp] def sSet (i : Nat) (m : EM) : SM := fun env => (m env).map fun x => (.nx, x.2.set i (some x.1))
@[simp] def sRet (m : EM) : SM := fun env => (m env).map fun x => (.rt x.1, x.2)
@[simp] def sRetN : SM := fun env => some (.rt (.s .non), env)
@[simp] def sBk : SM := fun env => some (.bk, env)
@[simp] def sCt : SM := fun env => some (.ct, env)
@[simp] def sIf (c : TM) (m n : SM) : SM := fun env => (c env).bind fun x => if x.1 = true then m x.2 else n x.2
section
variable {st : Stmt} {rest : List Stmt} {mS nS : SM}
theorem sss_nil : SSs X P [] sNx := PSs.weak pss_nil fun De σ H ⟨env, o, e', hm, r, s, w, k⟩ => by
  cases hm
  exact k [] σ env H rfl (Cf.start r s w) (fun _ _ => rfl) rfl
theorem sss_one (h : SS X P st mS) : SSs X P [st] mS := pss_one h
theorem sss_cons (h : SS X P st mS) (hs : SSs X P rest nS) : SSs X P (st :: rest) (sSeq mS nS) := PSs.weak (pss_cons h hs) fun De σ H ⟨env, o, e', hm, r, s, w, k⟩ => by
  obtain ⟨x, hx, hm⟩ := bind_some hm
  refine ⟨env, x.1, x.2, hx, r, s, w, fun F σ1 env1 H1 e1 c1 p1 => ?_⟩
  obtain ⟨xo, xe⟩ := x
  cases xo with
  | nx =>
    intro hF
    subst hF
    refine ⟨env1, o, e', by rw [e1]; exact hm, c1.rel, c1.satE, c1.base, fun F2 σ2 env2 H2 e2 c2 p2 => ?_⟩
    have c3 := c1.step c2
    rw [List.append_nil] at c3
    exact k F2 σ2 env2 H2 e2 c3 fun i hi => (p2 i hi).trans (p1 i hi)
  | bk => cases hm; exact k F σ1 env1 H1 e1 c1 p1
  | ct => cases hm; exact k F σ1 env1 H1 e1 c1 p1
  | rt d => cases hm; exact k F σ1 env1 H1 e1 c1 p1
end
end
end Ow

namespace Ow
open PySem L2

section
variable {K : PySem.W.Frag} {H0 H H' : Hp} {env0 env env' : TEnv} {σ σ' : L2.St} {F G : List T} {t : T}
/-- what was made purely, several -/
theorem Cf.pureL {ts : List T} (r : Rel σ env) (s : SatE K H env) (w : WfF [] env) (x : Ex H H') (s1 : satL K H' ts) (o : OwnL H env ts) : Cf K H env σ H' ts env := by
  refine ⟨r, s1, s.ex x, fun a => ?_, ⟨fun a o h _ => x a o h, fun a h => Evl.fresh_back x h, fun a => ?_⟩⟩
  · have h := o a
    have w := w a
    have c1 : 0 < coE a env → H a ≠ none := coE_some s
    have c2 : 0 < cuE a env → H a ≠ none := cuE_some s
    simp only [coL, cuL, Nat.zero_add, Nat.add_zero] at w ⊢
    by_cases q : 0 < coL a ts
    · have z := h.2.1 q
      have n1 : coE a env = 0 := by
        rcases Nat.eq_zero_or_pos (coE a env) with q | q
        · exact q
        · exact absurd z (c1 q)
      have n2 : cuE a env = 0 := by
        rcases Nat.eq_zero_or_pos (cuE a env) with q | q
        · exact q
        · exact absurd z (c2 q)
      omega
    · by_cases q2 : 0 < cuL a ts
      · rcases h.2.2 q2 with z | z
        · omega
        · have n1 : coE a env = 0 := by
            rcases Nat.eq_zero_or_pos (coE a env) with q | q
            · exact q
            · exact absurd z (c1 q)
          omega
      · omega
  · have h := o a
    simp only [coL, cuL, Nat.zero_add, Nat.add_zero]
    refine ⟨fun q => ?_, fun q => ?_⟩
    · by_cases q2 : 0 < coL a ts
      · exact .inr (h.2.1 q2)
      · exact .inl (by omega)
    · by_cases q2 : 0 < cuL a ts
      · rcases h.2.2 q2 with z | z
        · exact .inr (.inl z)
        · exact .inr (.inr z)
      · exact .inr (.inl (by omega))
/-- the slots bound to what is not owned -/
theorem Cf.bind {sl : List Nat} {e' : Env} (c : Cf K H0 env0 σ H F env) (x : Ex H H') (ho : ∀ a, t.co a = 0) (hu : ∀ a, 0 < t.cu a → 0 < cuL a F ∨ 0 < cuE a env ∨ H a = none) (s : t.sat K H')
    (B : Bnd K H' σ env (fun a => t.co a) (fun a => t.cu a) sl e' σ' env') : Cf K H0 env0 σ' H' F env' := by
  have sE : SatE K H' env' := fun u hu => by
    rcases B.sat u hu with q | q
    · exact sat_ex x (c.satE u q)
    · exact q
  refine ⟨B.rel, satL_ex x c.satF, sE, fun a => ?_, Stp.trans c.stp ⟨fun a o h _ => x a o h, fun a h => Evl.fresh_back x h, fun a => ?_⟩⟩
  · have w := c.wf a
    have b1 := B.co a
    have b2 := B.cu a
    have z := ho a
    simp only at w b1 b2 ⊢
    rw [z] at b1
    by_cases q : 0 < coL a F + coE a env'
    · have nn : H a ≠ none := by
        by_cases q2 : 0 < coL a F
        · exact coL_some F c.satF q2
        · exact coE_some c.satE (by omega)
      have : t.cu a = 0 := by
        rcases Nat.eq_zero_or_pos (t.cu a) with y | y
        · exact y
        · rcases hu a y with y | y | y
          · omega
          · omega
          · exact absurd y nn
      omega
    · omega
  · have b1 := B.co a
    have b2 := B.cu a
    have z := ho a
    simp only at b1 b2 ⊢
    rw [z] at b1
    refine ⟨fun q => .inl (by omega), fun q => ?_⟩
    by_cases q2 : 0 < t.cu a
    · rcases hu a q2 with y | y | y
      · exact .inr (.inl (by omega))
      · exact .inr (.inl (by omega))
      · exact .inr (.inr y)
    · exact .inr (.inl (by omega))
theorem Cf.toNil (c : Cf K H0 env0 σ H F env) : Cf K H0 env0 σ H [] env := c.less c.rel trivial c.satE (fun a => by simp only [coL]; omega) (fun a => by simp only [cuL]; omega)
theorem Cf.dropB (c : Cf K H0 env0 σ H (G ++ F) env) : Cf K H0 env0 σ H G env := c.less c.rel (satL_append.mp c.satF).1 c.satE (fun a => by rw [coL_append]; omega) (fun a => by rw [cuL_append]; omega)
end
section
variable {X : Cx} {m ma mb : PM} {me m1 m2 : EM} {e a b tg iter : Expr} {pos p : Pos} {U P : List Nat} {st : Stmt} {rest body orelse : List Stmt} {mS nS : SM}
theorem ss_expr (h : SE X [] e me) (hs : swapsWith e none pos.line X.env = pure false := by rfl) : SS X P (.Expr e pos) (sDrop me) := PS.weak (ps_expr h hs) fun De σ H ⟨env, o, e', hm, r, s, w, k⟩ => by
  obtain ⟨x, hx, e1⟩ := map_some hm
  cases e1
  exact goE (d := x.1) (e' := x.2) (Cf.start r s w) hx fun t env1 H1 e1 e2 c1 _ => k [] σ env1 H1 e2 c1.toNil (fun _ _ => rfl) rfl
theorem set_pin {σ : L2.St} {i : Nat} {v : Option V} {P : List Nat} (h : i ∉ P) : ∀ j ∈ P, (σ.set i v)[j]? = σ[j]? := fun j hj => by
  rw [List.getElem?_set, if_neg (fun z => h (by rw [z]; exact hj))]
theorem asg_rd {K : PySem.W.Frag} {De : Ends} {σ : L2.St} {H : Hp} {i : Nat} (hP : i ∉ P) (h : trS K P (sSet i me) De σ H) : tAsg (trE K [] me) (gName i) De σ H := by
  obtain ⟨env, o, e', hm, r, s, w, k⟩ := h
  obtain ⟨x, hx, e1⟩ := map_some hm
  cases e1
  refine goE (d := x.1) (e' := x.2) (Cf.start r s w) hx fun t env1 H1 e1 e2 c1 _ => ?_
  refine k [] (σ.set i (some t.val)) (env1.set i (some t)) H1 (by rw [erE_set, e2, ← e1]; rfl) (c1.less c1.rel.set trivial (c1.satE.set fun u hu => by cases hu; exact c1.satF.1) (fun a => ?_) fun a => ?_) (set_pin hP) rfl
  · have := set_co (env := env1) (j := i) (t := t) (a := a)
    simp only [coL]; omega
  · have := set_cu (env := env1) (j := i) (t := t) (a := a)
    simp only [cuL]; omega
theorem ss_set {x : Str} {pos' : Pos} (i : Nat) (hN : X.N.Nodup) (hP : i ∉ P) (h : SE X [] e me) (hi : X.N[i]? = some x := by rfl) (hx : Loc X.env.scope x := by first | exact .inl rfl | exact .inr rfl) (hs : swapsWith e (some (.Name x pos')) pos.line X.env = pure false := by rfl)
    (hf : X.fn x = true ∨ X.env.scope.names.lookup x = some .local := by first | exact .inl rfl | exact .inr rfl | assumption) : SS X P (.Assign [.Name x pos'] e pos) (sSet i me) :=
  PS.weak (ps_set (i := i) hN hi hx h hs hf) fun De σ H h => asg_rd hP h
theorem ss_setLc {elt : Expr} {ifs : List Expr} {scope : Scope} {own : List (Str × Nat)} {mi : LM} {g : Tg} {mt : BM} {ml : PM} {y : Str} {py spos : Pos} (i : Nat) (hP : i ∉ P) (hc : X.calm = true) (hN : X.N.Nodup) (hi : SI X tg iter mi) (ok : blkC X.N X.env.scope scope own = true)
    (hg : ∀ (s : Shared) (H : Hp) (C : Addr) (cl : List (Str × Addr)) (fp : List Addr), SG (X.blk s H scope (compEnvC scope cl C X.env) fp) tg g) (ht : ∀ (s : Shared) (H : Hp) (C : Addr) (cl : List (Str × Addr)) (fp : List Addr), STs (X.blk s H scope (compEnvC scope cl C X.env) fp) ifs mt)
    (he : ∀ (s : Shared) (H : Hp) (C : Addr) (cl : List (Str × Addr)) (fp : List Addr), SP (X.blk s H scope (compEnvC scope cl C X.env) fp) elt ml) (hsl : ∀ i ∈ g.sl, i ∈ own.map (·.2))
    (hsw : swapsWith (.ListComp elt [⟨tg, iter, ifs, 0⟩] scope pos) (some (.Name y py)) spos.line X.env = pure true) (hy : X.N[i]? = some y := by rfl) (hyl : X.env.scope.names.lookup y = some .local := by rfl) (hs : ∀ x, foldedSetIterable iter X.env x = pure x := by intro _; rfl) :
    SS X P (.Assign [.Name y py] (.ListComp elt [⟨tg, iter, ifs, 0⟩] scope pos) spos) (sSet i (lift (mLc mi g mt ml (own.map (·.2))))) :=
  PS.weak (ps_setLc (own := own) (g := gOf X.K g) (tt := trT X.K mt) (te := trP X.K ml) hc hN hy hyl hsw hi (blkOk_by ok) hg ht he hs) fun De σ H h => by
    have q := asg_rd (K := X.K) hP h
    obtain ⟨env, d, e', hm, r, s, w, k⟩ := q
    obtain ⟨x, hx, e1⟩ := map_some hm
    cases e1
    exact lc_rd hsl (goP (Cf.start r s w) hx fun t H' e1 x c => k t env H' e1 rfl c fun _ _ => rfl)
theorem ss_ret (h : SE X [] e me) : SS X P (.Return (some e) pos) (sRet me) := PS.weak (ps_ret h) fun De σ H ⟨env, o, e', hm, r, s, w, k⟩ => by
  obtain ⟨x, hx, e1⟩ := map_some hm
  cases e1
  exact goE (d := x.1) (e' := x.2) (Cf.start r s w) hx fun t env1 H1 e1 e2 c1 _ => k [t] σ env1 H1 e2 c1 (fun _ _ => rfl) t rfl e1
theorem ss_retN : SS X P (.Return none pos) sRetN := PS.weak ps_retN fun De σ H ⟨env, o, e', hm, r, s, w, k⟩ => by
  cases hm
  exact k [.s .non] σ env H rfl ((Cf.start r s w).less r ⟨trivial, trivial⟩ s (fun a => by simp [coL, T.co]) (fun a => by simp [cuL, T.cu])) (fun _ _ => rfl) (.s .non) rfl rfl
theorem ss_pass : SS X P (.Pass pos) sNx := PS.weak ps_pass fun De σ H ⟨env, o, e', hm, r, s, w, k⟩ => by
  cases hm
  exact k [] σ env H rfl (Cf.start r s w) (fun _ _ => rfl) rfl
theorem ss_break : SS X P (.Break pos) sBk := PS.weak ps_break fun De σ H ⟨env, o, e', hm, r, s, w, k⟩ => by
  cases hm
  exact k [] σ env H rfl (Cf.start r s w) (fun _ _ => rfl) rfl
theorem ss_continue : SS X P (.Continue pos) sCt := PS.weak ps_continue fun De σ H ⟨env, o, e', hm, r, s, w, k⟩ => by
  cases hm
  exact k [] σ env H rfl (Cf.start r s w) (fun _ _ => rfl) rfl
theorem ss_if {c : Expr} {mc : TM} (hc : SET X c mc) (h1 : SSs X P body mS) (h2 : SSs X P orelse nS) : SS X P (.If c body orelse pos) (sIf mc mS nS) := PS.weak (ps_if hc h1 h2) fun De σ H ⟨env, o, e', hm, r, s, w, k⟩ => by
  obtain ⟨x, hx, hm⟩ := bind_some hm
  refine goET (b := x.1) (e' := x.2) (Cf.start r s w) hx fun env1 H1 e1 c1 => ?_
  have fin : ∀ {n : SM}, n x.2 = some (o, e') → trS X.K P n De σ H1 := fun {n} hn => ⟨env1, o, e', by rw [e1]; exact hn, c1.rel, c1.satE, c1.base, fun F σ2 env2 H2 e2 c2 p2 => k F σ2 env2 H2 e2 (by
    have := c1.step c2
    rw [List.append_nil] at this
    exact this) p2⟩
  cases hb : x.1 with
  | true =>
    rw [hb, if_pos rfl] at hm
    rw [if_pos rfl]
    exact fin hm
  | false =>
    rw [hb, if_neg Bool.false_ne_true] at hm
    rw [if_neg Bool.false_ne_true]
    exact fin hm
@[simp] def sAsg (g : Tg) (m : PM) : SM := fun env => (m env).bind fun d => if d.pure = true then (bD g d env).map fun e' => (.nx, e') else none
theorem ss_asg {g : Tg} (he : SP X e m) (hg : SG X tg g) (hP : ∀ i ∈ g.sl, i ∉ P) (hs : swapsWithSole [tg] e pos.line X.env = pure false := by rfl) (hw : swappedStores [tg] e X.env = pure none := by rfl) (h1 : (assignEach [tg] X.env).map (·.2) = [assign tg X.env] := by rfl) :
    SS X P (.Assign [tg] e pos) (sAsg g m) := PS.weak (ps_asg he hg hs hw h1) fun De σ H ⟨env, o, e', hm, r, s, w, k⟩ => by
  obtain ⟨x, hx, hm⟩ := bind_some hm
  split at hm
  case isFalse => cases hm
  rename_i hp
  obtain ⟨e2, h2, e3⟩ := map_some hm
  cases e3
  refine ⟨env, x, hx, r, s, fun t H1 e1 x1 s1 o1 => ?_⟩
  rw [← e1] at h2 hp
  refine g_run g t σ env e' _ r s1 h2 fun σ' env' B => ?_
  have c1 : Cf X.K H env σ H1 [] env := (Cf.start r s w).ex x1
  refine k [] σ' env' H1 B.er (Cf.bind (t := t) ((Cf.start r s w)) x1 (fun a => pure_co t hp) (fun a q => .inr ((o1 a).2.2 q)) s1 B) (fun i hi => (B.out i fun z => hP i z hi).1) rfl
def sAug (i : Nat) (f : Int → Int → Int) (m : PM) : SM := fun env => (m env).bind fun y => match env[i]?.join, y with
  | some (.s (.int a)), .s (.int b) => some (.nx, env.set i (some (.s (.int (f a b)))))
  | _, _ => none
theorem ss_aug {x : Str} {pos' : Pos} {op : Operator} {f : Int → Int → Int} (i : Nat) (hN : X.N.Nodup) (hP : i ∉ P) (ho : PIp X op (ipI f)) (h : SB X e m) (hi : X.N[i]? = some x := by rfl) (hx : Loc X.env.scope x := by first | exact .inl rfl | exact .inr rfl)
    (hf : X.fn x = true ∨ X.env.scope.names.lookup x = some .local := by first | exact .inl rfl | exact .inr rfl | assumption) : SS X P (.AugAssign (.Name x pos') op e pos) (sAug i f m) := PS.weak (ps_aug (i := i) hN hi hx h ho hf) fun De σ H ⟨env, o, e', hm, r, s, w, k⟩ => by
  obtain ⟨y, hy, hm⟩ := bind_some hm
  split at hm
  · rename_i a b g1
    cases hm
    obtain ⟨t, h1, h2⟩ := join_get g1
    have h3 := er_int h2
    subst h3
    refine ⟨_, r.2 i _ h1, env, _, hy, r, s, fun u H1 e1 x1 s1 _ => ?_⟩
    rw [er_int e1]
    refine ⟨a, b, rfl, rfl, ?_⟩
    have c1 : Cf X.K H env σ H1 [] env := (Cf.start r s w).ex x1
    refine k [] (σ.set i (some (.int (f a b)))) (env.set i (some (.s (.int (f a b))))) H1 erE_set (c1.less (Rel.set (t := .s (.int (f a b))) c1.rel) trivial (c1.satE.set fun u hu => by cases hu; trivial) (fun a' => ?_) fun a' => ?_) (set_pin hP) rfl
    · have := set_co (env := env) (j := i) (t := .s (.int (f a b))) (a := a')
      simp only [coL, T.co] at this ⊢; omega
    · have := set_cu (env := env) (j := i) (t := .s (.int (f a b))) (a := a')
      simp only [cuL, T.cu] at this ⊢; omega
  · cases hm

/-! ### loops -/
def forD (g : Tg) (mb : SM) : List D → SM
  | [], env => some (.nx, env)
  | d :: ds, env => (bD g d env).bind fun e1 => (mb e1).bind fun x => match x.1 with
    | .nx => forD g mb ds x.2
    | .ct => forD g mb ds x.2
    | .bk => some (.nx, x.2)
    | .rt r => some (.rt r, x.2)
@[simp] def sFor (mi : LM) (g : Tg) (mb : SM) : SM := fun env => (mi env).bind fun ds => if pureL ds = true then forD g mb ds env else none
theorem pureL_at : ∀ {ds : List D} {i : Nat} {d : D}, pureL ds = true → ds[i]? = some d → d.pure = true
  | [], _, _, _, h => by simp at h
  | x :: ds, 0, d, hp, h => by
    rw [pureL, Bool.and_eq_true] at hp
    cases h
    exact hp.1
  | x :: ds, i + 1, d, hp, h => by
    rw [pureL, Bool.and_eq_true] at hp
    exact pureL_at hp.2 (by simpa using h)
theorem ss_for {mi : LM} {g : Tg} (hc : X.calm = true) (hp : PassesOwn (model X.prog X.w) X.A X.env X.xe) (hi : SJ X tg iter mi) (hg : SG X tg g) (hb : SSs X P body mS) (hP : ∀ i ∈ g.sl, i ∉ P) (hs : ∀ x, foldedSetIterable iter X.env x = pure x := by intro _; rfl) :
    SS X P (.For tg iter body [] pos) (sFor mi g mS) := PS.weak (ps_for hp hc hi hg hb hs) fun De σ H ⟨env, o, e', hm, r, s, w, k⟩ => by
  obtain ⟨ds, hds, hm⟩ := bind_some hm
  split at hm
  case isFalse => cases hm
  rename_i hpu
  refine ⟨env, ds, hds, r, s, fun J src H1 x1 ss os wk => ?_⟩
  refine ⟨fun i mm σi Hi => i ≤ ds.length ∧ mm = ds.length - i ∧ ∃ envi, forD g mS (ds.drop i) (erE envi) = some (o, e') ∧ Cf X.K H env σi Hi src envi ∧ ∀ j ∈ P, σi[j]? = σ[j]?,
    ⟨ds.length, Nat.zero_le _, rfl, env, hm, Cf.pureL r s w x1 ss os, fun _ _ => rfl⟩, fun i mm σi Hi W => ?_⟩
  obtain ⟨le, ms, envi, hf, c, pi⟩ := W
  by_cases hlt : i < ds.length
  · refine .inr ⟨wk.go i Hi c.satF hlt, fun σ' H' => ∃ m', m' < mm ∧ (i + 1 ≤ ds.length ∧ m' = ds.length - (i + 1) ∧ ∃ envi, forD g mS (ds.drop (i + 1)) (erE envi) = some (o, e') ∧ Cf X.K H env σ' H' src envi ∧ ∀ j ∈ P, σ'[j]? = σ[j]?), fun σ' H' h => h, fun x H3 hy => ?_⟩
    have hd := List.getElem?_eq_getElem hlt
    obtain ⟨t, rfl, et, x3, s3, c3, u3⟩ := wk.yld i Hi x H3 c.satF hy _ hd
    rw [List.drop_eq_getElem_cons hlt, forD] at hf
    obtain ⟨e1, hb1, hf⟩ := bind_some hf
    obtain ⟨y, hb2, hf⟩ := bind_some hf
    rw [← et] at hb1
    have pt : t.er.pure = true := by rw [et]; exact pureL_at hpu hd
    refine g_run g t σi envi e1 _ c.rel s3 hb1 fun σ2 env2 B => ?_
    have c2 : Cf X.K H env σ2 H3 src env2 := Cf.bind c x3 (fun a => pure_co t pt) (fun a q => (u3 a q).elim .inl fun z => .inr (.inr z)) s3 B
    refine ⟨env2, y.1, y.2, by rw [B.er]; exact hb2, c2.rel, c2.satE, c2.base, fun F σ3 env3 H4 e3 c4 p4 => ?_⟩
    have c5 := c2.step c4
    have p5 : ∀ j ∈ P, σ3[j]? = σ[j]? := fun j hj => (p4 j hj).trans ((B.out j fun z => hP j z hj).1.trans (pi j hj))
    obtain ⟨yo, ye⟩ := y
    cases yo with
    | nx =>
      intro hF
      subst hF
      exact ⟨mm - 1, by omega, hlt, by omega, env3, by rw [e3]; exact hf, c5, p5⟩
    | ct =>
      intro hF
      subst hF
      exact ⟨mm - 1, by omega, hlt, by omega, env3, by rw [e3]; exact hf, c5, p5⟩
    | bk =>
      intro hF
      subst hF
      cases hf
      exact k [] σ3 env3 H4 e3 c5.toNil p5 rfl
    | rt d =>
      intro t2 hF et2
      subst hF
      cases hf
      exact k [t2] σ3 env3 H4 e3 c5.dropB p5 t2 rfl et2
  · have hi3 : ds.length ≤ i := Nat.le_of_not_lt hlt
    refine .inl ⟨wk.stop i Hi c.satF hi3, ?_⟩
    rw [List.drop_eq_nil_of_le hi3, forD] at hf
    cases hf
    exact k [] σi envi Hi rfl c.toNil pi rfl
def whD (mc : TM) (mb : SM) : Nat → SM
  | 0, _ => none
  | n + 1, env => (mc env).bind fun x => if x.1 = true then (mb x.2).bind fun y => match y.1 with
      | .nx => whD mc mb n y.2
      | .ct => whD mc mb n y.2
      | .bk => some (.nx, y.2)
      | .rt r => some (.rt r, y.2)
    else some (.nx, x.2)
theorem ss_while {c : Expr} {mc : TM} (n : Nat) (hp : PassesOwn (model X.prog X.w) X.A X.env X.xe) (hc : SET X c mc) (hb : SSs X P body mS) : SS X P (.While c body [] pos) (whD mc mS n) := PS.weak (ps_while hp hc hb) fun De σ H ⟨env, o, e', hm, r, s, w, k⟩ => by
  refine ⟨fun mm σi Hi => ∃ envi, whD mc mS mm (erE envi) = some (o, e') ∧ Cf X.K H env σi Hi [] envi ∧ ∀ j ∈ P, σi[j]? = σ[j]?, ⟨n, env, hm, Cf.start r s w, fun _ _ => rfl⟩, fun mm σi Hi W => ?_⟩
  obtain ⟨envi, hf, ci, pi⟩ := W
  cases mm with
  | zero => cases hf
  | succ mm =>
    rw [whD] at hf
    obtain ⟨x, hx, hf⟩ := bind_some hf
    refine goET (b := x.1) (e' := x.2) ci hx fun env1 H1 e1 c1 => ?_
    obtain ⟨xb, xe⟩ := x
    cases xb with
    | true =>
      dsimp only at hf ⊢
      rw [if_pos rfl] at hf ⊢
      obtain ⟨y, hy, hf⟩ := bind_some hf
      refine ⟨fun σ' H' => ∃ m', m' < mm + 1 ∧ ∃ envi, whD mc mS m' (erE envi) = some (o, e') ∧ Cf X.K H env σ' H' [] envi ∧ ∀ j ∈ P, σ'[j]? = σ[j]?, fun σ' H' h => h, ?_⟩
      refine ⟨env1, y.1, y.2, by rw [e1]; exact hy, c1.rel, c1.satE, c1.base, fun F σ3 env3 H4 e3 c4 p4 => ?_⟩
      have c5 := c1.step c4
      rw [List.append_nil] at c5
      have p5 : ∀ j ∈ P, σ3[j]? = σ[j]? := fun j hj => (p4 j hj).trans (pi j hj)
      obtain ⟨yo, ye⟩ := y
      cases yo with
      | nx =>
        intro hF
        subst hF
        exact ⟨mm, by omega, env3, by rw [e3]; exact hf, c5, p5⟩
      | ct =>
        intro hF
        subst hF
        exact ⟨mm, by omega, env3, by rw [e3]; exact hf, c5, p5⟩
      | bk =>
        intro hF
        subst hF
        cases hf
        exact k [] σ3 env3 H4 e3 c5 p5 rfl
      | rt d =>
        intro t2 hF et2
        subst hF
        cases hf
        exact k [t2] σ3 env3 H4 e3 c5 p5 t2 rfl et2
    | false =>
      dsimp only at hf ⊢
      rw [if_neg Bool.false_ne_true] at hf ⊢
      cases hf
      exact k [] σi env1 H1 e1 c1 pi rfl

/-! ### by the way: a slot's tree held for shared from here on; forgotten -/
@[simp] def frzAt (i : Nat) (env : Env) : Env := match env[i]?.join with
  | some d => env.set i (some d.frz)
  | none => env
theorem sss_weakE (h : SSs X P rest mS) {nS : SM} (w : ∀ K (De : Ends) σ H, trS K P nS De σ H → trS K P mS De σ H) : SSs X P rest nS := PSs.weak h fun De σ H z => w X.K De σ H z
theorem sss_frz (i : Nat) (h : SSs X P rest mS) : SSs X P rest (fun env => mS (frzAt i env)) := sss_weakE h fun K De σ H ⟨env, o, e', hm, r, s, w, k⟩ => by
  unfold frzAt at hm
  dsimp only at hm
  split at hm
  · rename_i d hd
    obtain ⟨t, h1, h2⟩ := join_get hd
    have h1' : env[i]? = some (some t) := h1
    have l1 : ∀ a, coE a (env.set i (some t.frz)) + t.co a = coE a env := fun a => by
      have := coE_set (a := a) (some t.frz) h1'
      simp only [oT, frz_co] at this
      omega
    have l2 : ∀ a, cuE a (env.set i (some t.frz)) = t.co a + cuE a env := fun a => by
      have := cuE_set (a := a) (some t.frz) h1'
      simp only [oT, frz_cu] at this
      omega
    have l3 : ∀ a, t.co a ≤ coE a env := fun a => coE_get h1'
    refine ⟨env.set i (some t.frz), o, e', ?_, r.swap h1' (frz_val t), s.set fun u hu => by cases hu; exact frz_sat t (s.get h1'), fun a => ?_, fun F σ' env' H' e1 c1 p1 => ?_⟩
    · rw [erE_set]
      show mS ((erE env).set i (some t.frz.er)) = _
      rw [frz_er, h2]
      exact hm
    · have := w a
      have := l1 a
      have := l2 a
      have := l3 a
      simp only [coL, cuL, Nat.zero_add] at *
      omega
    · refine k F σ' env' H' e1 ⟨c1.rel, c1.satF, c1.satE, c1.wf, ?_⟩ p1
      refine Stp.trans (H1 := H) (c1 := fun a => coL a [] + coE a (env.set i (some t.frz))) (u1 := fun a => cuL a [] + cuE a (env.set i (some t.frz))) ⟨fun a o h _ => h, fun a h => h, fun a => ?_⟩ c1.stp
      have := l1 a
      have := l2 a
      have := l3 a
      simp only [coL, cuL, Nat.zero_add]
      exact ⟨fun q => .inl (by omega), fun q => if z : 0 < t.co a then .inl (by omega) else .inr (.inl (by omega))⟩
  · exact ⟨env, o, e', hm, r, s, w, k⟩
theorem sss_drop (i : Nat) (h : SSs X P rest mS) : SSs X P rest (fun env => mS (env.set i none)) := sss_weakE h fun K De σ H ⟨env, o, e', hm, r, s, w, k⟩ => by
  have l1 : ∀ a, coE a (env.set i none) ≤ coE a env := fun a => none_co
  have l2 : ∀ a, cuE a (env.set i none) ≤ cuE a env := fun a => none_cu
  refine ⟨env.set i none, o, e', by rw [erE_set]; exact hm, r.drop, s.set (fun u hu => by cases hu), fun a => ?_, fun F σ' env' H' e1 c1 p1 => ?_⟩
  · have := w a
    have := l1 a
    have := l2 a
    simp only [coL, cuL, Nat.zero_add] at *
    omega
  · refine k F σ' env' H' e1 ⟨c1.rel, c1.satF, c1.satE, c1.wf, ?_⟩ p1
    refine Stp.trans (H1 := H) (c1 := fun a => coL a [] + coE a (env.set i none)) (u1 := fun a => cuL a [] + cuE a (env.set i none)) ⟨fun a o h _ => h, fun a h => h, fun a => ?_⟩ c1.stp
    have := l1 a
    have := l2 a
    simp only [coL, cuL, Nat.zero_add]
    exact ⟨fun q => .inl (by omega), fun q => .inr (.inl (by omega))⟩
end
end Ow

namespace Ow
open PySem L2

/-! ### a def by its body -/
@[simp] def initD (n : Nat) (ds : List D) : Env := ds.map some ++ List.replicate (n - ds.length) none
@[simp] def runP (n : Nat) (mS : SM) : FM := fun ds => (mS (initD n ds)).bind fun x => match x.1 with
  | .rt d => some d
  | .nx => some (.s .non)
  | _ => none
theorem start_eq {N : List Str} {vs : List V} (h : vs.length ≤ N.length) : L2.start N vs = vs.map some ++ List.replicate (N.length - vs.length) none := by
  unfold L2.start
  rfl
section
variable {K : PySem.W.Frag} {H H' : Hp} {a : Addr}
def initT (n : Nat) (ts : List T) : TEnv := ts.map some ++ List.replicate (n - ts.length) none
theorem init_er (n : Nat) (ts : List T) : erE (initT n ts) = initD n (erL ts) := by
  rw [erE, initT, initD, List.map_append, List.map_replicate, erL_length, erL_map, List.map_map, List.map_map]
  rfl
theorem init_co (n : Nat) (ts : List T) : coE a (initT n ts) = coL a ts := by
  rw [initT]
  induction ts with
  | nil =>
    rw [List.map_nil, List.nil_append, coL]
    generalize n - ([] : List T).length = k
    induction k with
    | zero => rfl
    | succ k ih => rw [List.replicate_succ, coE, ih]; rfl
  | cons t ts ih =>
    have : ∀ k, coE a (ts.map some ++ List.replicate k none) = coL a ts := fun k => by
      clear ih
      induction ts with
      | nil =>
        rw [List.map_nil, List.nil_append, coL]
        induction k with
        | zero => rfl
        | succ k ih => rw [List.replicate_succ, coE, ih]; rfl
      | cons u us ih2 => rw [List.map_cons, List.cons_append, coE, coL, ih2]; rfl
    rw [List.map_cons, List.cons_append, coE, coL, this]; rfl
theorem init_cu (n : Nat) (ts : List T) : cuE a (initT n ts) = cuL a ts := by
  have : ∀ k, cuE a (ts.map some ++ List.replicate k none) = cuL a ts := fun k => by
    induction ts with
    | nil =>
      rw [List.map_nil, List.nil_append, cuL]
      induction k with
      | zero => rfl
      | succ k ih => rw [List.replicate_succ, cuE, ih]; rfl
    | cons u us ih2 => rw [List.map_cons, List.cons_append, cuE, cuL, ih2]; rfl
  rw [initT, this]
theorem init_sat {n : Nat} {ts : List T} (h : satL K H ts) : SatE K H (initT n ts) := fun t ht => by
  rcases List.mem_append.mp ht with q | q
  · obtain ⟨u, hu, e⟩ := List.mem_map.mp q
    cases e
    exact satL_iff.mp h _ hu
  · exact absurd (List.eq_of_mem_replicate q) (by simp)
theorem init_rel {N : List Str} {ts : List T} (h : ts.length ≤ N.length) : Rel (L2.start N (vals ts)) (initT N.length ts) := by
  rw [start_eq (by rw [List.length_map]; exact h), initT]
  refine ⟨by simp, fun i t ht => ?_⟩
  by_cases q : i < ts.length
  · rw [List.getElem?_append_left (by rw [List.length_map]; exact q), List.getElem?_map] at ht
    rw [List.getElem?_append_left (by rw [List.length_map, List.length_map]; exact q), List.getElem?_map, List.getElem?_map]
    obtain ⟨u, hu, e⟩ := map_some ht
    cases e
    rw [hu]; rfl
  · rw [List.getElem?_append_right (by rw [List.length_map]; omega)] at ht
    exact absurd (List.eq_of_mem_replicate (List.mem_of_getElem? ht)) (by simp)
end
section
variable {P : Program} {w : World} {K : PySem.W.Frag} {mg : Str → Option Value} {base : Heap}
theorem fn_pure {x qual : Str} {st : Stmt} {f : Addr} {fd : FuncData} {N ps : List Str} {k : Nat} {mS : SM} (F : Fun K x qual st f fd) (S : FnScope N ps (defScope st)) (hl : ps.length ≤ N.length)
    (hbody : ∀ (cdv : Value) (A : Around) (outer : List PySem.Env) (s : Shared) (H : Hp) (E : XK), Room k (A.deeper (PyProof.Rows.envOfC qual (defScope st) s.heap.objs.size f cdv)) → SSs (cxOf CX0 P w K mg base N qual (defScope st) f cdv A outer s H E).nox [] (defBody st) mS) :
    FnOk P w K mg base CX0 (k + 1) f fd ps (spP K ps.length (runP N.length mS)) := by
  refine F.ok S (fun vs H Q E ⟨ts, d, e1, e2, _⟩ => by rw [e1, List.length_map, e2]) fun cdv A outer s H vs Q E hr ⟨ts, d, e1, e2, s1, hf, kk⟩ => ⟨_, hbody cdv A outer s H E hr, ?_⟩
  subst e1
  obtain ⟨x, hx, hm⟩ := bind_some hf
  rw [← frzL_er] at hx
  have hv : vals ts = vals (frzL ts) := (frzL_vals ts).symm
  have hlen : (frzL ts).length = ts.length := by
    have := congrArg List.length hv
    simpa using this.symm
  rw [hv]
  have nc : ∀ a, coE a (initT N.length (frzL ts)) = 0 := fun a => by rw [init_co, frzL_co]
  refine ⟨initT N.length (frzL ts), x.1, x.2, by rw [init_er]; exact hx, init_rel (by rw [hlen, e2]; exact hl), init_sat (frzL_sat ts s1), fun a => ?_, fun F σ' env' H' e3 c _ => ?_⟩
  · simp only [coL, cuL, Nat.zero_add, nc]
    simp
  · have hx2 : Ex H H' := fun a o h => c.stp.1 a o h (by simp only [coL, nc])
    have fin : ∀ t : T, F = [t] → t.er = d → Q t.val H' := fun t hF et => by
      subst hF
      refine kk t H' et hx2 c.satF.1 fun a => ?_
      have w1 := c.wf a
      have s2 := c.stp.2.2 a
      simp only [coL, cuL, Nat.zero_add, Nat.add_zero, nc, init_cu, frzL_cu] at w1 s2
      refine ⟨by omega, fun q => ?_, fun q => ?_⟩
      · rcases s2.1 (by omega) with z | z
        · exact absurd z (Nat.lt_irrefl _)
        · exact z
      · rcases s2.2 (by omega) with z | z | z
        · exact absurd z (Nat.lt_irrefl _)
        · by_cases q2 : 0 < coL a ts
          · exact .inl q2
          · exact .inr (.inl (by omega))
        · exact .inr (.inr z)
    obtain ⟨xo, xe⟩ := x
    cases xo with
    | nx =>
      intro hF
      cases hm
      subst hF
      exact kk (.s .non) H' rfl hx2 trivial fun a => ⟨⟨Nat.zero_le _, .inl rfl⟩, fun q => absurd q (by simp [T.co]), fun q => absurd q (by simp [T.cu])⟩
    | bk => cases hm
    | ct => cases hm
    | rt d' =>
      cases hm
      exact fin
end
end Ow

namespace Ow
open PySem L2

/-! ### defs that change what they are handed -/
/-- the trees of some slots, taken out -/
@[simp] def pickD : List Nat → Env → Option (List D)
  | [], _ => some []
  | i :: is, env => (env[i]?.join).bind fun d => (pickD is (env.set i none)).map (d :: ·)
@[simp] def runM (n : Nat) (mu : List Nat) (mS : SM) : List D → Option (D × List D) := fun ds => (mS (initD n ds)).bind fun x => match x.1 with
  | .rt d => (pickD mu x.2).map fun os => (d, os)
  | .nx => (pickD mu x.2).map fun os => (.s .non, os)
  | _ => none
abbrev FMu := List D → Option (D × List D)
def spM (K : PySem.W.Frag) (n : Nat) (mu : List Nat) (f : FMu) : Sp := fun vs H Q _ => ∃ ts d os, vs = vals ts ∧ ts.length = n ∧ satL K H ts ∧ Wf (fun a => coL a ts) (fun a => cuL a ts) ∧ f (erL ts) = some (d, os) ∧
  ∀ (t : T) (us : List T) H', t.er = d → erL us = os → (∀ j i : Nat, mu[j]? = some i → ∀ v, vs[i]? = some v → (vals us)[j]? = some v) → t.sat K H' → satL K H' us → Wf (fun a => t.co a + coL a us) (fun a => t.cu a + cuL a us) →
    Stp H (fun a => coL a ts) (fun a => cuL a ts) H' (fun a => t.co a + coL a us) (fun a => t.cu a + cuL a us) → Q t.val H'
section
variable {K : PySem.W.Frag} {H H' : Hp}
theorem pick_run : ∀ {mu : List Nat} {env : TEnv} {os : List D}, SatE K H env → pickD mu (erE env) = some os →
    ∃ us, erL us = os ∧ satL K H us ∧ (∀ a, coL a us ≤ coE a env) ∧ (∀ a, cuL a us ≤ cuE a env) ∧ ∀ j i : Nat, mu[j]? = some i → ∃ t, us[j]? = some t ∧ env[i]? = some (some t)
  | [], env, os, s, h => by
    rw [pickD] at h
    cases h
    exact ⟨[], rfl, trivial, fun a => Nat.zero_le _, fun a => Nat.zero_le _, fun j i hj => by simp at hj⟩
  | i :: is, env, os, s, h => by
    rw [pickD] at h
    obtain ⟨d, h1, h⟩ := bind_some h
    obtain ⟨os', h2, rfl⟩ := map_some h
    obtain ⟨t, e1, e2⟩ := join_get h1
    rw [show (erE env).set i none = erE (env.set i none) from (erE_set (o := none)).symm] at h2
    obtain ⟨us, g1, g2, g3, g4, g5⟩ := pick_run (mu := is) (s.set fun u hu => by cases hu) h2
    refine ⟨t :: us, by rw [erL, e2, g1], ⟨s.get e1, g2⟩, fun a => ?_, fun a => ?_, fun j k hj => ?_⟩
    · have := coE_set (a := a) none e1
      have := g3 a
      simp only [oT] at *
      rw [coL]; omega
    · have := cuE_set (a := a) none e1
      have := g4 a
      simp only [oT] at *
      rw [cuL]; omega
    · cases j with
      | zero =>
        simp at hj
        subst hj
        exact ⟨t, rfl, e1⟩
      | succ j =>
        simp at hj
        obtain ⟨u, hu, hk⟩ := g5 j k hj
        refine ⟨u, by simpa using hu, ?_⟩
        rw [List.getElem?_set] at hk
        split at hk
        · split at hk <;> cases hk
        · exact hk
end
section
variable {P : Program} {w : World} {K : PySem.W.Frag} {mg : Str → Option Value} {base : Heap}
theorem fn_mut {x qual : Str} {st : Stmt} {f : Addr} {fd : FuncData} {N ps : List Str} {k : Nat} {mS : SM} {mu : List Nat} (F : Fun K x qual st f fd) (S : FnScope N ps (defScope st)) (hl : ps.length ≤ N.length) (hmu : ∀ i ∈ mu, i < ps.length)
    (hbody : ∀ (cdv : Value) (A : Around) (outer : List PySem.Env) (s : Shared) (H : Hp) (E : XK), Room k (A.deeper (PyProof.Rows.envOfC qual (defScope st) s.heap.objs.size f cdv)) → SSs (cxOf CX0 P w K mg base N qual (defScope st) f cdv A outer s H E).nox mu (defBody st) mS) :
    FnOk P w K mg base CX0 (k + 1) f fd ps (spM K ps.length mu (runM N.length mu mS)) := by
  refine F.ok S (fun vs H Q E ⟨ts, d, os, e1, e2, _⟩ => by rw [e1, List.length_map, e2]) fun cdv A outer s H vs Q E hr ⟨ts, d, os, e1, e2, s1, wf, hf, kk⟩ => ⟨_, hbody cdv A outer s H E hr, ?_⟩
  subst e1
  obtain ⟨x, hx, hm⟩ := bind_some hf
  have r0 : Rel (L2.start N (vals ts)) (initT N.length ts) := init_rel (by rw [e2]; exact hl)
  refine ⟨initT N.length ts, x.1, x.2, by rw [init_er]; exact hx, r0, init_sat s1, fun a => ?_, fun F σ' env' H' e3 c p => ?_⟩
  · have := wf a
    simp only [coL, cuL, Nat.zero_add, init_co, init_cu] at this ⊢
    exact this
  · have fin : ∀ (t : T) (F' : List T) (os' : List D), (∀ a, t.co a + coE a env' ≤ coL a F + coE a env') → (∀ a, t.cu a + cuE a env' ≤ cuL a F + cuE a env') → t.sat K H' → t.er = d → pickD mu x.2 = some os' → os' = os → Q t.val H' := fun t F' os' n1 n2 st et ho eo => by
      subst eo
      rw [← e3] at ho
      obtain ⟨us, g1, g2, g3, g4, g5⟩ := pick_run c.satE ho
      have c2 := c.less (F' := t :: us) (env' := []) (σ' := []) ⟨rfl, fun i t h => by simp at h⟩ ⟨st, g2⟩ (fun u hu => by cases hu) (fun a => by have := n1 a; have := g3 a; simp only [coL, coE]; omega) (fun a => by have := n2 a; have := g4 a; simp only [cuL, cuE]; omega)
      refine kk t us H' et g1 (fun j i hj v hv => ?_) st g2 (fun a => ?_) ?_
      · obtain ⟨u, hu, hi⟩ := g5 j i hj
        have q := c.rel.2 i u hi
        rw [p i (List.mem_of_getElem? hj)] at q
        have hi2 := hmu i (List.mem_of_getElem? hj)
        rw [vals, List.getElem?_map] at hv
        obtain ⟨tv, htv, rfl⟩ := map_some hv
        have q0 := r0.2 i tv (by rw [initT, List.getElem?_append_left (by rw [List.length_map, e2]; exact hi2), List.getElem?_map, htv]; rfl)
        rw [q0] at q
        have q1 : tv.val = u.val := Option.some.inj (Option.some.inj q)
        rw [vals, List.getElem?_map, hu, q1]; rfl
      · have := c2.wf a
        simp only [coL, cuL, coE, cuE, Nat.add_zero] at this
        exact this
      · have := c2.stp
        simp only [StpF, coL, cuL, coE, cuE, Nat.add_zero, Nat.zero_add, init_co, init_cu] at this
        exact this
    obtain ⟨xo, xe⟩ := x
    cases xo with
    | nx =>
      intro hF
      obtain ⟨os', ho, e4⟩ := map_some hm
      cases e4
      exact fin (.s .non) [] os (fun a => by simp [T.co]) (fun a => by simp [T.cu]) trivial rfl ho rfl
    | bk => cases hm
    | ct => cases hm
    | rt d' =>
      intro t hF et
      obtain ⟨os', ho, e4⟩ := map_some hm
      cases e4
      subst hF
      exact fin t [] os (fun a => by simp only [coL]; omega) (fun a => by simp only [cuL]; omega) c.satF.1 et ho rfl
end

/-! ### their calls -/
inductive As where
  | ev (m : EM)
  | tm (m : EM)
  | bor (i : Nat)
  | mv (i : Nat)
@[simp] def evA : List As → Env → Option (List D × Env)
  | [], env => some ([], env)
  | .ev m :: r, env => (m env).bind fun x => (evA r x.2).map fun y => (x.1 :: y.1, y.2)
  | .tm m :: r, env => (m env).bind fun x => (evA r x.2).map fun y => (x.1 :: y.1, y.2)
  | .bor _ :: r, env => evA r env
  | .mv _ :: r, env => evA r env
@[simp] def insA : List As → List D → Env → Option (List D × Env)
  | [], _, env => some ([], env)
  | .ev _ :: r, d :: ds, env => (insA r ds env).map fun y => (d.frz :: y.1, y.2)
  | .ev _ :: _, [], _ => none
  | .tm _ :: r, d :: ds, env => (insA r ds env).map fun y => (d :: y.1, y.2)
  | .tm _ :: _, [], _ => none
  | .bor i :: r, ds, env => (env[i]?.join).bind fun d => (insA r ds env).map fun y => (d.frz :: y.1, y.2)
  | .mv i :: r, ds, env => (env[i]?.join).bind fun d => (insA r ds (env.set i none)).map fun y => (d :: y.1, y.2)
@[simp] def putA : List As → List D → Env → Option Env
  | [], [], env => some env
  | .mv i :: r, o :: os, env => putA r os (env.set i (some o))
  | .tm _ :: r, _ :: os, env => putA r os env
  | .ev _ :: r, os, env => putA r os env
  | .bor _ :: r, os, env => putA r os env
  | _, _, _ => none
/-- the slots handed on, those lent -/
@[simp] def muS : List As → List Nat
  | [] => []
  | .mv i :: r => i :: muS r
  | .ev _ :: r => muS r
  | .tm _ :: r => muS r
  | .bor _ :: r => muS r
@[simp] def boS : List As → List Nat
  | [] => []
  | .bor i :: r => i :: boS r
  | .ev _ :: r => boS r
  | .tm _ :: r => boS r
  | .mv _ :: r => boS r
/-- the places of those handed on, among the arguments -/
def muP : Nat → List As → List Nat
  | _, [] => []
  | n, .mv _ :: r => n :: muP (n + 1) r
  | n, .ev _ :: r => muP (n + 1) r
  | n, .tm _ :: r => n :: muP (n + 1) r
  | n, .bor _ :: r => muP (n + 1) r
@[simp] def eCallM (f : FMu) (as : List As) : EM := fun env => if ((muS as ++ boS as).all fun i => (env[i]?.join).isSome) = false then none else (evA as env).bind fun x => (insA as x.1 x.2).bind fun y => (f y.1).bind fun z => if (z.1.noF && noFL z.2) = true then (putA as z.2 y.2).map fun e => (z.1, e) else none
def ArgV (σ : L2.St) : List As → List T → List V → Prop
  | [], F, vs => F = [] ∧ vs = []
  | .ev _ :: r, t :: F, vs => ∃ vs', vs = t.val :: vs' ∧ ArgV σ r F vs'
  | .ev _ :: _, [], _ => False
  | .tm _ :: r, t :: F, vs => ∃ vs', vs = t.val :: vs' ∧ ArgV σ r F vs'
  | .tm _ :: _, [], _ => False
  | .bor i :: r, F, vs => ∃ v vs', vs = v :: vs' ∧ σ[i]? = some (some v) ∧ ArgV σ r F vs'
  | .mv i :: r, F, vs => ∃ v vs', vs = v :: vs' ∧ σ[i]? = some (some v) ∧ ArgV σ r F vs'
def trEA (K : PySem.W.Frag) (U : List Nat) (as : List As) : TA := fun σ H Q => ∃ env ds e', evA as (erE env) = some (ds, e') ∧ Rel σ env ∧ SatE K H env ∧ WfF [] env ∧ (∀ i ∈ muS as ++ boS as, ∃ v, σ[i]? = some (some v)) ∧
  ∀ F env' H' vs, erL F = ds → erE env' = e' → Cf K H env σ H' F env' → (∀ i ∈ U, env'[i]? = env[i]?) → ArgV σ as F vs → Q vs H'
def SEA (X : Cx) (U : List Nat) (es : List Expr) (as : List As) : Prop := PA X es (trEA X.K U as)
section
variable {X : Cx} {e : Expr} {es : List Expr} {pos p : Pos} {U : List Nat} {as : List As}
theorem sea_nil : SEA X U [] [] := PA.weak pa_nil fun σ H Q ⟨env, ds, e', hm, r, s, w, hv, k⟩ => by
  cases hm
  exact k [] env H [] rfl rfl (Cf.start r s w) (fun _ _ => rfl) ⟨rfl, rfl⟩
theorem sea_ev {m : EM} (h : SE X U e m) (hr : SEA X U es as) (hs : starEach (e :: es) X.env = (false, eval e X.env) :: starEach es X.env := by rfl) : SEA X U (e :: es) (.ev m :: as) := PA.weak (pa_cons h hr hs) fun σ H Q ⟨env, ds, e', hm, r, s, w, hv, k⟩ => by
  rw [evA] at hm
  obtain ⟨x, hx, hm⟩ := bind_some hm
  obtain ⟨y, hy, e1⟩ := map_some hm
  cases e1
  refine goE (d := x.1) (e' := x.2) (Cf.start r s w) hx fun t env1 H1 e1 e2 c1 u1 => ?_
  refine ⟨env1, y.1, y.2, by rw [e2]; exact hy, c1.rel, c1.satE, c1.base, hv, fun F env2 H2 vs e3 e4 c2 u2 av => ?_⟩
  have c3 := c1.step c2
  have c4 : Cf X.K H env σ H2 (t :: F) env2 := c3.less c3.rel ⟨(satL_append.mp c3.satF).2.1, (satL_append.mp c3.satF).1⟩ c3.satE (fun a => by simp only [coL_append, coL]; omega) (fun a => by simp only [cuL_append, cuL]; omega)
  exact k (t :: F) env2 H2 (t.val :: vs) (by rw [erL, e1, e3]) e4 c4 (fun i hi => (u2 i hi).trans (u1 i hi)) ⟨vs, rfl, av⟩
theorem sea_tm {m : EM} (h : SE X U e m) (hr : SEA X U es as) (hs : starEach (e :: es) X.env = (false, eval e X.env) :: starEach es X.env := by rfl) : SEA X U (e :: es) (.tm m :: as) := PA.weak (pa_cons h hr hs) fun σ H Q ⟨env, ds, e', hm, r, s, w, hv, k⟩ => by
  rw [evA] at hm
  obtain ⟨x, hx, hm⟩ := bind_some hm
  obtain ⟨y, hy, e1⟩ := map_some hm
  cases e1
  refine goE (d := x.1) (e' := x.2) (Cf.start r s w) hx fun t env1 H1 e1 e2 c1 u1 => ?_
  refine ⟨env1, y.1, y.2, by rw [e2]; exact hy, c1.rel, c1.satE, c1.base, hv, fun F env2 H2 vs e3 e4 c2 u2 av => ?_⟩
  have c3 := c1.step c2
  have c4 : Cf X.K H env σ H2 (t :: F) env2 := c3.less c3.rel ⟨(satL_append.mp c3.satF).2.1, (satL_append.mp c3.satF).1⟩ c3.satE (fun a => by simp only [coL_append, coL]; omega) (fun a => by simp only [cuL_append, cuL]; omega)
  exact k (t :: F) env2 H2 (t.val :: vs) (by rw [erL, e1, e3]) e4 c4 (fun i hi => (u2 i hi).trans (u1 i hi)) ⟨vs, rfl, av⟩
theorem sea_nm {x : Str} {i : Nat} {mk : Nat → As} (hmk : mk = .bor ∨ mk = .mv) (hr : SEA X U es as) (hN : X.N[i]? = some x := by rfl) (hv : Vis X.env.scope x := by first | exact .inl rfl | exact .inr (.inl rfl) | exact .inr (.inr rfl))
    (hd : (x == ("__debug__" : Str)) = false := by decide) (hcd : (x == ("__classdict__" : Str)) = false := by decide) (hs : starEach (.Name x p :: es) X.env = (false, eval (.Name x p) X.env) :: starEach es X.env := by rfl) : SEA X U (.Name x p :: es) (mk i :: as) :=
  PA.weak (pa_cons (pe_var (i := i) hN hv hd hcd) hr hs) fun σ H Q ⟨env, ds, e', hm, r, s, w, hv, k⟩ => by
    have hm2 : evA as (erE env) = some (ds, e') := by
      rcases hmk with q | q <;> (subst q; rw [evA] at hm; exact hm)
    have hin : i ∈ muS (mk i :: as) ++ boS (mk i :: as) := by
      rcases hmk with q | q <;> (subst q; simp [muS, boS])
    obtain ⟨v, hvi⟩ := hv i hin
    refine ⟨v, hvi, env, ds, e', hm2, r, s, w, fun j hj => hv j ?_, fun F env' H' vs e1 e2 c u av => k F env' H' (v :: vs) e1 e2 c u ?_⟩
    · rcases hmk with q | q <;> (subst q; simp [muS, boS] at hj ⊢; rcases hj with h | h <;> simp [h])
    · rcases hmk with q | q <;> (subst q; exact ⟨v, vs, rfl, hvi, av⟩)
theorem sea_bor {x : Str} (i : Nat) (hr : SEA X U es as) (hN : X.N[i]? = some x := by rfl) (hv : Vis X.env.scope x := by first | exact .inl rfl | exact .inr (.inl rfl) | exact .inr (.inr rfl))
    (hd : (x == ("__debug__" : Str)) = false := by decide) (hcd : (x == ("__classdict__" : Str)) = false := by decide) (hs : starEach (.Name x p :: es) X.env = (false, eval (.Name x p) X.env) :: starEach es X.env := by rfl) : SEA X U (.Name x p :: es) (.bor i :: as) := sea_nm (.inl rfl) hr hN hv hd hcd hs
theorem sea_mut {x : Str} (i : Nat) (hr : SEA X U es as) (hN : X.N[i]? = some x := by rfl) (hv : Vis X.env.scope x := by first | exact .inl rfl | exact .inr (.inl rfl) | exact .inr (.inr rfl))
    (hd : (x == ("__debug__" : Str)) = false := by decide) (hcd : (x == ("__classdict__" : Str)) = false := by decide) (hs : starEach (.Name x p :: es) X.env = (false, eval (.Name x p) X.env) :: starEach es X.env := by rfl) : SEA X U (.Name x p :: es) (.mv i :: as) := sea_nm (.inr rfl) hr hN hv hd hcd hs
end
/-- what is handed in, by trees: ins the arguments, env' what is left -/
structure Ins (K : PySem.W.Frag) (σ : L2.St) (H : Hp) (as : List As) (vs : List V) (F : List T) (env : TEnv) (ins : List T) (envR : TEnv) (is : List D) (eR : Env) (evc : Addr → Nat) : Prop where
  er : erL ins = is
  erR : erE envR = eR
  rel : Rel σ envR
  vl : vals ins = vs
  sat : satL K H ins
  satR : SatE K H envR
  co : ∀ a, coL a ins + coE a envR + evc a = coE a env + coL a F
  cuR : ∀ a, cuE a envR ≤ cuE a env
  cu : ∀ a, 0 < cuL a ins → 0 < evc a ∨ 0 < cuL a F ∨ 0 < cuE a env ∨ ∃ j ∈ boS as, ∃ t : T, env[j]? = some (some t) ∧ 0 < t.co a
  out : ∀ i, i ∉ muS as → envR[i]? = env[i]?
  len : envR.length = env.length
section
variable {K : PySem.W.Frag} {H : Hp} {σ : L2.St}
theorem ins_run : ∀ {as : List As} {vs : List V} {F : List T} {env : TEnv} {is : List D} {eR : Env}, Rel σ env → satL K H F → SatE K H env → ArgV σ as F vs → insA as (erL F) (erE env) = some (is, eR) → ∃ ins envR evc, Ins K σ H as vs F env ins envR is eR evc
  | [], vs, F, env, is, eR, r, sF, s, av, h => by
    obtain ⟨rfl, rfl⟩ := av
    rw [insA] at h
    cases h
    exact ⟨[], env, fun _ => 0, rfl, rfl, r, rfl, trivial, s, fun a => by rw [coL]; omega, fun a => Nat.le_refl _, fun a h => absurd h (by rw [cuL]; omega), fun _ _ => rfl, rfl⟩
  | .ev m :: as, vs, [], env, is, eR, r, sF, s, av, h => by cases av
  | .tm m :: as, vs, [], env, is, eR, r, sF, s, av, h => by cases av
  | .ev m :: as, vs, t :: F, env, is, eR, r, sF, s, av, h => by
    obtain ⟨vs', rfl, av⟩ := av
    rw [erL, insA] at h
    obtain ⟨y, hy, e1⟩ := map_some h
    cases e1
    obtain ⟨ins, envR, evc, I⟩ := ins_run r sF.2 s av hy
    refine ⟨t.frz :: ins, envR, fun a => t.co a + evc a, by rw [erL, frz_er, I.er], I.erR, I.rel, by rw [vals, List.map_cons, frz_val]; exact congrArg _ I.vl, ⟨frz_sat t sF.1, I.sat⟩, I.satR, fun a => by have := I.co a; rw [coL, frz_co, coL]; omega, I.cuR, fun a h => ?_, I.out, I.len⟩
    rw [cuL, frz_cu] at h
    rw [cuL]
    by_cases q : 0 < cuL a ins
    · rcases I.cu a q with z | z | z | z
      · exact .inl (by omega)
      · exact .inr (.inl (by omega))
      · exact .inr (.inr (.inl z))
      · exact .inr (.inr (.inr z))
    · by_cases q2 : 0 < t.co a
      · exact .inl (by omega)
      · exact .inr (.inl (by omega))
  | .tm m :: as, vs, t :: F, env, is, eR, r, sF, s, av, h => by
    obtain ⟨vs', rfl, av⟩ := av
    rw [erL, insA] at h
    obtain ⟨y, hy, e1⟩ := map_some h
    cases e1
    obtain ⟨ins, envR, evc, I⟩ := ins_run r sF.2 s av hy
    refine ⟨t :: ins, envR, evc, by rw [erL, I.er], I.erR, I.rel, by rw [vals, List.map_cons]; exact congrArg _ I.vl, ⟨sF.1, I.sat⟩, I.satR, fun a => by have := I.co a; rw [coL, coL]; omega, I.cuR, fun a h => ?_, I.out, I.len⟩
    rw [cuL] at h
    rw [cuL]
    by_cases q : 0 < cuL a ins
    · rcases I.cu a q with z | z | z | z
      · exact .inl z
      · exact .inr (.inl (by omega))
      · exact .inr (.inr (.inl z))
      · exact .inr (.inr (.inr z))
    · exact .inr (.inl (by omega))
  | .bor i :: as, vs, F, env, is, eR, r, sF, s, av, h => by
    obtain ⟨v, vs', rfl, hv, av⟩ := av
    rw [insA] at h
    obtain ⟨d, hd, h⟩ := bind_some h
    obtain ⟨y, hy, e1⟩ := map_some h
    cases e1
    obtain ⟨t, h1, rfl⟩ := join_get hd
    obtain ⟨ins, envR, evc, I⟩ := ins_run r sF s av hy
    have hval : t.val = v := by
      have := r.2 i t h1
      rw [hv] at this
      exact (Option.some.inj (Option.some.inj this)).symm
    refine ⟨t.frz :: ins, envR, evc, by rw [erL, frz_er, I.er], I.erR, I.rel, by rw [vals, List.map_cons, frz_val, hval]; exact congrArg _ I.vl, ⟨frz_sat t (s.get h1), I.sat⟩, I.satR, fun a => by have := I.co a; rw [coL, frz_co]; omega, I.cuR, fun a h => ?_, I.out, I.len⟩
    rw [cuL, frz_cu] at h
    by_cases q : 0 < cuL a ins
    · rcases I.cu a q with z | z | z | ⟨j, hj, z⟩
      · exact .inl z
      · exact .inr (.inl z)
      · exact .inr (.inr (.inl z))
      · exact .inr (.inr (.inr ⟨j, by rw [boS]; exact List.mem_cons_of_mem _ hj, z⟩))
    · by_cases q2 : 0 < t.co a
      · exact .inr (.inr (.inr ⟨i, by rw [boS]; exact List.mem_cons_self .., t, h1, q2⟩))
      · have := cuE_get (a := a) h1
        exact .inr (.inr (.inl (by omega)))
  | .mv i :: as, vs, F, env, is, eR, r, sF, s, av, h => by
    obtain ⟨v, vs', rfl, hv, av⟩ := av
    rw [insA] at h
    obtain ⟨d, hd, h⟩ := bind_some h
    obtain ⟨y, hy, e1⟩ := map_some h
    cases e1
    obtain ⟨t, h1, rfl⟩ := join_get hd
    rw [show (erE env).set i none = erE (env.set i none) from (erE_set (o := none)).symm] at hy
    obtain ⟨ins, envR, evc, I⟩ := ins_run r.drop sF (s.set fun u hu => by cases hu) av hy
    have hval : t.val = v := by
      have := r.2 i t h1
      rw [hv] at this
      exact (Option.some.inj (Option.some.inj this)).symm
    have l1 : ∀ a, coE a (env.set i none) + t.co a = coE a env := fun a => by
      have := coE_set (a := a) none h1
      simp only [oT] at this; omega
    have l2 : ∀ a, cuE a (env.set i none) + t.cu a = cuE a env := fun a => by
      have := cuE_set (a := a) none h1
      simp only [oT] at this; omega
    refine ⟨t :: ins, envR, evc, by rw [erL, I.er], I.erR, I.rel, by rw [vals, List.map_cons, hval]; exact congrArg _ I.vl, ⟨s.get h1, I.sat⟩, I.satR, fun a => ?_, fun a => ?_, fun a h => ?_, fun j hj => ?_, I.len.trans List.length_set⟩
    · have := I.co a
      have := l1 a
      rw [coL]; omega
    · have := I.cuR a
      have := l2 a
      omega
    · rw [cuL] at h
      have := l2 a
      by_cases q : 0 < cuL a ins
      · rcases I.cu a q with z | z | z | ⟨j, hj, u, hu, z⟩
        · exact .inl z
        · exact .inr (.inl z)
        · exact .inr (.inr (.inl (by omega)))
        · refine .inr (.inr (.inr ⟨j, by rw [boS]; exact hj, u, ?_, z⟩))
          rw [List.getElem?_set] at hu
          split at hu
          · split at hu <;> cases hu
          · exact hu
      · exact .inr (.inr (.inl (by omega)))
    · rw [muS] at hj
      rw [I.out j fun z => hj (List.mem_cons_of_mem _ z), List.getElem?_set, if_neg (fun z => hj (by rw [z]; exact List.mem_cons_self ..))]
/-- the slots handed on, filled again -/
def muO : List As → List (Option Nat)
  | [] => []
  | .mv i :: r => some i :: muO r
  | .tm _ :: r => none :: muO r
  | .ev _ :: r => muO r
  | .bor _ :: r => muO r
theorem put_run : ∀ (as : List As) {us : List T} {env : TEnv} {e2 : Env}, Rel σ env → SatE K H env → satL K H us → putA as (erL us) (erE env) = some e2 → (∀ (j i : Nat), (muO as)[j]? = some (some i) → ∀ t, us[j]? = some t → σ[i]? = some (some t.val)) →
    ∃ env2, erE env2 = e2 ∧ Rel σ env2 ∧ SatE K H env2 ∧ (∀ a, coE a env2 ≤ coL a us + coE a env) ∧ (∀ a, cuE a env2 ≤ cuL a us + cuE a env) ∧ ∀ i, i ∉ muS as → env2[i]? = env[i]?
  | [], [], env, e2, r, s, su, h, hv => by
    rw [erL, putA] at h
    cases h
    exact ⟨env, rfl, r, s, fun a => by rw [coL]; omega, fun a => by rw [cuL]; omega, fun _ _ => rfl⟩
  | [], u :: us, env, e2, r, s, su, h, hv => by simp [erL, putA] at h
  | .ev m :: as, us, env, e2, r, s, su, h, hv => by
    have h' : putA as (erL us) (erE env) = some e2 := by
      cases us <;> simpa [putA] using h
    exact put_run as r s su h' hv
  | .bor i :: as, us, env, e2, r, s, su, h, hv => by
    have h' : putA as (erL us) (erE env) = some e2 := by
      cases us <;> simpa [putA] using h
    exact put_run as r s su h' hv
  | .tm m :: as, [], env, e2, r, s, su, h, hv => by simp [erL, putA] at h
  | .tm m :: as, u :: us, env, e2, r, s, su, h, hv => by
    rw [erL, putA] at h
    obtain ⟨env2, g1, g2, g3, g4, g5, g6⟩ := put_run as r s su.2 h fun j k hj t ht => hv (j + 1) k (by rw [muO]; simpa using hj) t (by simpa using ht)
    exact ⟨env2, g1, g2, g3, fun a => by have := g4 a; rw [coL]; omega, fun a => by have := g5 a; rw [cuL]; omega, fun j hj => g6 j (by rw [muS] at hj; exact hj)⟩
  | .mv i :: as, [], env, e2, r, s, su, h, hv => by simp [erL, putA] at h
  | .mv i :: as, u :: us, env, e2, r, s, su, h, hv => by
    rw [erL, putA, show (erE env).set i (some u.er) = erE (env.set i (some u)) from (erE_set (o := some u)).symm] at h
    have hu : σ[i]? = some (some u.val) := hv 0 i rfl u rfl
    have r1 : Rel σ (env.set i (some u)) := by
      refine ⟨by rw [List.length_set, r.1], fun j x g => ?_⟩
      rw [List.getElem?_set] at g
      by_cases q : i = j
      · subst q
        rw [if_pos rfl] at g
        split at g
        · cases g; exact hu
        · cases g
      · rw [if_neg q] at g
        exact r.2 j x g
    obtain ⟨env2, g1, g2, g3, g4, g5, g6⟩ := put_run as r1 (s.set fun x hx => by cases hx; exact su.1) su.2 h fun j k hj t ht => hv (j + 1) k (by rw [muO]; simpa using hj) t (by simpa using ht)
    refine ⟨env2, g1, g2, g3, fun a => ?_, fun a => ?_, fun j hj => ?_⟩
    · have := g4 a
      have := set_co (env := env) (j := i) (t := u) (a := a)
      rw [coL]; omega
    · have := g5 a
      have := set_cu (env := env) (j := i) (t := u) (a := a)
      rw [cuL]; omega
    · rw [muS] at hj
      rw [g6 j fun z => hj (List.mem_cons_of_mem _ z), List.getElem?_set, if_neg (fun z => hj (by rw [z]; exact List.mem_cons_self ..))]
  termination_by as => as.length
theorem argv_mu : ∀ {as : List As} {F : List T} {vs : List V} {n j i : Nat}, ArgV σ as F vs → (muO as)[j]? = some (some i) → ∃ q v, (muP n as)[j]? = some (n + q) ∧ vs[q]? = some v ∧ σ[i]? = some (some v)
  | [], F, vs, n, j, i, av, h => by simp [muO] at h
  | .ev m :: as, [], vs, n, j, i, av, h => by cases av
  | .tm m :: as, [], vs, n, j, i, av, h => by cases av
  | .ev m :: as, t :: F, vs, n, j, i, av, h => by
    obtain ⟨vs', rfl, av⟩ := av
    rw [muO] at h
    obtain ⟨q, v, h1, h2, h3⟩ := argv_mu (n := n + 1) av h
    exact ⟨q + 1, v, by rw [muP, h1]; congr 1; omega, by simpa using h2, h3⟩
  | .bor k :: as, F, vs, n, j, i, av, h => by
    obtain ⟨v', vs', rfl, hv, av⟩ := av
    rw [muO] at h
    obtain ⟨q, v, h1, h2, h3⟩ := argv_mu (n := n + 1) av h
    exact ⟨q + 1, v, by rw [muP, h1]; congr 1; omega, by simpa using h2, h3⟩
  | .tm m :: as, t :: F, vs, n, j, i, av, h => by
    obtain ⟨vs', rfl, av⟩ := av
    rw [muO] at h
    cases j with
    | zero => simp at h
    | succ j =>
      obtain ⟨q, v, h1, h2, h3⟩ := argv_mu (n := n + 1) av (by simpa using h)
      refine ⟨q + 1, v, ?_, by simpa using h2, h3⟩
      rw [muP, List.getElem?_cons_succ, h1]
      congr 1
      omega
  | .mv k :: as, F, vs, n, j, i, av, h => by
    obtain ⟨v', vs', rfl, hv, av⟩ := av
    rw [muO] at h
    cases j with
    | zero =>
      simp at h
      subst h
      exact ⟨0, v', by rw [muP]; rfl, rfl, hv⟩
    | succ j =>
      obtain ⟨q, v, h1, h2, h3⟩ := argv_mu (n := n + 1) av (by simpa using h)
      refine ⟨q + 1, v, ?_, by simpa using h2, h3⟩
      rw [muP, List.getElem?_cons_succ, h1]
      congr 1
      omega
end
section
variable {X : Cx} {e : Expr} {es : List Expr} {pos p : Pos} {U : List Nat} {as : List As}
theorem se_callM {k n : Nat} {x : Str} {f : Addr} {fd : FuncData} {ps : List Str} {fm : FMu} {mu : List Nat} {CX : CXT} {E : XK} (F : FnOk X.prog X.w X.K X.mg X.base CX k f fd ps (spM X.K n mu fm)) (hr : Room k X.A) (hm : X.mg x = some (.ref f)) (hk : PySem.W.keepIn X.K (.ref f) = true)
    (hb : Binds X.K fd ps []) (hx : Passes CX X E) (hmu : mu = muP 0 as) (hln : as.length = n) (hdis : ∀ i ∈ muS as, i ∉ boS as ∧ i ∉ U) (ha : SEA X U (e :: es) as) (hg : Gl X x := by rfl) (hdb : (x == ("__debug__" : Str)) = false := by decide) (he : starEach (e :: es) X.env = (false, eval e X.env) :: starEach es X.env := by rfl) (hpl : (backTo pos (starEach es X.env)).any (·.1) = false := by rfl) :
    SE X U (.Call (.Name x p) (e :: es) [] pos) (eCallM fm as) := PE.weak (pe_call F hr hg hm hk hb .nil hx ha hdb he hpl) fun σ H Q ⟨env, d, e', hm, r, s, w, k⟩ => by
  unfold eCallM at hm
  split at hm
  case isTrue => cases hm
  rename_i hall
  rw [Bool.not_eq_false, List.all_eq_true] at hall
  obtain ⟨x1, h1, hm⟩ := bind_some hm
  obtain ⟨y, h2, hm⟩ := bind_some hm
  obtain ⟨z, h3, hm⟩ := bind_some hm
  split at hm
  case isFalse => cases hm
  rename_i hno
  rw [Bool.and_eq_true] at hno
  obtain ⟨e2, h4, e5⟩ := map_some hm
  cases e5
  refine ⟨env, x1.1, x1.2, h1, r, s, w, fun i hi => ?_, fun F env1 H1 vs e1 e2' c1 u1 av => ?_⟩
  · have := hall i hi
    rw [Option.isSome_iff_exists] at this
    obtain ⟨d, hd⟩ := this
    obtain ⟨t, ht, _⟩ := join_get hd
    exact ⟨t.val, r.2 i t ht⟩
  rw [← e1, ← e2'] at h2
  obtain ⟨ins, envR, evc, I⟩ := ins_run c1.rel c1.satF c1.satE av h2
  have bo : ∀ a, (∃ j ∈ boS as, ∃ t : T, env1[j]? = some (some t) ∧ 0 < t.co a) → 0 < coE a envR := fun a ⟨j, hj, t, ht, hc⟩ => by
    have hn : j ∉ muS as := fun q => (hdis j q).1 hj
    rw [← I.out j hn] at ht
    exact Nat.lt_of_lt_of_le hc (coE_get ht)
  have cuI : ∀ a, 0 < cuL a ins → 0 < evc a + cuL a F ∨ 0 < cuE a env1 ∨ 0 < coE a envR := fun a h => by
    rcases I.cu a h with q | q | q | q
    · exact .inl (by omega)
    · exact .inl (by omega)
    · exact .inr (.inl q)
    · exact .inr (.inr (bo a q))
  have hlen : vs.length = as.length := by
    have : ∀ {as : List As} {F : List T} {vs : List V}, ArgV σ as F vs → vs.length = as.length := by
      intro as
      induction as with
      | nil => intro F vs av; rw [av.2]; rfl
      | cons x as ih =>
        intro F vs av
        cases x with
        | ev m =>
          cases F with
          | nil => cases av
          | cons t F => obtain ⟨vs', rfl, av⟩ := av; rw [List.length_cons, List.length_cons, ih av]
        | tm m =>
          cases F with
          | nil => cases av
          | cons t F => obtain ⟨vs', rfl, av⟩ := av; rw [List.length_cons, List.length_cons, ih av]
        | bor i => obtain ⟨v, vs', rfl, _, av⟩ := av; rw [List.length_cons, List.length_cons, ih av]
        | mv i => obtain ⟨v, vs', rfl, _, av⟩ := av; rw [List.length_cons, List.length_cons, ih av]
    exact this av
  refine ⟨ins, z.1, z.2, by rw [List.append_nil, I.vl], by rw [← hln, ← hlen, ← I.vl, List.length_map], I.sat, fun a => ?_, by rw [I.er]; exact h3, fun t us H' et eu hv st su wf' stp => ?_⟩
  · have w1 := c1.wf a
    have i1 := I.co a
    have i2 := cuI a
    simp only at w1 ⊢
    by_cases q : 0 < coL a ins
    · by_cases q2 : 0 < cuL a ins
      · rcases i2 q2 with y | y | y <;> omega
      · omega
    · omega
  rw [List.append_nil] at hv
  have keepR : ∀ a o, 0 < coE a envR + cuE a envR → H1 a = some o → H' a = some o := fun a o h ho => stp.1 a o ho (by
    have w1 := c1.wf a
    have i1 := I.co a
    have i2 := I.cuR a
    simp only at w1 ⊢
    omega)
  have sR : SatE X.K H' envR := satE_keep keepR I.satR
  have someR : ∀ a, 0 < coE a envR + cuE a envR → H1 a ≠ none := fun a h => by
    by_cases q : 0 < coE a envR
    · exact coE_some I.satR q
    · exact cuE_some I.satR (by omega)
  rw [← eu, ← I.erR] at h4
  obtain ⟨env2, g1, g2, g3, g4, g5, g6⟩ := put_run as I.rel sR su h4 fun j i hj u hu => by
    obtain ⟨q, v, p1, p2, p3⟩ := argv_mu (n := 0) av hj
    have := hv j (0 + q) (by rw [hmu]; exact p1) v (by rw [Nat.zero_add]; exact p2)
    rw [vals, List.getElem?_map, hu] at this
    rw [p3]
    cases this
    rfl
  rw [← et, ← eu] at hno
  have tupB : ∀ a, 0 < t.cu a + cuL a us → ∃ o, H' a = some o ∧ isTupO o = true := fun a h => by
    by_cases q : 0 < t.cu a
    · exact noF_cu t hno.1 st q
    · exact noFL_cu us hno.2 su (by omega)
  refine k t env2 H' et g1 ⟨g2, ⟨st, trivial⟩, g3, fun a => ?_, Stp.trans c1.stp ⟨fun a o h hc => stp.1 a o h ?_, stp.2.1, fun a => ?_⟩⟩ fun i hi => ?_
  · have w1 := c1.wf a
    have i1 := I.co a
    have i2 := I.cuR a
    have s1 := (stp.2.2 a).1
    have s2 := (stp.2.2 a).2
    have wf1 := wf' a
    have j1 := g4 a
    have j2 := g5 a
    have ci := cuI a
    simp only [coL, cuL, Nat.add_zero] at w1 s1 s2 wf1 ⊢
    by_cases q : 0 < coE a envR
    · have nn := someR a (by omega)
      simp only [nn, or_false] at s1 s2
      have nb : ¬ 0 < t.cu a + cuL a us := fun h => by
        obtain ⟨o, ho, hb⟩ := tupB a h
        obtain ⟨o', ho', hb'⟩ := coE_no sR q
        rw [ho] at ho'
        cases ho'
        rw [hb] at hb'
        cases hb'
      omega
    · by_cases q2 : 0 < t.co a + coL a us
      · by_cases q3 : 0 < cuE a envR
        · have nn := someR a (by omega)
          simp only [nn, or_false] at s1 s2
          have := s1 q2
          omega
        · omega
      · omega
  · have i1 := I.co a
    simp only at hc ⊢
    omega
  · have i1 := I.co a
    have i2 := I.cuR a
    have s1 := (stp.2.2 a).1
    have s2 := (stp.2.2 a).2
    have j1 := g4 a
    have j2 := g5 a
    have ci := cuI a
    simp only [coL, cuL, Nat.add_zero] at s1 s2 ⊢
    refine ⟨fun h => ?_, fun h => ?_⟩
    · by_cases q : 0 < coE a envR
      · exact .inl (by omega)
      · rcases s1 (by omega) with y | y
        · exact .inl (by omega)
        · exact .inr y
    · by_cases q : 0 < cuE a envR
      · exact .inr (.inl (by omega))
      · rcases s2 (by omega) with y | y | y
        · exact .inl (by omega)
        · rcases ci y with y | y | y
          · by_cases q3 : 0 < evc a
            · exact .inl (by omega)
            · exact .inr (.inl (by omega))
          · exact .inr (.inl (by omega))
          · exact .inl (by omega)
        · exact .inr (.inr y)
  · have hn : i ∉ muS as := fun q => (hdis i q).2 hi
    rw [g6 i hn, I.out i hn, u1 i hi]
end
end Ow

namespace Ow
open PySem L2

/-! ### places within what is owned -/
def atT : List Nat → T → Option T
  | [], t => some t
  | j :: p, t => (t.kids[j]?).bind fun u => atT p u
def D.kids : D → List D
  | .s _ => []
  | .n _ ds => ds
@[simp] def atD : List Nat → D → Option D
  | [], d => some d
  | j :: p, d => (d.kids[j]?).bind fun u => atD p u
theorem kids_er (t : T) : t.er.kids = erL t.kids := by
  cases t <;> simp [T.er, D.kids, T.kids, erL]
section
variable {K : PySem.W.Frag} {H H' : Hp}
theorem kids_sat {t : T} (h : t.sat K H) : satL K H t.kids := by
  cases t with
  | s v => trivial
  | n k a ts => exact h.2
  | w z k a ts => exact h.2
theorem kids_co {t : T} {a : Addr} : coL a t.kids ≤ t.co a := by
  cases t with
  | s v => exact Nat.zero_le _
  | n k b ts => rw [T.kids, T.co]; omega
  | w z k b ts => rw [T.kids, T.co]; omega
theorem kids_cu {t : T} {a : Addr} : cuL a t.kids ≤ t.cu a := by
  cases t with
  | s v => exact Nat.zero_le _
  | n k b ts => rw [T.kids, T.cu]; omega
  | w z k b ts => rw [T.kids, T.cu]; omega
theorem atD_run : ∀ {p : List Nat} {t : T} {d : D}, t.sat K H → atD p t.er = some d → ∃ u, atT p t = some u ∧ u.er = d ∧ u.sat K H
  | [], t, d, s, h => by
    rw [atD] at h
    cases h
    exact ⟨t, rfl, rfl, s⟩
  | j :: p, t, d, s, h => by
    rw [atD, kids_er] at h
    obtain ⟨c, h1, h⟩ := bind_some h
    obtain ⟨u, hu, rfl⟩ := er_at rfl h1
    obtain ⟨v, g1, g2, g3⟩ := atD_run (sat_at (kids_sat s) hu) h
    exact ⟨v, by rw [atT, hu]; exact g1, g2, g3⟩
theorem atT_snoc : ∀ {p : List Nat} {j : Nat} {t u : T}, atT p t = some u → atT (p ++ [j]) t = u.kids[j]?
  | [], j, t, u, h => by
    rw [atT] at h
    cases h
    rw [List.nil_append, atT]
    cases t.kids[j]? <;> rfl
  | i :: p, j, t, u, h => by
    rw [atT] at h
    obtain ⟨v, h1, h⟩ := bind_some h
    rw [List.cons_append, atT, h1]
    exact atT_snoc h
/-- the owned list at a place made another one -/
@[simp] def modD : List Nat → (List D → Option (List D)) → D → Option D
  | [], f, .n (.lst .o) ds => (f ds).map (.n (.lst .o) ·)
  | j :: p, f, .n (.lst .o) ds => (ds[j]?).bind fun x => (modD p f x).map fun y => .n (.lst .o) (ds.set j y)
  | j :: p, f, .n .tup ds => (ds[j]?).bind fun x => (modD p f x).map fun y => .n .tup (ds.set j y)
  | _, _, _ => none
/-- what changing the list at a place of t comes to -/
structure Md (K : PySem.W.Frag) (H : Hp) (p : List Nat) (f : List D → Option (List D)) (t : T) (d' : D) (a : Addr) (ts : List T) : Prop where
  at_ : atT p t = some (.n (.lst .o) a ts)
  nd : H a = some (.lst (vals ts))
  sat : satL K H ts
  own : coL a ts + 1 ≤ t.co a
  leo : ∀ b, coL b ts ≤ t.co b
  leu : ∀ b, cuL b ts ≤ t.cu b
  new : ∃ ds', f (erL ts) = some ds' ∧ ∀ ts', erL ts' = ds' → ∃ t' : T, t'.er = d' ∧ t'.val = t.val ∧ (∀ b, t'.co b + coL b ts = t.co b + coL b ts') ∧ (∀ b, t'.cu b + cuL b ts = t.cu b + cuL b ts') ∧
    ∀ H', (∀ b o, b ≠ a → 0 < t.co b + t.cu b → H b = some o → H' b = some o) → t.co a ≤ 1 → t.cu a = 0 → H' a = some (.lst (vals ts')) → satL K H' ts' → t'.sat K H'
theorem coL_set {ts : List T} {j : Nat} {u v : T} {b : Addr} (h : ts[j]? = some u) : coL b (ts.set j v) + u.co b = coL b ts + v.co b := by
  induction ts generalizing j with
  | nil => simp at h
  | cons t ts ih =>
    cases j with
    | zero =>
      simp at h
      subst h
      rw [List.set_cons_zero, coL, coL]; omega
    | succ j =>
      have := ih (j := j) (by simpa using h)
      rw [List.set_cons_succ, coL, coL]; omega
theorem cuL_set {ts : List T} {j : Nat} {u v : T} {b : Addr} (h : ts[j]? = some u) : cuL b (ts.set j v) + u.cu b = cuL b ts + v.cu b := by
  induction ts generalizing j with
  | nil => simp at h
  | cons t ts ih =>
    cases j with
    | zero =>
      simp at h
      subst h
      rw [List.set_cons_zero, cuL, cuL]; omega
    | succ j =>
      have := ih (j := j) (by simpa using h)
      rw [List.set_cons_succ, cuL, cuL]; omega
theorem vals_set {ts : List T} {j : Nat} {u v : T} (h : ts[j]? = some u) (e : v.val = u.val) : vals (ts.set j v) = vals ts := by
  rw [vals, List.map_set, e]
  apply List.ext_getElem?
  intro i
  rw [List.getElem?_set]
  by_cases q : j = i
  · subst q
    rw [if_pos rfl, List.getElem?_map, h]
    split
    · rfl
    · rename_i hl
      rw [List.length_map] at hl
      exact absurd (List.getElem?_eq_some_iff.mp h).1 hl
  · rw [if_neg q]
theorem erL_set {ts : List T} {j : Nat} {v : T} : erL (ts.set j v) = (erL ts).set j v.er := by rw [erL_map, erL_map, List.map_set]
theorem satL_set {ts : List T} {j : Nat} {u v : T} (hu : ts[j]? = some u) (a : Addr) (hv : v.sat K H') (s : satL K H ts) (co1 : coL a ts ≤ 1) (co2 : 1 ≤ u.co a) (cu0 : cuL a ts = 0) (hk : ∀ b o, b ≠ a → 0 < coL b ts + cuL b ts → H b = some o → H' b = some o) : satL K H' (ts.set j v) := by
  induction ts generalizing j with
  | nil => simp at hu
  | cons t ts ih =>
    rw [coL] at co1
    rw [cuL] at cu0
    have hk1 : ∀ b o, b ≠ a → 0 < coL b ts + cuL b ts → H b = some o → H' b = some o := fun b o hb h => hk b o hb (by rw [coL, cuL]; omega)
    cases j with
    | zero =>
      simp at hu
      subst hu
      rw [List.set_cons_zero]
      refine ⟨hv, satL_keep ts (fun b o h e => hk1 b o (fun z => ?_) h e) s.2⟩
      subst z; omega
    | succ j =>
      have hu' : ts[j]? = some u := by simpa using hu
      have := coL_mem (a := a) (List.mem_of_getElem? hu')
      rw [List.set_cons_succ]
      refine ⟨sat_keep t (fun b o h e => hk b o (fun z => ?_) (by rw [coL, cuL]; omega) e) s.1, ih hu' s.2 (by omega) (by omega) hk1⟩
      subst z; omega
def rek : T → List T → T
  | .s v, _ => .s v
  | .n k a _, ts => .n k a ts
  | .w z k a _, ts => .w z k a ts
theorem rek_val {t : T} {ts : List T} : (rek t ts).val = t.val := by cases t <;> rfl
theorem rek_er {t : T} {ts' : List T} {k : Kd} {ds : List D} (h : t.er = .n k ds) : (rek t ts').er = .n k (erL ts') := by
  cases t with
  | s v => rw [T.er] at h; cases h
  | n k' a ts => rw [T.er] at h; cases h; rw [rek, T.er]
  | w z k' a ts => rw [T.er] at h; cases h; rw [rek, T.er]
theorem rek_co {t : T} {ts' : List T} {k : Kd} {ds : List D} {b : Addr} (h : t.er = .n k ds) : (rek t ts').co b + coL b t.kids = t.co b + coL b ts' := by
  cases t with
  | s v => rw [T.er] at h; cases h
  | n k' a ts => rw [rek, T.co, T.co, T.kids]; omega
  | w z k' a ts => rw [rek, T.co, T.co, T.kids]; omega
theorem rek_cu {t : T} {ts' : List T} {k : Kd} {ds : List D} {b : Addr} (h : t.er = .n k ds) : (rek t ts').cu b + cuL b t.kids = t.cu b + cuL b ts' := by
  cases t with
  | s v => rw [T.er] at h; cases h
  | n k' a ts => rw [rek, T.cu, T.cu, T.kids]; omega
  | w z k' a ts => rw [rek, T.cu, T.cu, T.kids]; omega
theorem rek_sat {t : T} {ts' : List T} {a : Addr} (s : t.sat K H) (hv : vals ts' = vals t.kids) (hs : satL K H' ts') (k1 : ∀ b o, b ≠ a → 0 < t.co b + t.cu b → H b = some o → H' b = some o) (c1 : 1 ≤ coL a t.kids) (c2 : t.co a ≤ 1) (c3 : t.cu a = 0) : (rek t ts').sat K H' := by
  cases t with
  | s v => trivial
  | n k b ts =>
    rw [T.kids] at hv c1
    rw [T.co] at c2
    rw [T.cu] at c3
    have hb : b ≠ a := fun z => by
      subst z
      cases e : k.own <;> rw [e] at c2 c3 <;> simp at c2 c3 <;> omega
    refine ⟨⟨?_, s.1.2⟩, hs⟩
    rw [hv]
    exact k1 b _ hb (by rw [T.co, T.cu]; cases k.own <;> simp <;> omega) s.1.1
  | w z k b ts =>
    rw [T.kids] at hv c1
    rw [T.cu] at c3
    refine ⟨?_, hs⟩
    rw [hv]
    cases z with
    | true => have := s.1; cases k <;> exact this
    | false =>
      have hb : b ≠ a := fun y => by
        subst y
        simp at c3
      obtain ⟨o, ho⟩ := s.1
      exact ⟨o, k1 b _ hb (by rw [T.co, T.cu]; simp; omega) ho⟩
theorem mod_run : ∀ {p : List Nat} {f : List D → Option (List D)} {t : T} {d' : D}, t.sat K H → modD p f t.er = some d' → ∃ a ts, Md K H p f t d' a ts
  | [], f, t, d', s, h => by
    cases t with
    | s v => simp [T.er, modD] at h
    | w z k a ts =>
      rw [T.er] at h
      cases k <;> simp [Kd.wri, modD] at h
    | n k a ts =>
      rw [T.er] at h
      cases k with
      | lst o =>
        cases o with
        | o =>
          rw [modD] at h
          obtain ⟨ds', h1, rfl⟩ := map_some h
          refine ⟨a, ts, rfl, s.1.1, s.2, by rw [T.co]; simp [Kd.own]; omega, fun b => by rw [T.co]; omega, fun b => by rw [T.cu]; omega, ds', h1, fun ts' e => ⟨.n (.lst .o) a ts', by rw [T.er, e], rfl, fun b => by rw [T.co, T.co]; omega, fun b => by rw [T.cu, T.cu]; omega, fun H' _ _ _ hn hs => ⟨⟨hn, rfl⟩, hs⟩⟩⟩
        | s => simp [modD] at h
        | w => simp [modD] at h
      | tup => simp [modD] at h
      | dic o ks => simp [modD] at h
      | dct o ks => simp [modD] at h
  | j :: p, f, t, d', s, h => by
    have hk : ∃ k ds, t.er = .n k ds ∧ (k = .lst .o ∨ k = .tup) ∧ ((ds[j]?).bind fun x => (modD p f x).map fun y => D.n k (ds.set j y)) = some d' := by
      cases e : t.er with
      | s v => rw [e] at h; simp [modD] at h
      | n k ds =>
        rw [e] at h
        cases k with
        | lst o =>
          cases o with
          | o => rw [modD] at h; exact ⟨_, _, rfl, .inl rfl, h⟩
          | s => simp [modD] at h
          | w => simp [modD] at h
        | tup => rw [modD] at h; exact ⟨_, _, rfl, .inr rfl, h⟩
        | dic o ks => simp [modD] at h
        | dct o ks => simp [modD] at h
    obtain ⟨k, ds, e1, hkk, h⟩ := hk
    obtain ⟨c, h1, h⟩ := bind_some h
    obtain ⟨y, h2, rfl⟩ := map_some h
    have hkids : erL t.kids = ds := by rw [← kids_er, e1]; rfl
    obtain ⟨u, hu, rfl⟩ := er_at hkids h1
    have su := sat_at (kids_sat s) hu
    have mu := List.mem_of_getElem? hu
    obtain ⟨a, ts, M⟩ := mod_run su h2
    refine ⟨a, ts, by rw [atT, hu]; exact M.at_, M.nd, M.sat, Nat.le_trans M.own (Nat.le_trans (coL_mem mu) kids_co), fun b => Nat.le_trans (M.leo b) (Nat.le_trans (coL_mem mu) kids_co), fun b => Nat.le_trans (M.leu b) (Nat.le_trans (cuL_mem mu) kids_cu), ?_⟩
    obtain ⟨ds', h3, hn⟩ := M.new
    refine ⟨ds', h3, fun ts' ets' => ?_⟩
    obtain ⟨u', g1, g2, g3, g4, g5⟩ := hn ts' ets'
    have n1 : ∀ b, coL b (t.kids.set j u') + u.co b = coL b t.kids + u'.co b := fun b => coL_set hu
    have n2 : ∀ b, cuL b (t.kids.set j u') + u.cu b = cuL b t.kids + u'.cu b := fun b => cuL_set hu
    refine ⟨rek t (t.kids.set j u'), ?_, rek_val, fun b => ?_, fun b => ?_, fun H' k1 k2 k3 k4 k5 => ?_⟩
    · rw [rek_er e1, erL_set, g1, hkids]
    · have := rek_co (b := b) (ts' := t.kids.set j u') e1
      have := n1 b
      have := g3 b
      omega
    · have := rek_cu (b := b) (ts' := t.kids.set j u') e1
      have := n2 b
      have := g4 b
      omega
    · have c1 := Nat.le_trans (coL_mem (a := a) mu) kids_co
      have c2 := M.own
      have c3 : coL a t.kids ≤ t.co a := kids_co
      have c4 : cuL a t.kids ≤ t.cu a := kids_cu
      have c5 : u.co a ≤ coL a t.kids := coL_mem mu
      have c6 : u.cu a ≤ cuL a t.kids := cuL_mem mu
      refine rek_sat s (vals_set hu g2) (satL_set hu a ?_ (kids_sat s) (by omega) (by omega) (by omega) fun b o hb hp => k1 b o hb ?_) k1 (by omega) k2 k3
      · refine g5 H' (fun b o hb hp => k1 b o hb ?_) (by omega) (by omega) k4 k5
        have d1 := Nat.le_trans (coL_mem (a := b) mu) kids_co
        have d2 := Nat.le_trans (cuL_mem (a := b) mu) kids_cu
        omega
      · have d1 : coL b t.kids ≤ t.co b := kids_co
        have d2 : cuL b t.kids ≤ t.cu b := kids_cu
        omega
end
end Ow

namespace Ow
open PySem L2

section
variable {K : PySem.W.Frag} {H0 H H' : Hp} {env0 env : TEnv} {σ : L2.St} {F' G G' : List T} {i : Nat} {p : List Nat} {f : List D → Option (List D)} {t : T} {d' : D} {a : Addr} {ts ts' : List T}
/-- the list at a place of slot i made another one, of what it held and what is at hand -/
theorem mut_step (c : Cf K H0 env0 σ H (G ++ F') env) (hi : env[i]? = some (some t)) (M : Md K H p f t d' a ts) (hf : f (erL ts) = some (erL ts')) (s1 : satL K H ts') (s2 : satL K H G')
    (n1 : ∀ b, coL b ts' + coL b G' ≤ coL b ts + coL b G) (n2 : ∀ b, 0 < cuL b ts' + cuL b G' → 0 < cuL b (G ++ F') + cuE b env) :
    ∃ env', erE env' = (erE env).set i (some d') ∧ (∀ j, j ≠ i → env'[j]? = env[j]?) ∧ Cf K H0 env0 σ (upd H a (.lst (vals ts'))) (G' ++ F') env' := by
  obtain ⟨ds', h1, hn⟩ := M.new
  rw [hf] at h1
  cases h1
  obtain ⟨t', g1, g2, g3, g4, g5⟩ := hn ts' rfl
  have m1 := M.own
  have wa := c.wf a
  have ei : ∀ b, coE b (env.set i (some t')) + t.co b = coE b env + t'.co b := fun b => by
    have := coE_set (a := b) (some t') hi
    simpa only [oT] using this
  have ui : ∀ b, cuE b (env.set i (some t')) + t.cu b = cuE b env + t'.cu b := fun b => by
    have := cuE_set (a := b) (some t') hi
    simpa only [oT] using this
  have ti : ∀ b, t.co b ≤ coE b env := fun b => coE_get hi
  have tu : ∀ b, t.cu b ≤ cuE b env := fun b => cuE_get hi
  simp only [coL_append, cuL_append] at wa
  have ta := ti a
  have tua := tu a
  have la := M.leo a
  have lua := M.leu a
  have n1a := n1 a
  have n2a := n2 a
  rw [cuL_append] at n2a
  have keep : ∀ b o, b ≠ a → H b = some o → upd H a (.lst (vals ts')) b = some o := fun b o hb h => by rw [upd_ne hb]; exact h
  have nt : ∀ b, 0 < coL b ts' + cuL b ts' → b ≠ a := fun b h z => by subst z; omega
  have sF := satL_append.mp c.satF
  have st' : t'.sat K (upd H a (.lst (vals ts'))) := g5 _ (fun b o hb _ h => keep b o hb h) (by omega) (by omega) upd_same (satL_keep ts' (fun b o h e => keep b o (nt b h) e) s1)
  refine ⟨env.set i (some t'), by rw [erE_set, ← g1]; rfl, fun j hj => by rw [List.getElem?_set, if_neg (fun z => hj z.symm)], c.rel.swap hi g2, satL_append.mpr ⟨satL_keep G' (fun b o h e => keep b o (fun z => by subst z; omega) e) s2, satL_keep F' (fun b o h e => keep b o (fun z => by subst z; omega) e) sF.2⟩, ?_, fun b => ?_, Stp.trans c.stp ⟨fun b o h hc => ?_, fun b h => ?_, fun b => ?_⟩⟩
  · -- the other slots
    intro u hu
    obtain ⟨j, hj⟩ := List.mem_iff_getElem?.mp hu
    rw [List.getElem?_set] at hj
    by_cases q : i = j
    · rw [if_pos q] at hj
      split at hj
      · cases hj; exact st'
      · cases hj
    · rw [if_neg q] at hj
      have e2 : (env.set i none)[j]? = some (some u) := by rw [List.getElem?_set, if_neg q]; exact hj
      refine sat_keep u (fun b o h e => keep b o (fun z => ?_) e) (c.satE u (List.mem_of_getElem? hj))
      subst z
      have w1 := coE_get (a := b) e2
      have w2 := cuE_get (a := b) e2
      have w3 := coE_set (a := b) none hi
      have w4 := cuE_set (a := b) none hi
      simp only [oT] at w3 w4
      omega
  · have w1 := c.wf b
    have := ei b
    have := ui b
    have := ti b
    have := tu b
    have := g3 b
    have := g4 b
    have := n1 b
    have n2b := n2 b
    have := M.leo b
    have := M.leu b
    simp only [coL_append, cuL_append] at w1 n2b ⊢
    by_cases q : 0 < cuL b ts' + cuL b G'
    · have := n2b q
      omega
    · omega
  · refine keep b o (fun z => ?_) h
    subst z
    simp only at hc
    omega
  · by_cases q : b = a
    · subst q
      rw [upd_same] at h
      cases h
    · rw [upd_ne q] at h
      exact h
  · have := ei b
    have := ui b
    have := ti b
    have := tu b
    have := g3 b
    have := g4 b
    have := n1 b
    have n2b := n2 b
    have := M.leo b
    have := M.leu b
    simp only [coL_append, cuL_append] at n2b ⊢
    refine ⟨fun q => .inl (by omega), fun q => .inr (.inl ?_)⟩
    by_cases q : 0 < cuL b ts' + cuL b G'
    · exact n2b q
    · omega
end
/-- a place: slot i, the way to it -/
def trPl (K : PySem.W.Frag) (i : Nat) (pm : Env → Option (List Nat)) : TE := fun σ H Q => ∃ env p, pm (erE env) = some p ∧ Rel σ env ∧ SatE K H env ∧ ∀ H', Ex H H' → ∀ t u, env[i]? = some (some t) → atT p t = some u → Q u.val H'
/-- .. and it is there -/
def okPl (i : Nat) (pm : Env → Option (List Nat)) : Prop := ∀ env p, pm env = some p → ∃ d c, env[i]?.join = some d ∧ atD p d = some c
structure SPl (X : Cx) (i : Nat) (e : Expr) (pm : Env → Option (List Nat)) : Prop where
  ok : okPl i pm
  pe : PE X e (trPl X.K i pm)
@[simp] def plName (i : Nat) : Env → Option (List Nat) := fun env => (env[i]?.join).map fun _ => []
@[simp] def plItem (i : Nat) (pm : Env → Option (List Nat)) (mb : PM) : Env → Option (List Nat) := fun env => (pm env).bind fun p => (mb env).bind fun y => (toI y).bind fun n => (env[i]?.join).bind fun d => (atD p d).bind fun c => match c with
  | .n (.lst _) ds => (ixN ds.length n).map fun j => p ++ [j]
  | .n .tup ds => (ixN ds.length n).map fun j => p ++ [j]
  | _ => none
theorem atD_snoc : ∀ {p : List Nat} {j : Nat} {d c : D}, atD p d = some c → atD (p ++ [j]) d = c.kids[j]?
  | [], j, d, c, h => by
    rw [atD] at h
    cases h
    rw [List.nil_append, atD]
    cases d.kids[j]? <;> rfl
  | i :: p, j, d, c, h => by
    rw [atD] at h
    obtain ⟨v, h1, h⟩ := bind_some h
    rw [List.cons_append, atD, h1]
    exact atD_snoc h
theorem ixN_lt {n : Nat} {k : Int} {j : Nat} (h : ixN n k = some j) : j < n := (ixN_seq h).2.1
section
variable {X : Cx} {m ma mb : PM} {me m1 m2 : EM} {e a b : Expr} {pos apos cpos : Pos} {U P : List Nat} {i : Nat} {pm : Env → Option (List Nat)}
theorem spl_name {x : Str} (i : Nat) (hN : X.N[i]? = some x := by rfl) (hv : Vis X.env.scope x := by first | exact .inl rfl | exact .inr (.inl rfl) | exact .inr (.inr rfl))
    (hd : (x == ("__debug__" : Str)) = false := by decide) (hcd : (x == ("__classdict__" : Str)) = false := by decide) : SPl X i (.Name x pos) (plName i) where
  ok := fun env p h => by
    obtain ⟨d, h1, rfl⟩ := map_some h
    exact ⟨d, d, h1, rfl⟩
  pe := PE.weak (pe_var (i := i) hN hv hd hcd) fun σ H Q ⟨env, p, hm, r, s, k⟩ => by
    obtain ⟨d, h1, rfl⟩ := map_some hm
    obtain ⟨t, e1, e2⟩ := join_get h1
    exact ⟨t.val, r.2 i t e1, k H (Evl.Ex.refl H) t t e1 rfl⟩
theorem spl_item (ha : SPl X i a pm) (hb : SB X b mb) (hs : PlainIx b := by exact fun _ _ => rfl) : SPl X i (.Subscript a b pos) (plItem i pm mb) where
  ok := fun env q h => by
    obtain ⟨p, h1, h⟩ := bind_some h
    obtain ⟨y, h2, h⟩ := bind_some h
    obtain ⟨n, h3, h⟩ := bind_some h
    obtain ⟨d, h4, h⟩ := bind_some h
    obtain ⟨c, h5, h⟩ := bind_some h
    split at h
    · rename_i o ds
      obtain ⟨j, h6, rfl⟩ := map_some h
      exact ⟨d, _, h4, by rw [atD_snoc h5]; exact List.getElem?_eq_getElem (ixN_lt h6)⟩
    · rename_i ds
      obtain ⟨j, h6, rfl⟩ := map_some h
      exact ⟨d, _, h4, by rw [atD_snoc h5]; exact List.getElem?_eq_getElem (ixN_lt h6)⟩
    · cases h
  pe := PE.weak (pe_ix ix_it ha.pe hb hs) fun σ H Q ⟨env, q, hm, r, s, k⟩ => by
    obtain ⟨p, h1, h⟩ := bind_some hm
    obtain ⟨y, h2, h⟩ := bind_some h
    obtain ⟨n, h3, h⟩ := bind_some h
    obtain ⟨d, h4, h⟩ := bind_some h
    obtain ⟨c, h5, hh⟩ := bind_some h
    clear h
    refine ⟨env, p, h1, r, s, fun H1 x1 t u e1 e2 => ⟨env, y, h2, r, s.ex x1, fun v H2 e3 x2 s2 _ => ?_⟩⟩
    obtain ⟨t', f1, f2⟩ := join_get h4
    rw [e1] at f1
    cases f1
    subst f2
    have st := sat_ex (x1.trans x2) (s.get e1)
    obtain ⟨u', g1, g2, g3⟩ := atD_run st h5
    rw [e2] at g1
    cases g1
    have ev : v.er = .s (.int n) := e3.trans (toI_some h3)
    rw [er_int ev]
    split at hh
    · rename_i o ds
      obtain ⟨j, h6, rfl⟩ := map_some hh
      obtain ⟨a, w1, w2, w3, w4, _⟩ := rdLk g3 g2
      have hj := ixN_lt h6
      rw [← len_er w2] at hj h6
      have hw := List.getElem?_eq_getElem hj
      rw [w1]
      refine .inl (.inl ⟨a, _, n, (u.kids[j]).val, rfl, rfl, w3, ?_, k H2 (x1.trans x2) t _ e1 (by rw [atT_snoc e2]; exact hw)⟩)
      unfold atI
      rw [List.length_map, h6]
      exact vals_at hw
    · rename_i ds
      obtain ⟨j, h6, rfl⟩ := map_some hh
      obtain ⟨a, w1, w2, w3, w4, _⟩ := rdTk g3 g2
      have hj := ixN_lt h6
      rw [← len_er w2] at hj h6
      have hw := List.getElem?_eq_getElem hj
      rw [w1]
      refine .inl (.inr ⟨a, _, n, (u.kids[j]).val, rfl, rfl, w3, ?_, k H2 (x1.trans x2) t _ e1 (by rw [atT_snoc e2]; exact hw)⟩)
      unfold atI
      rw [List.length_map, h6]
      exact vals_at hw
    · cases hh
/-- the place first, then what is handed in: then the place is as it was -/
theorem goPl {K : PySem.W.Frag} {H0 H : Hp} {env0 env : TEnv} {σ : L2.St} {F : List T} {p : List Nat} {Q : VK} (ho : okPl i pm) (c : Cf K H0 env0 σ H F env) (hm : pm (erE env) = some p)
    (k : ∀ t u H', env[i]? = some (some t) → atT p t = some u → Ex H H' → Cf K H0 env0 σ H' F env → Q u.val H') : trPl K i pm σ H Q :=
  ⟨env, p, hm, c.rel, c.satE, fun H' x t u h1 h2 => k t u H' h1 h2 x (c.ex x)⟩
/-- xs.append(e) -/
@[simp] def sApp (i : Nat) (pm : Env → Option (List Nat)) (me : EM) : SM := fun env => (pm env).bind fun p => (me env).bind fun x => (env[i]?.join).bind fun d =>
  (modD p (fun ds => if ds.length < 16777216 then some (ds ++ [x.1]) else none) d).map fun d' => (.nx, x.2.set i (some d'))
theorem sizeLine_lt {n : Nat} (h : n < 16777216) : n < sizeLine := by rw [sizeLine_eq]; exact h
theorem if_some' {α : Type} {c : Prop} [Decidable c] {o : Option α} {z : α} (h : (if c then o else none) = some z) : c ∧ o = some z := by
  split at h
  · exact ⟨by assumption, h⟩
  · cases h
theorem if_some {α : Type} {c : Prop} [Decidable c] {x z : α} (h : (if c then some x else none) = some z) : c ∧ x = z := by
  split at h
  · cases h; exact ⟨by assumption, rfl⟩
  · cases h
theorem ss_append (ho : SPl X i a pm) (h : SE X [i] e me) (hbase : attributeBase a "append" X.env (eval a X.env) = eval a X.env := by rfl)
    (hfew : ((backTo cpos (starEach [e] X.env)).all (fun x => !x.1) && (backToKw cpos (keywordEach [] X.env)).all (fun x => x.1.isSome)
      && decide (([e] : List Expr).length + ([] : List Keyword).length + (if ([] : List Keyword).isEmpty then 0 else 1) < 30)) = true := by rfl)
    (hline : (apos.endLine == cpos.line) = true := by rfl) (hs : starEach [e] X.env = (false, eval e X.env) :: starEach [] X.env := by rfl) (hplain : (backTo cpos (starEach [] X.env)).any (·.1) = false := by rfl)
    (hsw : swapsWith (.Call (.Attribute a "append" apos) [e] [] cpos) none pos.line X.env = pure false := by rfl) : SS X P (.Expr (.Call (.Attribute a "append" apos) [e] [] cpos) pos) (sApp i pm me) :=
  PS.weak (ps_expr (pe_bm PySem.F.plainAttrs_list PySem.F.slot_list_append PySem.F.type_list_append mt_append ho.pe (pa_cons h pa_nil hs) hbase hfew hline hs hplain) hsw) fun De σ H ⟨env, o, e', hm, r, s, w, k⟩ => by
    obtain ⟨p, hp, hm⟩ := bind_some hm
    obtain ⟨x, hx, hm⟩ := bind_some hm
    obtain ⟨d, hd, hm⟩ := bind_some hm
    obtain ⟨d', hmd, e1⟩ := map_some hm
    cases e1
    obtain ⟨t, h1, rfl⟩ := join_get hd
    unfold tDrop tBM
    refine goPl ho.ok (Cf.start r s w) hp fun t' u H1 h1' h2 x1 c1 => ?_
    rw [h1] at h1'
    cases h1'
    obtain ⟨a1, ts1, M1⟩ := mod_run (c1.satE.get h1) hmd
    have ha1 := M1.at_
    rw [h2] at ha1
    cases ha1
    refine ⟨.inl ⟨rfl, _, .inl (.inl M1.nd)⟩, ?_⟩
    unfold tCons
    refine goE (d := x.1) (e' := x.2) c1 hx fun v env1 H2 e1 e2 c2 u1 => ?_
    have f3 : env1[i]? = some (some t) := (u1 i (by simp)).trans h1
    obtain ⟨a2, ts, M⟩ := mod_run (c2.satE.get f3) hmd
    have := M.at_
    rw [h2] at this
    cases this
    obtain ⟨ds', g1, _⟩ := M.new
    obtain ⟨g2, rfl⟩ := if_some g1
    refine ⟨a1, _, v.val, rfl, rfl, M.nd, sizeLine_lt (by rw [List.length_map, ← erL_length]; exact g2), ?_⟩
    obtain ⟨env2, w1, _, c3⟩ := mut_step (G := [v]) (F' := []) (G' := []) (ts' := ts1 ++ [v]) c2 f3 M (by rw [g1, erL_append, erL, erL, e1]) (satL_append.mpr ⟨M.sat, c2.satF.1, trivial⟩) trivial (fun b => by simp only [coL_append, coL]; omega)
      (fun b h => by have := M.leu b; have := cuE_get (a := b) f3; simp only [cuL_append, cuL] at h ⊢; omega)
    have ev : vals (ts1 ++ [v]) = vals ts1 ++ [v.val] := by simp [vals]
    rw [ev] at c3
    exact k [] σ env2 _ (by rw [w1, e2]) c3 (fun _ _ => rfl) rfl
/-- xs.pop(e) -/
@[simp] def ePopAt (i : Nat) (pm : Env → Option (List Nat)) (me : EM) : EM := fun env => (pm env).bind fun p => (me env).bind fun x => (toI x.1).bind fun n => (env[i]?.join).bind fun d => (atD p d).bind fun c => match c with
  | .n (.lst .o) ds => if ds.length ≤ 16777216 then (ixN ds.length n).bind fun j => (ds[j]?).bind fun z => (modD p (fun _ => some (ds.eraseIdx j)) d).map fun d' => (z, x.2.set i (some d')) else none
  | _ => none
theorem coL_erase {ts : List T} {j : Nat} {u : T} {b : Addr} (h : ts[j]? = some u) : coL b (ts.eraseIdx j) + u.co b = coL b ts := by
  induction ts generalizing j with
  | nil => simp at h
  | cons t ts ih =>
    cases j with
    | zero => simp at h; subst h; rw [List.eraseIdx_cons_zero, coL]; omega
    | succ j => have := ih (j := j) (by simpa using h); rw [List.eraseIdx_cons_succ, coL, coL]; omega
theorem cuL_erase {ts : List T} {j : Nat} {u : T} {b : Addr} (h : ts[j]? = some u) : cuL b (ts.eraseIdx j) + u.cu b = cuL b ts := by
  induction ts generalizing j with
  | nil => simp at h
  | cons t ts ih =>
    cases j with
    | zero => simp at h; subst h; rw [List.eraseIdx_cons_zero, cuL]; omega
    | succ j => have := ih (j := j) (by simpa using h); rw [List.eraseIdx_cons_succ, cuL, cuL]; omega
theorem map_eraseIdx {α β : Type} (f : α → β) : ∀ (xs : List α) (j : Nat), (xs.eraseIdx j).map f = (xs.map f).eraseIdx j
  | [], j => by simp
  | x :: xs, 0 => by simp
  | x :: xs, j + 1 => by simp [map_eraseIdx f xs j]
theorem se_popAt (ho : SPl X i a pm) (h : SE X (i :: U) e me) (hU : i ∉ U) (hbase : attributeBase a "pop" X.env (eval a X.env) = eval a X.env := by rfl)
    (hfew : ((backTo cpos (starEach [e] X.env)).all (fun x => !x.1) && (backToKw cpos (keywordEach [] X.env)).all (fun x => x.1.isSome)
      && decide (([e] : List Expr).length + ([] : List Keyword).length + (if ([] : List Keyword).isEmpty then 0 else 1) < 30)) = true := by rfl)
    (hline : (apos.endLine == cpos.line) = true := by rfl) (hs : starEach [e] X.env = (false, eval e X.env) :: starEach [] X.env := by rfl) (hplain : (backTo cpos (starEach [] X.env)).any (·.1) = false := by rfl) :
    SE X U (.Call (.Attribute a "pop" apos) [e] [] cpos) (ePopAt i pm me) :=
  PE.weak (pe_bm PySem.F.plainAttrs_list PySem.F.slot_list_pop PySem.F.type_list_pop mt_popAt ho.pe (pa_cons h pa_nil hs) hbase hfew hline hs hplain) fun σ H Q ⟨env, zd, e', hm, r, s, w, k⟩ => by
    obtain ⟨p, hp, hm⟩ := bind_some hm
    obtain ⟨x, hx, hm⟩ := bind_some hm
    obtain ⟨n, hn, hm⟩ := bind_some hm
    obtain ⟨d, hd, hm⟩ := bind_some hm
    obtain ⟨c, hc, hm⟩ := bind_some hm
    split at hm
    case h_2 => cases hm
    rename_i ds
    obtain ⟨hlen, hm⟩ := if_some' hm
    obtain ⟨j, hj, hm⟩ := bind_some hm
    obtain ⟨z, hz, hm⟩ := bind_some hm
    obtain ⟨d', hmd, e1⟩ := map_some hm
    cases e1
    obtain ⟨t, h1, rfl⟩ := join_get hd
    unfold tBM
    refine goPl ho.ok (Cf.start r s w) hp fun t' u H1 h1' h2 x1 c1 => ?_
    rw [h1] at h1'
    cases h1'
    obtain ⟨a1, ts1, M1⟩ := mod_run (c1.satE.get h1) hmd
    have ha1 := M1.at_
    rw [h2] at ha1
    cases ha1
    refine ⟨.inl ⟨rfl, _, .inl (.inl M1.nd)⟩, ?_⟩
    unfold tCons
    refine goE (d := x.1) (e' := x.2) c1 hx fun v env1 H2 e1 e2 c2 u1 => ?_
    have f3 : env1[i]? = some (some t) := (u1 i (by simp)).trans h1
    obtain ⟨a2, ts, M⟩ := mod_run (c2.satE.get f3) hmd
    have := M.at_
    rw [h2] at this
    cases this
    obtain ⟨u2, q1, q2, q3⟩ := atD_run (c2.satE.get f3) hc
    rw [h2] at q1
    cases q1
    have q4 : erL ts1 = ds := by rw [T.er] at q2; cases q2; rfl
    obtain ⟨zt, hzt, rfl⟩ := er_at q4 hz
    rw [er_int (e1.trans (toI_some hn))]
    obtain ⟨b1, b2, b3, b4⟩ := ixN_seq hj
    have ll : (vals ts1).length = ds.length := by rw [List.length_map, len_er q4]
    refine ⟨a1, vals ts1, n, j, zt.val, rfl, rfl, M.nd, by omega, by omega, by rw [ll]; exact b1, vals_at hzt, ?_⟩
    obtain ⟨env2, w1, w2, c3⟩ := mut_step (G := [v]) (F' := []) (G' := [zt]) (ts' := ts1.eraseIdx j) c2 f3 M (by rw [erL_map, map_eraseIdx, ← erL_map, q4]) (satL_iff.mpr fun y hy => satL_iff.mp M.sat y (List.mem_of_mem_eraseIdx hy)) ⟨sat_at M.sat hzt, trivial⟩
      (fun b => by have := coL_erase (b := b) hzt; simp only [coL]; omega) (fun b hb => by have := cuL_erase (b := b) hzt; have := M.leu b; have := cuE_get (a := b) f3; simp only [cuL, cuL_append] at hb ⊢; omega)
    have ev : vals (ts1.eraseIdx j) = (vals ts1).eraseIdx j := map_eraseIdx _ _ _
    rw [ev] at c3
    exact k zt env2 _ rfl (by rw [w1, e2]) c3 fun y hy => (w2 y fun q => hU (q ▸ hy)).trans (u1 y (List.mem_cons_of_mem _ hy))
/-- xs.insert(n, e) -/
@[simp] def sIns (i : Nat) (pm : Env → Option (List Nat)) (mn me : EM) : SM := fun env => (pm env).bind fun p => (mn env).bind fun y => (me y.2).bind fun x => (toI y.1).bind fun n => (env[i]?.join).bind fun d =>
  (modD p (fun ds => if (ds.length < 16777216 ∧ 0 ≤ n ∧ n < 2 ^ 63) then some (ds.take n.toNat ++ [x.1] ++ ds.drop n.toNat) else none) d).map fun d' => (.nx, x.2.set i (some d'))
theorem ss_insert {b : Expr} {mn : EM} (ho : SPl X i a pm) (hb : SE X [i] b mn) (h : SE X [i] e me) (hbase : attributeBase a "insert" X.env (eval a X.env) = eval a X.env := by rfl)
    (hfew : ((backTo cpos (starEach [b, e] X.env)).all (fun x => !x.1) && (backToKw cpos (keywordEach [] X.env)).all (fun x => x.1.isSome)
      && decide (([b, e] : List Expr).length + ([] : List Keyword).length + (if ([] : List Keyword).isEmpty then 0 else 1) < 30)) = true := by rfl)
    (hline : (apos.endLine == cpos.line) = true := by rfl) (hs : starEach [b, e] X.env = (false, eval b X.env) :: starEach [e] X.env := by rfl) (hs2 : starEach [e] X.env = (false, eval e X.env) :: starEach [] X.env := by rfl) (hplain : (backTo cpos (starEach [e] X.env)).any (·.1) = false := by rfl)
    (hsw : swapsWith (.Call (.Attribute a "insert" apos) [b, e] [] cpos) none pos.line X.env = pure false := by rfl) : SS X P (.Expr (.Call (.Attribute a "insert" apos) [b, e] [] cpos) pos) (sIns i pm mn me) :=
  PS.weak (ps_expr (pe_bm PySem.F.plainAttrs_list PySem.F.slot_list_insert PySem.F.type_list_insert L2.mt_insert ho.pe (pa_cons hb (pa_cons h pa_nil hs2) hs) hbase hfew hline hs hplain) hsw) fun De σ H ⟨env, o, e', hm, r, s, w, k⟩ => by
    obtain ⟨p, hp, hm⟩ := bind_some hm
    obtain ⟨y, hy, hm⟩ := bind_some hm
    obtain ⟨x, hx, hm⟩ := bind_some hm
    obtain ⟨n, hn, hm⟩ := bind_some hm
    obtain ⟨d, hd, hm⟩ := bind_some hm
    obtain ⟨d', hmd, e1⟩ := map_some hm
    cases e1
    obtain ⟨t, h1, rfl⟩ := join_get hd
    unfold tDrop tBM
    refine goPl ho.ok (Cf.start r s w) hp fun t' u H1 h1' h2 x1 c1 => ?_
    rw [h1] at h1'
    cases h1'
    obtain ⟨a1, ts1, M1⟩ := mod_run (c1.satE.get h1) hmd
    have ha1 := M1.at_
    rw [h2] at ha1
    cases ha1
    refine ⟨.inl ⟨rfl, _, .inl (.inl M1.nd)⟩, ?_⟩
    unfold tCons
    refine goE (d := y.1) (e' := y.2) c1 hy fun vn env0 H0 en e0 c0 u0 => ?_
    refine goE (d := x.1) (e' := x.2) c0 (by rw [e0]; exact hx) fun v env1 H2 e1 e2 c2 u1 => ?_
    have f3 : env1[i]? = some (some t) := (u1 i (by simp)).trans ((u0 i (by simp)).trans h1)
    obtain ⟨a2, ts, M⟩ := mod_run (c2.satE.get f3) hmd
    have := M.at_
    rw [h2] at this
    cases this
    obtain ⟨ds', g1, _⟩ := M.new
    obtain ⟨⟨g2, g3, g4⟩, rfl⟩ := if_some g1
    have en2 := er_int (en.trans (toI_some hn))
    subst en2
    refine ⟨a1, vals ts1, n, v.val, rfl, rfl, M.nd, sizeLine_lt (by rw [List.length_map, ← erL_length]; exact g2), g3, g4, ?_⟩
    obtain ⟨env2, w1, _, c3⟩ := mut_step (G := [v, .s (.int n)]) (F' := []) (G' := []) (ts' := ts1.take n.toNat ++ [v] ++ ts1.drop n.toNat) c2 f3 M (by rw [g1]; simp [erL_map, e1]) (satL_iff.mpr fun y hy => by
        rcases List.mem_append.mp hy with q | q
        · rcases List.mem_append.mp q with q | q
          · exact satL_iff.mp M.sat y (List.mem_of_mem_take q)
          · rw [List.mem_singleton] at q; subst q; exact c2.satF.1
        · exact satL_iff.mp M.sat y (List.mem_of_mem_drop q)) trivial
      (fun b => by have := coL_append (a := b) (ts := ts1.take n.toNat) (us := ts1.drop n.toNat); rw [List.take_append_drop] at this; simp only [coL_append, coL]; omega)
      (fun b hb => by have := cuL_append (a := b) (ts := ts1.take n.toNat) (us := ts1.drop n.toNat); rw [List.take_append_drop] at this; have := M.leu b; have := cuE_get (a := b) f3; simp only [cuL_append, cuL] at hb ⊢; omega)
    have ev : vals (ts1.take n.toNat ++ [v] ++ ts1.drop n.toNat) = (vals ts1).take n.toNat ++ [v.val] ++ (vals ts1).drop n.toNat := by simp [vals]
    rw [ev] at c3
    exact k [] σ env2 _ (by rw [w1, e2]) c3 (fun _ _ => rfl) rfl
/-- xs[n] = e -/
@[simp] def sPut (i : Nat) (pm : Env → Option (List Nat)) (mb : PM) (me : EM) : SM := fun env => (me env).bind fun x => (pm x.2).bind fun p => (mb x.2).bind fun y => (toI y).bind fun n => (x.2[i]?.join).bind fun d =>
  (modD p (fun ds => (ixN ds.length n).map fun j => ds.set j x.1) d).map fun d' => (.nx, x.2.set i (some d'))
theorem ss_put {b : Expr} {spos : Pos} (h : SE X [] e me) (ho : SPl X i a pm) (hb : SB X b mb) (ha : ∀ v, assign (.Subscript a b pos) X.env v = (do
      let ov ← holding [v] (eval a X.env)
      let iv ← holding [v, ov] (eval b X.env)
      standAt pos
      holding [v, ov, iv] (setItem ov iv v)
      release [v, ov, iv] []) := by intro _; rfl) (hs : swapsWithSole [.Subscript a b pos] e spos.line X.env = pure false := by rfl) (hw : swappedStores [.Subscript a b pos] e X.env = pure none := by rfl)
    (h1 : (assignEach [.Subscript a b pos] X.env).map (·.2) = [assign (.Subscript a b pos) X.env] := by rfl) : SS X P (.Assign [.Subscript a b pos] e spos) (sPut i pm mb me) :=
  PS.weak (ps_asg h (pg_sub ho.pe hb set_list ha) hs hw h1) fun De σ H ⟨env, o, e', hm, r, s, w, k⟩ => by
    obtain ⟨x, hx, hm⟩ := bind_some hm
    obtain ⟨p, hp, hm⟩ := bind_some hm
    obtain ⟨y, hy, hm⟩ := bind_some hm
    obtain ⟨n, hn, hm⟩ := bind_some hm
    obtain ⟨d, hd, hm⟩ := bind_some hm
    obtain ⟨d', hmd, e1⟩ := map_some hm
    cases e1
    unfold tAsg gSub
    refine goE (d := x.1) (e' := x.2) (Cf.start r s w) hx fun v env1 H1 e1 e2 c1 u1 => ?_
    rw [← e2] at hd hp hy
    obtain ⟨t, f3, rfl⟩ := join_get hd
    refine goPl ho.ok c1 hp fun t' u H2 h1' h2 x2 c2 => ?_
    rw [f3] at h1'
    cases h1'
    refine goB c2 hy fun v2 H3 e3 x3 s3 _ c3 => ?_
    rw [er_int (e3.trans (toI_some hn))]
    obtain ⟨a1, ts1, M⟩ := mod_run (c3.satE.get f3) hmd
    have := M.at_
    rw [h2] at this
    cases this
    obtain ⟨ds', g1, _⟩ := M.new
    obtain ⟨j, g2, rfl⟩ := map_some g1
    have hj := ixN_lt g2
    rw [erL_length] at hj
    have hu := List.getElem?_eq_getElem hj
    refine ⟨a1, vals ts1, n, j, rfl, rfl, M.nd, by rw [List.length_map, ← erL_length]; exact g2, ?_⟩
    obtain ⟨env2, w1, _, c4⟩ := mut_step (G := [v]) (F' := []) (G' := []) (ts' := ts1.set j v) c3 f3 M (by rw [g1, erL_set, e1]) (satL_iff.mpr fun y hy => by
        rcases List.mem_or_eq_of_mem_set hy with q | q
        · exact satL_iff.mp M.sat y q
        · subst q; exact c3.satF.1) trivial
      (fun b => by have := coL_set (b := b) (v := v) hu; simp only [coL]; omega) (fun b hb => by have := cuL_set (b := b) (v := v) hu; have := M.leu b; have := cuE_get (a := b) f3; simp only [cuL_append, cuL] at hb ⊢; omega)
    have ev : vals (ts1.set j v) = (vals ts1).set j v.val := by rw [vals, List.map_set]
    rw [ev] at c4
    exact k [] σ env2 _ (by rw [w1, e2]) c4 (fun _ _ => rfl) rfl
/-- a name read for the last time: its tree is handed on -/
@[simp] def eMove (i : Nat) : EM := fun env => (env[i]?.join).map fun d => (d, env.set i none)
theorem se_move {x : Str} (i : Nat) (hU : i ∉ U) (hN : X.N[i]? = some x := by rfl) (hv : Vis X.env.scope x := by first | exact .inl rfl | exact .inr (.inl rfl) | exact .inr (.inr rfl))
    (hd : (x == ("__debug__" : Str)) = false := by decide) (hcd : (x == ("__classdict__" : Str)) = false := by decide) : SE X U (.Name x pos) (eMove i) := PE.weak (pe_var (i := i) hN hv hd hcd) fun σ H Q ⟨env, d, e', hm, r, s, w, k⟩ => by
  obtain ⟨d', h1, e1⟩ := map_some hm
  cases e1
  obtain ⟨t, f1, f2⟩ := join_get h1
  refine ⟨t.val, r.2 i t f1, k t (env.set i none) H f2 erE_set ((Cf.start r s w).less r.drop ⟨s.get f1, trivial⟩ (s.set fun u hu => by cases hu) (fun a => ?_) fun a => ?_) fun j hj => ?_⟩
  · have := coE_set (a := a) none f1
    simp only [coL, oT] at this ⊢; omega
  · have := cuE_set (a := a) none f1
    simp only [cuL, oT] at this ⊢; omega
  · rw [List.getElem?_set, if_neg (fun (z : i = j) => hU (by rw [z]; exact hj))]
end
end Ow

namespace Ow
open PySem L2

/-! ### isinstance -/
def tyN : D → Option String
  | .s .non => some "NoneType"
  | .s (.bl _) => some "bool"
  | .s (.int _) => some "int"
  | .s (.str _) => some "str"
  | .n (.lst _) _ => some "list"
  | .n .tup _ => some "tuple"
  | .n (.dic _ _) _ => some "dict"
  | _ => none
@[simp] theorem tyN_c0  : tyN (.s .non) = some "NoneType" := rfl
@[simp] theorem tyN_c1 {b : Bool} : tyN (.s (.bl b)) = some "bool" := rfl
@[simp] theorem tyN_c2 {i : Int} : tyN (.s (.int i)) = some "int" := rfl
@[simp] theorem tyN_c3 {z : PySem.Str} : tyN (.s (.str z)) = some "str" := rfl
@[simp] theorem tyN_c4 {ds : List D} {o : Fl} : tyN (.n (.lst o) ds) = some "list" := rfl
@[simp] theorem tyN_c5 {ds : List D} : tyN (.n .tup ds) = some "tuple" := rfl
theorem ty_of {K : PySem.W.Frag} {H : Hp} {t : T} {n : String} (s : t.sat K H) (h : tyN t.er = some n) : TyX K H t.val (.type n) := by
  cases t with
  | s v =>
    rw [T.er] at h
    unfold hid at h
    cases v with
    | non => cases h; exact .base .non
    | bl b => cases h; exact .base (.bl b)
    | int i => cases h; exact .base (.int i)
    | str x => cases h; exact .base (.str x)
    | byt _ => cases h
    | flt _ => cases h
    | ref _ => cases h
    | ty _ => cases h
  | n k a ts =>
    rw [T.er] at h
    have h1 := s.1.1
    cases k with
    | lst o => cases h; exact .base (.lst h1)
    | tup => cases h; exact .base (.tup h1)
    | dic o ks => cases h; exact .base (.dK h1)
    | dct o ks => cases h
  | w z k a ts =>
    rw [T.er] at h
    have h1 := s.1
    cases z with
    | true =>
      cases k with
      | lst o =>
        cases h
        rcases h1 with (q | ⟨_, q⟩) | ⟨ob, its, n, e1, e2, _⟩
        · cases q
        · cases q
        · exact .kList e1 e2
      | tup =>
        cases h
        rcases h1 with (q | ⟨_, q⟩) | ⟨ob, its, n, e1, e2, _⟩
        · cases q
        · cases q
        · exact .kTuple e1 e2
      | dic o ks => cases h1
      | dct o ks => cases h1
    | false =>
      obtain ⟨ob, h1⟩ := h1
      cases k with
      | lst o => cases h; exact .base (.frz h1)
      | tup => cases h; exact .fTuple h1
      | dic o ks => cases h; exact .fDict h1
      | dct o ks => cases h
@[simp] def isiD (T : String) (d : D) : Option V := (tyN d).bind fun n => (kitB n T).map .bl
@[simp] def mIsi (T : String) (m : PM) : PM := fun env => (m env).bind fun d => (isiD T d).bind sv
theorem kit_ll : kitB "list" "list" = some true := by decide +kernel
section
variable {X : Cx} {e : Expr} {m : PM} {pos p q : Pos}
theorem sp_isi {x : Str} {n : String} (hm : X.mg "isinstance" = none) (hmT : X.mg x = none) (hb : bootBuiltins x = some (.type n)) (h : SB X e m) (hi : bootBuiltins "isinstance" = some (.builtin "isinstance")) (hg : Gl X "isinstance" := by rfl) (hgT : Gl X x := by rfl) (hn : x ≠ "__name__" := by decide) (hd : (x == ("__debug__" : Str)) = false := by decide)
    (he : starEach [e, .Name x q] X.env = (false, eval e X.env) :: starEach [.Name x q] X.env := by rfl) (he2 : starEach [.Name x q] X.env = (false, eval (.Name x q) X.env) :: starEach [] X.env := by rfl) (hpl : (backTo pos (starEach [.Name x q] X.env)).any (·.1) = false := by rfl) :
    SP X (.Call (.Name "isinstance" p) [e, .Name x q] [] pos) (mIsi n m) := PE.weak (pe_callB call_isi hg hm hi (pa_cons h (pa_cons (pe_bltn (v := .ty n) hgT hmT hb rfl hn hd) pa_nil he2) he) (by decide) (by decide) he hpl) fun σ H Q ⟨env, d, hm, r, s, k⟩ => by
  obtain ⟨c, h1, hm⟩ := bind_some hm
  obtain ⟨v, h2, hm⟩ := bind_some hm
  obtain ⟨h3, rfl⟩ := sv_some hm
  obtain ⟨a, h4, h2⟩ := bind_some h2
  obtain ⟨b, h5, rfl⟩ := map_some h2
  unfold tCB tCons
  refine ⟨env, c, h1, r, s, fun t H1 e1 x1 s1 _ => ?_⟩
  subst e1
  exact ⟨t.val, .ty n, _, .type n, b, rfl, .ty n, ty_of s1 h4, kit_ty h5, k (.s (.bl b)) H1 rfl x1 trivial own_s⟩
end

/-! ### a loop over an owned list whose items are changed -/
def forMD (j : Nat) (mb : SM) : List D → List D → Env → Option (List D × Env)
  | done, [], env => some (done, env)
  | done, d :: ds, env => (mb (env.set j (some d))).bind fun x => match x.1 with
    | .nx => (x.2[j]?.join).bind fun d' => forMD j mb (done ++ [d']) ds (x.2.set j none)
    | .ct => (x.2[j]?.join).bind fun d' => forMD j mb (done ++ [d']) ds (x.2.set j none)
    | _ => none
@[simp] def sForM (i j : Nat) (mb : SM) : SM := fun env => (env[i]?.join).bind fun d => match d with
  | .n (.lst .o) ds => (forMD j mb [] ds (env.set i none)).map fun x => (.nx, x.2.set i (some (.n (.lst .o) x.1)))
  | _ => none
section
variable {X : Cx} {pos p : Pos} {P : List Nat} {mb : SM} {body : List Stmt}
theorem skel_sat {K : PySem.W.Frag} {H : Hp} {a : Addr} {vs : List V} (h : H a = some (.lst vs)) : (T.n (.lst .o) a (vs.map T.s)).sat K H := by
  refine ⟨⟨?_, rfl⟩, ?_⟩
  · rw [vals, List.map_map, h]
    congr 1
    show HO.lst vs = HO.lst _
    congr 1
    simp [Function.comp_def, T.val]
  · rw [satL_iff]
    intro t ht
    obtain ⟨v, _, rfl⟩ := List.mem_map.mp ht
    trivial
theorem skel_vals {vs : List V} : vals (vs.map T.s) = vs := by
  induction vs with
  | nil => rfl
  | cons v vs ih => rw [List.map_cons, vals, List.map_cons]; exact congrArg _ ih
theorem skel_co {vs : List V} {a : Addr} : coL a (vs.map T.s) = 0 := by
  induction vs with
  | nil => rfl
  | cons v vs ih => rw [List.map_cons, coL, ih]; rfl
theorem skel_cu {vs : List V} {a : Addr} : cuL a (vs.map T.s) = 0 := by
  induction vs with
  | nil => rfl
  | cons v vs ih => rw [List.map_cons, cuL, ih]; rfl
theorem ss_forM {x y : Str} (i j : Nat) (hij : i ≠ j) (hc : X.calm = true) (hp : PassesOwn (model X.prog X.w) X.A X.env X.xe) (hN : X.N.Nodup) (hb : SSs X (j :: i :: P) body mb) (hP : j ∉ P) (hi : X.N[i]? = some x := by rfl) (hv : Vis X.env.scope x := by first | exact .inl rfl | exact .inr (.inl rfl) | exact .inr (.inr rfl))
    (hj : X.N[j]? = some y := by rfl) (hy : Loc X.env.scope y := by first | exact .inl rfl | exact .inr rfl) (hf : X.fn y = true ∨ X.env.scope.names.lookup y = some .local := by first | exact .inl rfl | exact .inr rfl | assumption)
    (hd : (x == ("__debug__" : Str)) = false := by decide) (hcd : (x == ("__classdict__" : Str)) = false := by decide) {ty : Pos} (hs : ∀ z, foldedSetIterable (.Name x p) X.env z = pure z := by intro _; rfl) :
    SS X P (.For (.Name y ty) (.Name x p) body [] pos) (sForM i j mb) :=
  PS.weak (ps_for hp hc (pi_list (pe_var (i := i) hi hv hd hcd)) (pg_name (i := j) hN hj hy hf) hb hs) fun De σ H ⟨env, o, e', hm, r, s, w, k⟩ => by
    obtain ⟨d, hd, hm⟩ := bind_some hm
    split at hm
    case h_2 => cases hm
    rename_i ds
    obtain ⟨z, hz, e1⟩ := map_some hm
    cases e1
    obtain ⟨t, h1, h2⟩ := join_get hd
    obtain ⟨a, ts, rfl, h3, h4, h5⟩ := rdN (s.get h1) h2 rfl (by simp)
    have hl : ts.length = ds.length := len_er h3
    have se := s.get h1
    refine ⟨.ref a, r.2 i _ h1, a, rfl, ⟨_, .inl (.inl h4)⟩, ?_⟩
    have hσi : σ[i]? = some (some (.ref a)) := r.2 i _ h1
    have ilt : i < env.length := (List.getElem?_eq_some_iff.mp h1).1
    -- what is at hand between two turns: the list's node, the items done, the items left
    refine ⟨fun n mm σi Hi => n ≤ ts.length ∧ mm = ts.length - n ∧ ∃ (dn rs : List T) (envi : TEnv), vals (dn ++ rs) = vals ts ∧ dn.length = n ∧ forMD j mb (erL dn) (erL rs) (erE envi) = some z ∧ Cf X.K H env σi Hi (T.n (.lst .o) a ((vals ts).map T.s) :: (dn ++ rs)) envi ∧ σi[i]? = some (some (.ref a)) ∧ ∀ q ∈ P, σi[q]? = σ[q]?,
      ⟨ts.length, Nat.zero_le _, rfl, [], ts, env.set i none, rfl, rfl, by rw [h3, erE_set]; exact hz, ?_, hσi, fun _ _ => rfl⟩, fun n mm σi Hi W => ?_⟩
    · refine (Cf.start r s w).less r.drop ⟨skel_sat h4, h5⟩ (s.set fun u hu => by cases hu) (fun b => ?_) fun b => ?_
      · have := coE_set (a := b) none h1
        simp only [coL, oT, T.co, skel_co, List.nil_append] at this ⊢
        omega
      · have := cuE_set (a := b) none h1
        simp only [cuL, oT, T.cu, skel_cu, List.nil_append] at this ⊢
        omega
    obtain ⟨le, ms, dn, rs, envi, hvs, hdn, hf, c, pi, pq⟩ := W
    have hnode : Hi a = some (.lst (vals ts)) := by
      have := c.satF.1.1.1
      rw [skel_vals] at this
      exact this
    have hlen : dn.length + rs.length = ts.length := by
      have := congrArg List.length hvs
      simpa using this
    cases rs with
    | nil =>
      refine .inl ⟨⟨_, .inl (.inl hnode), by rw [List.length_map]; simp at hlen; omega⟩, ?_⟩
      rw [erL, forMD] at hf
      cases hf
      rw [List.append_nil] at hvs c
      -- the list again
      have hil : i < envi.length := by
        have := c.rel.1
        have q := (List.getElem?_eq_some_iff.mp pi).1
        omega
      have r2 : Rel σi (envi.set i (some (T.n (.lst .o) a dn))) := by
        refine ⟨by rw [List.length_set, c.rel.1], fun q u hu => ?_⟩
        rw [List.getElem?_set] at hu
        by_cases e : i = q
        · subst e
          rw [if_pos rfl, if_pos hil] at hu
          cases hu
          exact pi
        · rw [if_neg e] at hu
          exact c.rel.2 q u hu
      refine k [] σi (envi.set i (some (T.n (.lst .o) a dn))) Hi (by rw [erE_set]; rfl) (c.less r2 trivial (c.satE.set fun u hu => ?_) (fun b => ?_) fun b => ?_) pq rfl
      · cases hu
        exact ⟨⟨by rw [hvs]; exact hnode, rfl⟩, c.satF.2⟩
      · have := set_co (env := envi) (j := i) (t := T.n (.lst .o) a dn) (a := b)
        simp only [coL, T.co, skel_co] at this ⊢
        omega
      · have := set_cu (env := envi) (j := i) (t := T.n (.lst .o) a dn) (a := b)
        simp only [cuL, T.cu, skel_cu] at this ⊢
        omega
    | cons u rs =>
      have hn : n < ts.length := by simp at hlen; omega
      have hx : (vals ts)[n]? = some u.val := by
        rw [← hvs, vals, List.map_append, List.getElem?_append_right (by rw [List.length_map]; omega), List.length_map, hdn, Nat.sub_self]
        rfl
      refine .inr ⟨⟨_, _, .inl (.inl hnode), hx⟩, fun σ' H' => ∃ m', m' < mm ∧ (n + 1 ≤ ts.length ∧ m' = ts.length - (n + 1) ∧ ∃ (dn rs : List T) (envi : TEnv), vals (dn ++ rs) = vals ts ∧ dn.length = n + 1 ∧ forMD j mb (erL dn) (erL rs) (erE envi) = some z ∧ Cf X.K H env σ' H' (T.n (.lst .o) a ((vals ts).map T.s) :: (dn ++ rs)) envi ∧ σ'[i]? = some (some (.ref a)) ∧ ∀ q ∈ P, σ'[q]? = σ[q]?), fun σ' H' h => h, fun x H3 hy => ?_⟩
      obtain ⟨rfl, hy⟩ := hy
      have hy2 := hy _ (.inl (.inl hnode))
      rw [hx] at hy2
      cases hy2
      rw [erL, forMD] at hf
      obtain ⟨y2, hb2, hf⟩ := bind_some hf
      have sF := c.satF
      have sR := satL_append.mp sF.2
      have c2 : Cf X.K H env (σi.set j (some u.val)) H3 (T.n (.lst .o) a ((vals ts).map T.s) :: (dn ++ rs)) (envi.set j (some u)) := c.less c.rel.set ⟨sF.1, satL_append.mpr ⟨sR.1, sR.2.2⟩⟩ (c.satE.set fun v hv => by cases hv; exact sR.2.1) (fun b => by
          have := set_co (env := envi) (j := j) (t := u) (a := b)
          simp only [coL, coL_append] at this ⊢
          omega) fun b => by
          have := set_cu (env := envi) (j := j) (t := u) (a := b)
          simp only [cuL, cuL_append] at this ⊢
          omega
      refine ⟨envi.set j (some u), y2.1, y2.2, by rw [erE_set]; exact hb2, c2.rel, c2.satE, c2.base, fun F σ3 env3 H4 e3 c4 p4 => ?_⟩
      have c5 := c2.step c4
      have pii : σ3[i]? = some (some (.ref a)) := by rw [p4 i (by simp), List.getElem?_set, if_neg (fun q => hij q.symm)]; exact pi
      have p5 : ∀ q ∈ P, σ3[q]? = σ[q]? := fun q hq => by
        rw [p4 q (by simp [hq]), List.getElem?_set, if_neg (fun e => hP (by rw [e]; exact hq))]
        exact pq q hq
      have fin : F = [] → ((y2.2[j]?.join).bind fun d' => forMD j mb (erL dn ++ [d']) (erL rs) (y2.2.set j none)) = some z → ∃ m', m' < mm ∧ (n + 1 ≤ ts.length ∧ m' = ts.length - (n + 1) ∧ ∃ (dn rs : List T) (envi : TEnv), vals (dn ++ rs) = vals ts ∧ dn.length = n + 1 ∧ forMD j mb (erL dn) (erL rs) (erE envi) = some z ∧ Cf X.K H env σ3 H4 (T.n (.lst .o) a ((vals ts).map T.s) :: (dn ++ rs)) envi ∧ σ3[i]? = some (some (.ref a)) ∧ ∀ q ∈ P, σ3[q]? = σ[q]?) := fun hF hf => by
        subst hF
        obtain ⟨d', hd', hf⟩ := bind_some hf
        rw [← e3] at hd' hf
        obtain ⟨u', g1, rfl⟩ := join_get hd'
        have hval : u'.val = u.val := by
          have := c5.rel.2 j u' g1
          rw [p4 j (by simp), List.getElem?_set, if_pos rfl] at this
          split at this
          · exact (Option.some.inj (Option.some.inj this)).symm
          · cases this
        refine ⟨mm - 1, by omega, by omega, by omega, dn ++ [u'], rs, env3.set j none, ?_, by simp [hdn], ?_, ?_, pii, p5⟩
        · rw [← hvs]
          simp [vals, hval]
        · rw [erL_append, erE_set]
          exact hf
        · have sF5 := c5.satF
          have sR5 := satL_append.mp sF5.2
          refine c5.less c5.rel.drop ⟨sF5.1, satL_append.mpr ⟨satL_append.mpr ⟨sR5.1, c5.satE.get g1, trivial⟩, sR5.2⟩⟩ (c5.satE.set fun v hv => by cases hv) (fun b => ?_) fun b => ?_
          · have := coE_set (a := b) none g1
            simp only [coL, coL_append, oT, List.nil_append] at this ⊢
            omega
          · have := cuE_set (a := b) none g1
            simp only [cuL, cuL_append, oT, List.nil_append] at this ⊢
            omega
      obtain ⟨yo, ye⟩ := y2
      cases yo with
      | nx => exact fun hF => fin hF hf
      | ct => exact fun hF => fin hF hf
      | bk => cases hf
      | rt d => cases hf
end
end Ow

namespace Ow
open PySem L2 PyProof.Rows
/-! ### what the printed terms name -/
section
variable {X : Cx} {a b e : Expr} {ma mb m : PM} {pos : Pos}
def fNeg : D → Option V
  | .s (.int i) => some (.int (-i))
  | _ => none
@[simp] theorem fNeg_c0 {i : Int} : fNeg (.s (.int i)) = some (.int (-i)) := rfl
theorem sp_neg (ha : SB X a ma) : SP X (.UnaryOp .USub a pos) (mOp1 fNeg ma) := PE.weak (pe_un un_neg ha) fun σ H Q ⟨env, d, hm, hr, hs, k⟩ => by
  obtain ⟨x, hx, hm⟩ := bind_some hm
  obtain ⟨v, hv, hm⟩ := bind_some hm
  obtain ⟨s1, rfl⟩ := sv_some hm
  refine ⟨env, x, hx, hr, hs, fun t H1 e1 x1 s2 _ => ?_⟩
  subst e1
  unfold fNeg at hv
  split at hv
  · rename_i i e
    cases hv
    rw [er_int e]
    exact ⟨i, rfl, k (.s (.int (-i))) H1 rfl x1 trivial own_s⟩
  · cases hv
/-! comparisons as tests -/
variable {m1 m2 : EM} {k : Nat} {P : List Nat}
theorem st_cmp {op : CmpOp} {r : R2} {f : D → D → Option V} (ho : OpR X (compareOp op) r) (hf : Op2 X.K r f) (ha : SB X a ma) (hb : SB X b mb) (hm : behindInMarks op b = false) : ST X (.Compare a [op] [b] pos) (mB (mOp2 f ma mb)) :=
  PT.weak (pt_cmpR ho ha hb hm) fun σ H Q ⟨env, c, hc, hr, hs, k⟩ => by
    obtain ⟨d, hd, hc⟩ := bind_some hc
    have hd2 := toB_some hc
    subst hd2
    exact rd2 (ta := trB X.K ma) (tb := trB X.K mb) (Q := fun x H' => ∃ k, x = .bl k ∧ Q k H') hf ⟨env, .s (.bl c), hd, hr, hs, fun t H' e1 x1 s1 _ => ⟨c, by rw [er_scl e1 rfl]; rfl, k H' x1⟩⟩
theorem set_cmp {op : CmpOp} {r : R2} {f : D → D → Option V} (ho : OpR X (compareOp op) r) (hf : Op2 X.K r f) (ha : SE X [] a m1) (hb : SE X [] b m2) (hm : behindInMarks op b = false) : SET X (.Compare a [op] [b] pos) (eB (eOp2 f m1 m2)) :=
  PT.weak (pt_cmpR ho ha hb hm) fun σ H Q ⟨env, c, e', hc, hr, hs, w, k⟩ => by
    obtain ⟨x, hx, hc⟩ := bind_some hc
    obtain ⟨b', hb', e1⟩ := map_some hc
    cases e1
    exact eop_rd (U := []) (Q := fun x H' => ∃ k, x = .bl k ∧ Q k H') hf ⟨env, x.1, x.2, hx, hr, hs, w, fun t env' H' e1 e2 c' _ => ⟨c, by rw [er_scl (e1.trans (toB_some hb')) rfl]; rfl, k env' H' e2 c'.toNil⟩⟩
theorem st_eq (hr : Room k X.A) (ha : SB X a ma) (hb : SB X b mb) : ST X (.Compare a [.Eq] [b] pos) (mB (mOp2 fEq ma mb)) := st_cmp (op_eqD (hu64 hr)) op2_eq ha hb (nomark _)
theorem st_ne (hr : Room k X.A) (ha : SB X a ma) (hb : SB X b mb) : ST X (.Compare a [.NotEq] [b] pos) (mB (mOp2 fNe ma mb)) := st_cmp (op_neD (hu64 hr)) op2_ne ha hb (nomark _)
theorem st_in (hr : Room k X.A) (ha : SB X a ma) (hb : SB X b mb) (hm : behindInMarks .In b = false := by with_unfolding_all rfl) : ST X (.Compare a [.In] [b] pos) (mB (mOp2 fIn ma mb)) := st_cmp (op_inD (hu65 hr)) op2_in ha hb hm
theorem st_notIn (hr : Room k X.A) (ha : SB X a ma) (hb : SB X b mb) (hm : behindInMarks .NotIn b = false := by with_unfolding_all rfl) : ST X (.Compare a [.NotIn] [b] pos) (mB (mOp2 fNotIn ma mb)) := st_cmp (op_notInD (hu65 hr)) op2_notIn ha hb hm
theorem st_isN (ha : SB X a ma) (hb : SB X b mb) : ST X (.Compare a [.Is] [b] pos) (mB (mOp2 fIsN ma mb)) := st_cmp op_isN op2_isN ha hb (nomark _)
theorem st_notN (ha : SB X a ma) (hb : SB X b mb) : ST X (.Compare a [.IsNot] [b] pos) (mB (mOp2 fNotN ma mb)) := st_cmp op_notN op2_notN ha hb (nomark _)
theorem st_lt (ha : SB X a ma) (hb : SB X b mb) : ST X (.Compare a [.Lt] [b] pos) (mB (mOp2 fLt ma mb)) := st_cmp op_lt op2_I0 ha hb (nomark _)
theorem st_le (ha : SB X a ma) (hb : SB X b mb) : ST X (.Compare a [.LtE] [b] pos) (mB (mOp2 fLe ma mb)) := st_cmp op_le op2_I0 ha hb (nomark _)
theorem st_gt (ha : SB X a ma) (hb : SB X b mb) : ST X (.Compare a [.Gt] [b] pos) (mB (mOp2 fGt ma mb)) := st_cmp op_gt op2_I0 ha hb (nomark _)
theorem st_ge (ha : SB X a ma) (hb : SB X b mb) : ST X (.Compare a [.GtE] [b] pos) (mB (mOp2 fGe ma mb)) := st_cmp op_ge op2_I0 ha hb (nomark _)
theorem set_eq (hr : Room k X.A) (ha : SE X [] a m1) (hb : SE X [] b m2) : SET X (.Compare a [.Eq] [b] pos) (eB (eOp2 fEq m1 m2)) := set_cmp (op_eqD (hu64 hr)) op2_eq ha hb (nomark _)
theorem set_ne (hr : Room k X.A) (ha : SE X [] a m1) (hb : SE X [] b m2) : SET X (.Compare a [.NotEq] [b] pos) (eB (eOp2 fNe m1 m2)) := set_cmp (op_neD (hu64 hr)) op2_ne ha hb (nomark _)
theorem set_lt (ha : SE X [] a m1) (hb : SE X [] b m2) : SET X (.Compare a [.Lt] [b] pos) (eB (eOp2 fLt m1 m2)) := set_cmp op_lt op2_I0 ha hb (nomark _)
theorem set_le (ha : SE X [] a m1) (hb : SE X [] b m2) : SET X (.Compare a [.LtE] [b] pos) (eB (eOp2 fLe m1 m2)) := set_cmp op_le op2_I0 ha hb (nomark _)
theorem set_gt (ha : SE X [] a m1) (hb : SE X [] b m2) : SET X (.Compare a [.Gt] [b] pos) (eB (eOp2 fGt m1 m2)) := set_cmp op_gt op2_I0 ha hb (nomark _)
theorem set_ge (ha : SE X [] a m1) (hb : SE X [] b m2) : SET X (.Compare a [.GtE] [b] pos) (eB (eOp2 fGe m1 m2)) := set_cmp op_ge op2_I0 ha hb (nomark _)
/-! x op= e -/
@[simp] def sAugF (i : Nat) (f : D → D → Option V) (m : PM) : SM := fun env => (m env).bind fun y => (env[i]?.join).bind fun x => (f x y).bind fun v => (sv v).map fun d => (.nx, env.set i (some d))
theorem ss_augF {x : Str} {pos' : Pos} {op : Operator} {r : R2} {f : D → D → Option V} (i : Nat) (hN : X.N.Nodup) (hP : i ∉ P) (ho : PIp X op r) (hf : Op2 X.K r f) (h : SB X e m) (hi : X.N[i]? = some x := by rfl) (hx : Loc X.env.scope x := by first | exact .inl rfl | exact .inr rfl)
    (hfn : X.fn x = true ∨ X.env.scope.names.lookup x = some .local := by first | exact .inl rfl | exact .inr rfl | assumption) : SS X P (.AugAssign (.Name x pos') op e pos) (sAugF i f m) := PS.weak (ps_aug (i := i) hN hi hx h ho hfn) fun De σ H ⟨env, o, e', hm, r, s, w, k⟩ => by
  obtain ⟨y, hy, hm⟩ := bind_some hm
  obtain ⟨z, hz, hm⟩ := bind_some hm
  obtain ⟨v, hv, hm⟩ := bind_some hm
  obtain ⟨d, hd, e1⟩ := map_some hm
  cases e1
  obtain ⟨hs1, rfl⟩ := sv_some hd
  obtain ⟨t, h1, rfl⟩ := join_get hz
  refine ⟨_, r.2 i _ h1, env, _, hy, r, s, fun u H1 e1 x1 s1 _ => ?_⟩
  subst e1
  have c1 : Cf X.K H env σ H1 [] env := (Cf.start r s w).ex x1
  refine hf t u v H1 _ (sat_ex x1 (s.get h1)) s1 hv ?_
  refine k [] (σ.set i (some v)) (env.set i (some (.s v))) H1 ?_ (c1.less (Rel.set (t := .s v) c1.rel) trivial (c1.satE.set fun u hu => by cases hu; trivial) (fun a' => ?_) fun a' => ?_) (set_pin hP) rfl
  · rw [erE_set]
    show (erE env).set i (some (T.er (.s v))) = _
    rw [T.er, hid_scl hs1]
  · have := set_co (env := env) (j := i) (t := .s v) (a := a')
    simp only [coL, T.co] at this ⊢; omega
  · have := set_cu (env := env) (j := i) (t := .s v) (a := a')
    simp only [cuL, T.cu] at this ⊢; omega
theorem ipw_mul : PIp X .Mult (rI CMulW fun i j => .int (i * j)) := opI fun _ _ _ _ _ _ _ hc q => imul_int q hc.ok
theorem ipw_add : PIp X .Add (rI0 fun i j => .int (i + j)) := iop_add
theorem ipw_sub : PIp X .Sub (rI0 fun i j => .int (i - j)) := iop_sub
theorem ss_augAdd {x : Str} {pos' : Pos} (i : Nat) (hN : X.N.Nodup) (hP : i ∉ P) (h : SB X e m) (hi : X.N[i]? = some x := by rfl) (hx : Loc X.env.scope x := by first | exact .inl rfl | exact .inr rfl) (hfn : X.fn x = true ∨ X.env.scope.names.lookup x = some .local := by first | exact .inl rfl | exact .inr rfl | assumption) :
    SS X P (.AugAssign (.Name x pos') .Add e pos) (sAugF i fAdd m) := ss_augF i hN hP ipw_add op2_I0 h hi hx hfn
theorem ss_augSub {x : Str} {pos' : Pos} (i : Nat) (hN : X.N.Nodup) (hP : i ∉ P) (h : SB X e m) (hi : X.N[i]? = some x := by rfl) (hx : Loc X.env.scope x := by first | exact .inl rfl | exact .inr rfl) (hfn : X.fn x = true ∨ X.env.scope.names.lookup x = some .local := by first | exact .inl rfl | exact .inr rfl | assumption) :
    SS X P (.AugAssign (.Name x pos') .Sub e pos) (sAugF i fSub m) := ss_augF i hN hP ipw_sub op2_I0 h hi hx hfn
theorem ss_augMul {x : Str} {pos' : Pos} (i : Nat) (hN : X.N.Nodup) (hP : i ∉ P) (h : SB X e m) (hi : X.N[i]? = some x := by rfl) (hx : Loc X.env.scope x := by first | exact .inl rfl | exact .inr rfl) (hfn : X.fn x = true ∨ X.env.scope.names.lookup x = some .local := by first | exact .inl rfl | exact .inr rfl | assumption) :
    SS X P (.AugAssign (.Name x pos') .Mult e pos) (sAugF i fMul m) := ss_augF i hN hP ipw_mul (op2_I fun _ _ h => of_decide_eq_true h) h hi hx hfn
end
theorem okb {N : List Str} {sc scope : Scope} {own : List (Str × Nat)} (h : blkC N sc scope own = true) : blkC N sc scope own = true := h
theorem lnl : ∀ (env : Env) (ds : List D), lNil env = some ds → ds.length = 0 := fun env ds h => by cases h; rfl
theorem lcl {m : PM} {n : LM} {k : Nat} (h : ∀ (env : Env) (ds : List D), n env = some ds → ds.length = k) : ∀ (env : Env) (ds : List D), lCons m n env = some ds → ds.length = k + 1 := fun env ds e => by
  obtain ⟨x, _, e⟩ := bind_some e
  obtain ⟨ys, hy, rfl⟩ := map_some e
  rw [List.length_cons, h env ys hy]
theorem bt_sum : bootBuiltins "sum" = some (.builtin "sum") := by decide +kernel
theorem bt_len : bootBuiltins "len" = some (.builtin "len") := by decide +kernel
theorem bt_min : bootBuiltins "min" = some (.builtin "min") := by decide +kernel
theorem bt_max : bootBuiltins "max" = some (.builtin "max") := by decide +kernel
theorem bt_abs : bootBuiltins "abs" = some (.builtin "abs") := by decide +kernel
theorem bt_any : bootBuiltins "any" = some (.builtin "any") := by decide +kernel
theorem bt_all : bootBuiltins "all" = some (.builtin "all") := by decide +kernel
theorem bt_sorted : bootBuiltins "sorted" = some (.builtin "sorted") := by decide +kernel
theorem bt_isinstance : bootBuiltins "isinstance" = some (.builtin "isinstance") := by decide +kernel
theorem bt_list : bootBuiltins "list" = some (.type "list") := by decide +kernel
theorem bt_tuple : bootBuiltins "tuple" = some (.type "tuple") := by decide +kernel
theorem bt_int : bootBuiltins "int" = some (.type "int") := by decide +kernel
theorem bt_bool : bootBuiltins "bool" = some (.type "bool") := by decide +kernel
theorem bt_str : bootBuiltins "str" = some (.type "str") := by decide +kernel
theorem bt_dict : bootBuiltins "dict" = some (.type "dict") := by decide +kernel
/-- the promise of a law: True, whatever the script -/
def scriptT (K : PySem.W.Frag) (H : Hp) (a : Addr) (ns : List Int) : Prop := ∃ t : T, t.val = .ref a ∧ t.er = .n (.lst .w) (ns.map fun i => .s (.int i)) ∧ t.sat K H
theorem er_ints (ns : List Int) : erL (ns.map fun i => T.s (.int i)) = ns.map fun i => D.s (.int i) := by
  rw [erL_map, List.map_map]
  rfl
theorem script_t {K : PySem.W.Frag} {H : Hp} {a : Addr} {ns : List Int} (ho : Only H) (h : SqL K H a (ns.map V.int)) : scriptT K H a ns := by
  have hs : ∀ {H}, satL K H (ns.map fun i => T.s (.int i)) := satL_iff.mpr fun t ht => by
    obtain ⟨i, _, rfl⟩ := List.mem_map.mp ht
    trivial
  rcases h with (q | ⟨o, q⟩) | q
  · rcases ho a with z | ⟨o, xs, z⟩
    · rw [z] at q; cases q
    · rw [z] at q; cases q
  · exact ⟨.w false (.lst .w) a (ns.map fun i => T.s (.int i)), rfl, by rw [T.er, er_ints]; rfl, ⟨o, by rw [vals_ints]; exact q⟩, hs⟩
  · refine ⟨.w true (.lst .w) a (ns.map fun i => T.s (.int i)), rfl, by rw [T.er, er_ints]; rfl, ?_, hs⟩
    show SqL K (fun _ => none) a (vals _)
    rw [vals_ints]
    exact .inr q
/-- the law's own end: its def answers True -/
def scriptD (ns : List Int) : D := .n (.lst .w) (ns.map fun i => .s (.int i))
def spLaw (K : PySem.W.Frag) (f : FM) : Sp := fun vs H Q E => ∃ (a : Addr) (ns : List Int), vs = [.ref a] ∧ Only H ∧ SqL K H a (ns.map V.int) ∧ f [scriptD ns] = some (.s (.bl true)) ∧ ∀ H', Q (.bl true) H'
theorem frz_ints (ns : List Int) : (ns.map fun i => D.s (.int i)).map D.frz = ns.map fun i => D.s (.int i) := by
  rw [List.map_map]
  congr 1
theorem frzD_map : ∀ ds : List D, frzD ds = ds.map D.frz
  | [] => rfl
  | d :: ds => by rw [frzD, frzD_map ds, List.map_cons]
theorem law_end {P : Program} {w : World} {K : PySem.W.Frag} {mg : Str → Option Value} {base : Heap} {k : Nat} {f : Addr} {fd : FuncData} {x : Str} {fm : FM} (h : FnOk P w K mg base CX0 k f fd [x] (spP K 1 fm)) : FnOk P w K mg base CX0 k f fd [x] (spLaw K fm) := by
  refine ⟨fun vs H Q E ⟨a, ns, e, _⟩ => by rw [e]; rfl, fun A outer s H args us vs Q E hr e0 hb r ⟨a, ns, e, ho, hs, hf, q⟩ => h.run A outer s H args us vs Q E hr e0 hb r ?_⟩
  obtain ⟨t, h1, h2, h3⟩ := script_t ho hs
  refine ⟨[t], .s (.bl true), by rw [e, vals, List.map_cons, h1]; rfl, rfl, ⟨h3, trivial⟩, ?_, fun u H' eu x su _ => ?_⟩
  · rw [erL, erL, frzD, frzD, h2, D.frz, frzD_map, frz_ints]
    exact hf
  · rw [er_scl eu rfl]
    exact q H'
end Ow

namespace Ow
open PySem L2

/-! ### numbers -/
section
variable {i j : Int}
theorem fI_ok {C : Int → Int → Bool} {g : Int → Int → V} (h : C i j = true) : fI C g (.s (.int i)) (.s (.int j)) = some (g i j) := if_pos h
@[simp] theorem fAdd_int : fAdd (.s (.int i)) (.s (.int j)) = some (.int (i + j)) := rfl
@[simp] theorem fSub_int : fSub (.s (.int i)) (.s (.int j)) = some (.int (i - j)) := rfl
@[simp] theorem fLt_int : fLt (.s (.int i)) (.s (.int j)) = some (.bl (decide (i < j))) := rfl
@[simp] theorem fLe_int : fLe (.s (.int i)) (.s (.int j)) = some (.bl (decide (i ≤ j))) := rfl
@[simp] theorem fGt_int : fGt (.s (.int i)) (.s (.int j)) = some (.bl (decide (j < i))) := rfl
@[simp] theorem fGe_int : fGe (.s (.int i)) (.s (.int j)) = some (.bl (decide (j ≤ i))) := rfl
@[simp] theorem fMul_int (h : CMulW i j) : fMul (.s (.int i)) (.s (.int j)) = some (.int (i * j)) := fI_ok (decide_eq_true h)
@[simp] theorem fMod_int (h : 0 < j) : fMod (.s (.int i)) (.s (.int j)) = some (.int (i % j)) := fI_ok (C := fun _ j => decide (0 < j)) (decide_eq_true h)
theorem fDiv_int (h : 0 < j) (h2 : j.natAbs.log2 < 9000) : fDiv (.s (.int i)) (.s (.int j)) = some (.int (i / j)) := fI_ok (C := fun i j => decide (0 < j ∧ j.natAbs.log2 < 9000)) (decide_eq_true ⟨h, h2⟩)
theorem fPow_int (h : 0 ≤ j ∧ j ≤ 1000000 ∧ i.natAbs < 2 ^ 64) : fPow (.s (.int i)) (.s (.int j)) = some (.int (i ^ j.toNat)) := fI_ok (C := fun i j => decide (0 ≤ j ∧ j ≤ 1000000 ∧ i.natAbs < 2 ^ 64)) (decide_eq_true h)
end
/-- log2 n < k from n < 2 ^ k, k = 0 too -/
theorem log2_lt {n k : Nat} (hk : 0 < k) (h : n < 2 ^ k) : n.log2 < k := PySem.Flt.log2_lt_of hk h
theorem div_ok {j : Int} (h : 0 < j) (h2 : j < 2 ^ 300) : j.natAbs.log2 < 9000 := Nat.lt_trans (log2_lt (k := 300) (by decide) (by omega)) (by decide)
theorem mul_ok {i j : Int} (h1 : i.natAbs < 2 ^ 300) (h2 : j.natAbs < 2 ^ 300) : CMulW i j := wide_mul h1 h2 (by decide) (by decide) (by decide)

/-! ### data that stands for plain Lean values -/
class Enc (α : Type) where
  en : Fl → α → D
  pd : α → PyData
  dep : Nat
  dat : ∀ o x, (en o x).dat = some (pd x)
  can : ∀ x, (pd x).canLay0 = true
  deep : ∀ x, (pd x).depth ≤ dep
  inj : ∀ x y, PyData.eqv (pd x) (pd y) = true ↔ x = y
  frz : ∀ o x, (en o x).frz = en o.frz x
  noF : ∀ x, (en .o x).noF = true
  pureS : ∀ o x, o ≠ .o → (en o x).pure = true
open Enc
instance : Enc Int where
  en _ i := .s (.int i)
  pd i := .int i
  dep := 0
  dat _ _ := rfl
  can _ := rfl
  deep _ := Nat.le_refl _
  inj x y := by simp [PyData.eqv]
  frz _ _ := rfl
  noF _ := rfl
  pureS _ _ _ := rfl
instance : Enc Bool where
  en _ i := .s (.bl i)
  pd i := .bool i
  dep := 0
  dat _ _ := rfl
  can _ := rfl
  deep _ := Nat.le_refl _
  inj x y := by simp [PyData.eqv]
  frz _ _ := rfl
  noF _ := rfl
  pureS _ _ _ := rfl
theorem datL_map {α : Type} [Enc α] (o : Fl) : ∀ xs : List α, datL (xs.map (en o)) = some (xs.map pd)
  | [] => rfl
  | x :: xs => by rw [List.map_cons, datL, dat, datL_map o xs]; rfl
theorem canL_map {α : Type} [Enc α] : ∀ xs : List α, PyData.canLayAll0 (xs.map pd) = true
  | [] => rfl
  | x :: xs => by rw [List.map_cons, PyData.canLayAll0, can, canL_map xs]; rfl
theorem deepL_map {α : Type} [Enc α] : ∀ xs : List α, PyData.depthAll (xs.map pd) ≤ dep α
  | [] => Nat.zero_le _
  | x :: xs => by rw [List.map_cons, PyData.depthAll]; exact Nat.max_le.mpr ⟨deep x, deepL_map xs⟩
theorem injL_map {α : Type} [Enc α] : ∀ xs ys : List α, PyData.eqvAll (xs.map pd) (ys.map pd) = true ↔ xs = ys
  | [], [] => by simp [PyData.eqvAll]
  | [], y :: ys => by simp [PyData.eqvAll]
  | x :: xs, [] => by simp [PyData.eqvAll]
  | x :: xs, y :: ys => by
    rw [List.map_cons, List.map_cons, PyData.eqvAll, Bool.and_eq_true, inj, injL_map xs ys]
    simp
theorem frzL_map {α : Type} [Enc α] (o : Fl) (xs : List α) : frzD (xs.map (en o)) = xs.map (en o.frz) := by
  rw [frzD_map, List.map_map]
  exact List.map_congr_left fun x _ => frz o x
theorem noFL_map {α : Type} [Enc α] : ∀ xs : List α, noFL (xs.map (en .o)) = true
  | [] => rfl
  | x :: xs => by rw [List.map_cons, noFL, noF, noFL_map xs]; rfl
theorem pureL_map {α : Type} [Enc α] {o : Fl} (h : o ≠ .o) : ∀ xs : List α, pureL (xs.map (en o)) = true
  | [] => rfl
  | x :: xs => by rw [List.map_cons, pureL, pureS o x h, pureL_map h xs]; rfl
instance {α : Type} [Enc α] : Enc (List α) where
  en o xs := .n (.lst o) (xs.map (en o))
  pd xs := .list (xs.map pd)
  dep := dep α + 1
  dat o xs := by rw [D.dat, datL_map]; rfl
  can xs := by rw [PyData.canLay0, canL_map]
  deep xs := by rw [PyData.depth]; exact Nat.add_le_add_right (deepL_map xs) 1
  inj xs ys := by rw [PyData.eqv, injL_map]
  frz o xs := by rw [D.frz, frzL_map]; rfl
  noF xs := by rw [D.noF, noFL_map]; rfl
  pureS o xs h := by
    rw [D.pure, pureL_map h]
    cases o <;> first | rfl | exact absurd rfl h
instance {α β : Type} [Enc α] [Enc β] : Enc (α × β) where
  en o x := .n .tup [en o x.1, en o x.2]
  pd x := .tuple [pd x.1, pd x.2]
  dep := max (dep α) (dep β) + 1
  dat o x := by simp [D.dat, datL, dat]
  can x := by simp [PyData.canLay0, PyData.canLayAll0, can]
  deep x := by
    have := deep x.1
    have := deep x.2
    simp only [PyData.depth, PyData.depthAll]
    omega
  inj x y := by
    simp only [PyData.eqv, PyData.eqvAll, Bool.and_eq_true, inj, Bool.and_true]
    exact Prod.ext_iff.symm
  frz o x := by simp [D.frz, frzD, frz]
  noF x := by simp [D.noF, noFL, noF]
  pureS o x h := by simp [D.pure, pureL, pureS o _ h]
@[simp] theorem en_int (o : Fl) (i : Int) : en o i = D.s (.int i) := rfl
@[simp] theorem en_bool (o : Fl) (i : Bool) : en o i = D.s (.bl i) := rfl
theorem en_list {α : Type} [Enc α] (o : Fl) (xs : List α) : en o xs = D.n (.lst o) (xs.map (en o)) := rfl
theorem en_pair {α β : Type} [Enc α] [Enc β] (o : Fl) (x : α × β) : en o x = D.n .tup [en o x.1, en o x.2] := rfl
theorem shaped_en {α : Type} [Enc α] (h : dep α ≤ 64) (x : α) : SeqAt.shaped (pd x) = true := by
  unfold SeqAt.shaped
  rw [can, decide_eq_true (Nat.le_trans (deep x) h)]
  rfl
theorem eqB_en {α : Type} [Enc α] [DecidableEq α] (h : dep α ≤ 64) (o o' : Fl) (x y : α) : fEqB (en o x) (en o' y) = some (decide (x = y)) := by
  unfold fEqB
  rw [dat, dat]
  simp only [Option.bind_some]
  rw [shaped_en h, shaped_en h]
  simp only [Bool.and_self, if_true]
  congr 1
  rw [Bool.eq_iff_iff, inj, decide_eq_true_iff]
theorem eq_en {α : Type} [Enc α] [DecidableEq α] (h : dep α ≤ 64) (o o' : Fl) (x y : α) : fEq (en o x) (en o' y) = some (.bl (decide (x = y))) := by
  rw [fEq, eqB_en h]; rfl
theorem ne_en {α : Type} [Enc α] [DecidableEq α] (h : dep α ≤ 64) (o o' : Fl) (x y : α) : fNe (en o x) (en o' y) = some (.bl (!decide (x = y))) := by
  rw [fNe, eqB_en h]; rfl
@[simp] theorem eq_int (i j : Int) : fEq (.s (.int i)) (.s (.int j)) = some (.bl (decide (i = j))) := eq_en (α := Int) (by decide) .s .s i j
@[simp] theorem ne_int (i j : Int) : fNe (.s (.int i)) (.s (.int j)) = some (.bl (!decide (i = j))) := ne_en (α := Int) (by decide) .s .s i j
theorem in_en {α : Type} [Enc α] [DecidableEq α] (h : dep α ≤ 63) (o o' : Fl) (x : α) (ys : List α) : fIn (en o x) (en o' ys) = some (.bl (decide (x ∈ ys))) := by
  unfold fIn
  rw [dat, en_list]
  simp only [Option.bind_some]
  rw [datL_map, Option.bind_some, shaped_en (by omega)]
  have hl : SeqAt.shaped (.list (ys.map pd)) = true := shaped_en (α := List α) (by show dep α + 1 ≤ 64; omega) ys
  rw [hl]
  simp only [Bool.and_self, if_true]
  congr 2
  rw [Bool.eq_iff_iff, List.any_map, List.any_eq_true, decide_eq_true_iff]
  constructor
  · rintro ⟨y, hy, e⟩
    have := (inj y x).mp e
    rw [← this]; exact hy
  · intro hx
    exact ⟨x, hx, (inj x x).mpr rfl⟩
theorem intsD_map : ∀ xs : List Int, intsD (xs.map fun i => D.s (.int i)) = some xs
  | [] => rfl
  | x :: xs => by rw [List.map_cons, intsD, intsD_map xs]; rfl
theorem boolsD_map : ∀ xs : List Bool, boolsD (xs.map fun i => D.s (.bl i)) = some xs
  | [] => rfl
  | x :: xs => by rw [List.map_cons, boolsD, boolsD_map xs]; rfl

/-! ### loops -/
theorem forD_inv {α : Type} {g : Tg} {mb : SM} {en : α → D} {xs : List α} {e : Env} (I : List α → Env → Prop) (h0 : I [] e)
    (hs : ∀ pre x post e, xs = pre ++ x :: post → I pre e → ∃ e1 e' o, bD g (en x) e = some e1 ∧ mb e1 = some (o, e') ∧ (o = .nx ∨ o = .ct) ∧ I (pre ++ [x]) e') : ∃ e', forD g mb (xs.map en) e = some (.nx, e') ∧ I xs e' := by
  suffices h : ∀ (post pre : List α) (e : Env), xs = pre ++ post → I pre e → ∃ e', forD g mb (post.map en) e = some (.nx, e') ∧ I xs e' from h xs [] e rfl h0
  intro post
  induction post with
  | nil =>
    intro pre e hx hi
    rw [List.append_nil] at hx
    subst hx
    exact ⟨e, rfl, hi⟩
  | cons x post ih =>
    intro pre e hx hi
    obtain ⟨e1, e2, o, h1, h2, h3, h4⟩ := hs pre x post e hx hi
    obtain ⟨e', h5, h6⟩ := ih (pre ++ [x]) e2 (by rw [hx]; simp) h4
    refine ⟨e', ?_, h6⟩
    rw [List.map_cons, forD, h1, Option.bind_some, h2, Option.bind_some]
    rcases h3 with rfl | rfl <;> exact h5
/-- a loop that may be left by return: either it runs through, or it is left with what it hands back -/
theorem forD_ret {α : Type} {g : Tg} {mb : SM} {en : α → D} {xs : List α} {e : Env} {R : D → Prop} (I : List α → Env → Prop) (h0 : I [] e)
    (hs : ∀ pre x post e, xs = pre ++ x :: post → I pre e → ∃ e1 e' o, bD g (en x) e = some e1 ∧ mb e1 = some (o, e') ∧ (((o = .nx ∨ o = .ct) ∧ I (pre ++ [x]) e') ∨ ∃ d, o = .rt d ∧ R d)) :
    (∃ e', forD g mb (xs.map en) e = some (.nx, e') ∧ I xs e') ∨ ∃ d e', forD g mb (xs.map en) e = some (.rt d, e') ∧ R d := by
  suffices h : ∀ (post pre : List α) (e : Env), xs = pre ++ post → I pre e → (∃ e', forD g mb (post.map en) e = some (.nx, e') ∧ I xs e') ∨ ∃ d e', forD g mb (post.map en) e = some (.rt d, e') ∧ R d from h xs [] e rfl h0
  intro post
  induction post with
  | nil =>
    intro pre e hx hi
    rw [List.append_nil] at hx
    subst hx
    exact .inl ⟨e, rfl, hi⟩
  | cons x post ih =>
    intro pre e hx hi
    obtain ⟨e1, e2, o, h1, h2, h3⟩ := hs pre x post e hx hi
    rw [List.map_cons, forD, h1, Option.bind_some, h2, Option.bind_some]
    rcases h3 with ⟨h3, h4⟩ | ⟨d, rfl, hd⟩
    · have := ih (pre ++ [x]) e2 (by rw [hx]; simp) h4
      rcases h3 with rfl | rfl <;> exact this
    · exact .inr ⟨d, e2, rfl, hd⟩
theorem lcD_map {α : Type} {g : Tg} {mt : BM} {me : PM} {en : α → D} {e0 : Env} {p : α → Bool} {f : α → D} {e1 : α → Env} : ∀ (xs : List α), (∀ x ∈ xs, bD g (en x) e0 = some (e1 x)) → (∀ x ∈ xs, mt (e1 x) = some (p x)) → (∀ x ∈ xs, p x = true → me (e1 x) = some (f x)) → lcD g mt me e0 (xs.map en) = some ((xs.filter p).map f)
  | [], _, _, _ => rfl
  | x :: xs, h1, h2, h3 => by
    have ih := lcD_map (g := g) (mt := mt) (me := me) (en := en) (e0 := e0) (p := p) (f := f) (e1 := e1) xs (fun y hy => h1 y (List.mem_cons_of_mem _ hy)) (fun y hy => h2 y (List.mem_cons_of_mem _ hy)) (fun y hy => h3 y (List.mem_cons_of_mem _ hy))
    rw [List.map_cons, lcD, h1 x (List.mem_cons_self ..), Option.bind_some, h2 x (List.mem_cons_self ..), Option.bind_some]
    cases hp : p x with
    | true => rw [if_pos rfl, h3 x (List.mem_cons_self ..) hp, Option.bind_some, ih, List.filter_cons, if_pos hp]; rfl
    | false => rw [if_neg Bool.false_ne_true, ih, List.filter_cons, if_neg (by rw [hp]; decide)]
theorem lcD_all {α : Type} {g : Tg} {me : PM} {en : α → D} {e0 : Env} {f : α → D} {e1 : α → Env} (xs : List α) (h1 : ∀ x ∈ xs, bD g (en x) e0 = some (e1 x)) (h3 : ∀ x ∈ xs, me (e1 x) = some (f x)) : lcD g bYes me e0 (xs.map en) = some (xs.map f) := by
  have := lcD_map (mt := bYes) (p := fun _ => true) xs h1 (fun _ _ => rfl) (fun x hx _ => h3 x hx)
  have e : xs.filter (fun _ => true) = xs := List.filter_eq_self.mpr (by simp)
  rw [e] at this
  exact this
theorem whD_inv {mc : TM} {mb : SM} {I J : Env → Prop} (μ : Env → Nat) (h : ∀ e, I e → (∃ e1, mc e = some (true, e1) ∧ ∃ e2 o, mb e1 = some (o, e2) ∧ (o = .nx ∨ o = .ct) ∧ I e2 ∧ μ e2 < μ e) ∨ ∃ e1, mc e = some (false, e1) ∧ J e1) : ∀ (n : Nat) (e : Env), I e → μ e < n → ∃ e', whD mc mb n e = some (.nx, e') ∧ J e'
  | 0, _, _, hn => absurd hn (Nat.not_lt_zero _)
  | n + 1, e, hi, hn => by
    rcases h e hi with ⟨e1, h1, e2, o, h2, h3, h4, h5⟩ | ⟨e1, h1, h2⟩
    · obtain ⟨e', g1, g2⟩ := whD_inv μ h n e2 h4 (by omega)
      refine ⟨e', ?_, g2⟩
      rw [whD, h1, Option.bind_some, if_pos rfl]
      dsimp only
      rw [h2, Option.bind_some]
      rcases h3 with rfl | rfl <;> exact g1
    · refine ⟨e1, ?_, h2⟩
      rw [whD, h1, Option.bind_some, if_neg Bool.false_ne_true]
/-- a statement done: what follows -/
theorem seq_nx {m n : SM} {e e1 : Env} (h : m e = some (.nx, e1)) : sSeq m n e = n e1 := by
  unfold sSeq
  rw [h]; rfl
theorem seq_rt {m n : SM} {e e1 : Env} {d : D} (h : m e = some (.rt d, e1)) : sSeq m n e = some (.rt d, e1) := by
  unfold sSeq
  rw [h]; rfl
theorem if_t {c : TM} {m n : SM} {e e1 : Env} (h : c e = some (true, e1)) : sIf c m n e = m e1 := by
  unfold sIf
  rw [h]; rfl
theorem if_f {c : TM} {m n : SM} {e e1 : Env} (h : c e = some (false, e1)) : sIf c m n e = n e1 := by
  unfold sIf
  rw [h]; rfl
theorem rgDn_eq (lo : Int) (n : Nat) : rgDn lo n = (List.range n).map fun (i : Nat) => D.s (.int (lo + (i : Int))) := rfl
theorem log2_small {i : Int} {k : Nat} (hk : 0 < k) (h : i.natAbs < 2 ^ k) : i.natAbs.log2 < k := PySem.Flt.log2_lt_of hk h
theorem mulW_small {i j : Int} (h1 : i.natAbs < 2 ^ 200) (h2 : j.natAbs < 2 ^ 200) : CMulW i j := wide_mul h1 h2 (by decide) (by decide) (by decide)
end Ow

namespace Ow
open PySem L2 Enc

/-! ### typed forms of the steps -/
theorem ixN_ok {n : Nat} {k : Int} (h0 : 0 ≤ k) (h1 : k < n) : ixN n k = some k.toNat := by
  unfold ixN
  rw [if_pos h0, if_pos h1]
theorem ixN_neg {n : Nat} {k : Int} (h0 : k < 0) (h1 : -(n : Int) ≤ k) : ixN n k = some (k + n).toNat := by
  unfold ixN
  rw [if_neg (by omega)]
  first
    | rw [if_pos (by omega)]
    | (split <;> first | rfl | omega)
section
variable {α : Type} [Enc α]
theorem len_en (o : Fl) (xs : List α) : fLen [en o xs] = some (.int (xs.length : Int)) := by
  rw [en_list, fLen, List.length_map]
theorem item_en (o : Fl) (xs : List α) {k : Int} (h0 : 0 ≤ k) (h1 : k < xs.length) : fItem (en o xs) (.s (.int k)) = some (en o (xs[k.toNat]'(by omega))) := by
  rw [en_list]
  show atI (xs.map (en o)) k = _
  unfold atI
  rw [List.length_map, ixN_ok h0 h1, Option.bind_some, List.getElem?_map, List.getElem?_eq_getElem (by omega)]
  rfl
theorem item_at (o : Fl) (xs : List α) {k : Int} {x : α} (h0 : 0 ≤ k) (h1 : xs[k.toNat]? = some x) : fItem (en o xs) (.s (.int k)) = some (en o x) := by
  obtain ⟨h2, h3⟩ := List.getElem?_eq_some_iff.mp h1
  rw [item_en o xs h0 (by omega), h3]
theorem asL_en (o : Fl) (xs : List α) : asL (en o xs) = some (xs.map (en o)) := rfl
/-- xs.append(v) -/
theorem app1 {i : Nat} {me : EM} {e e1 : Env} {xs : List α} {v : α} (h1 : me e = some (en .o v, e1)) (h2 : e[i]? = some (some (en .o xs))) (hl : xs.length < 16777216) :
    sApp i (plName i) me e = some (.nx, e1.set i (some (en .o (xs ++ [v])))) := by
  unfold sApp plName
  rw [h2, h1]
  simp [en_list, hl]
theorem set_modify {β : Type} {xs : List β} {k : Nat} {f : β → β} (h : k < xs.length) : xs.set k (f xs[k]) = xs.modify k f := by
  apply List.ext_getElem?
  intro j
  rw [List.getElem?_set, List.getElem?_modify]
  by_cases q : k = j
  · subst q
    rw [if_pos rfl, if_pos h, List.getElem?_eq_getElem h]
    simp
  · rw [if_neg q]
    cases xs[j]? <;> simp [q]
/-- xs[k].append(v) -/
theorem app2 {i : Nat} {me : EM} {mb : PM} {e e1 : Env} {xs : List (List α)} {v : α} {k : Int} (h1 : me e = some (en .o v, e1)) (h2 : e[i]? = some (some (en .o xs))) (h3 : mb e = some (.s (.int k))) (h0 : 0 ≤ k) (hk : k < xs.length) (hl : (xs[k.toNat]'(by omega)).length < 16777216) :
    sApp i (plItem i (plName i) mb) me e = some (.nx, e1.set i (some (en .o (xs.modify k.toNat (· ++ [v]))))) := by
  unfold sApp plItem plName
  rw [h2, h1, h3]
  have hk2 : k.toNat < xs.length := by omega
  simp only [Option.join_some, Option.map_some, Option.bind_some, toI, atD, en_list, List.length_map, ixN_ok h0 hk, List.nil_append]
  rw [modD]
  rw [List.getElem?_map, List.getElem?_eq_getElem hk2]
  rw [Option.map_some, Option.bind_some, en_list, modD, List.length_map, if_pos hl]
  simp only [Option.map_some]
  congr 5
  rw [← set_modify hk2, List.map_set, en_list, List.map_append]
  rfl
end
end Ow

namespace Ow
open PySem L2 Enc

/-! ### targets -/
theorem bD_nm (j : Nat) (d : D) (e : Env) : bD (.nm j) d e = some (e.set j (some d)) := by rw [bD]
theorem bD_tp2 (i j : Nat) (x y : D) (e : Env) : bD (.tp [.nm i, .nm j]) (.n .tup [x, y]) e = some ((e.set i (some x)).set j (some y)) := by
  rw [bD, if_pos (by rfl), bDs, bD_nm, Option.bind_some, bDs, bD_nm, Option.bind_some, bDs]
/-! ### whole loops -/
theorem pure_ints {α : Type} (f : α → Int) : ∀ xs : List α, pureL (xs.map fun i => D.s (.int (f i))) = true
  | [] => rfl
  | x :: xs => by rw [List.map_cons, pureL, pure_ints f xs]; rfl
theorem rgDn_pure (lo : Int) (n : Nat) : pureL (rgDn lo n) = true := by
  rw [rgDn_eq]; exact pure_ints _ _
theorem wR_ok {m : Env → Option (Int × Int)} {env : Env} {lo hi : Int} (h : m env = some (lo, hi)) (h0 : 0 ≤ lo) (h1 : lo ≤ 16777216) (h2 : 0 ≤ hi) (h3 : hi ≤ 16777216) : wR m env = some (rgDn lo (hi - lo).toNat) := by
  unfold wR
  rw [h]
  simp only [Option.bind_some]
  rw [if_pos (decide_eq_true (RgOk.of_le h0 h3 h1 h2))]
theorem list_get_of_app {α : Type} {xs pre post : List α} {x : α} (h : xs = pre ++ x :: post) : xs[pre.length]? = some x := by
  rw [h]; simp
/-- a loop over a range of whole numbers -/
theorem forR_inv {m : Env → Option (Int × Int)} {j : Nat} {mb : SM} {env : Env} {lo hi : Int} {n : Nat} (h : m env = some (lo, hi)) (hn : n = (hi - lo).toNat) (h0 : 0 ≤ lo) (h1 : lo ≤ 16777216) (h2 : 0 ≤ hi) (h3 : hi ≤ 16777216) (I : Nat → Env → Prop) (hz : I 0 env)
    (hs : ∀ k e, k < n → I k e → ∃ e' o, mb (e.set j (some (D.s (.int (lo + (k : Int)))))) = some (o, e') ∧ (o = .nx ∨ o = .ct) ∧ I (k + 1) e') : ∃ e', sFor (wR m) (.nm j) mb env = some (.nx, e') ∧ I n e' := by
  subst hn
  obtain ⟨e', h5, h6⟩ := forD_inv (g := .nm j) (mb := mb) (en := fun (i : Nat) => D.s (.int (lo + (i : Int)))) (xs := List.range (hi - lo).toNat) (e := env) (fun pre e => I pre.length e) hz (fun pre x post e hx hi' => by
    have hg := list_get_of_app hx
    have hlt : pre.length < (hi - lo).toNat := by
      have := congrArg List.length hx
      simp at this
      omega
    rw [List.getElem?_range hlt] at hg
    cases hg
    obtain ⟨e', o, g1, g2, g3⟩ := hs pre.length e hlt hi'
    exact ⟨_, e', o, rfl, g1, g2, by rw [List.length_append]; exact g3⟩)
  refine ⟨e', ?_, by rw [List.length_range] at h6; exact h6⟩
  unfold sFor
  rw [wR_ok h h0 h1 h2 h3]
  simp only [Option.bind_some]
  rw [if_pos (rgDn_pure _ _), rgDn_eq]
  exact h5
/-- a loop over a range that may be left by return -/
theorem forR_ret {m : Env → Option (Int × Int)} {j : Nat} {mb : SM} {env : Env} {lo hi : Int} {n : Nat} {R : D → Prop} (h : m env = some (lo, hi)) (hn : n = (hi - lo).toNat) (h0 : 0 ≤ lo) (h1 : lo ≤ 16777216) (h2 : 0 ≤ hi) (h3 : hi ≤ 16777216) (I : Nat → Env → Prop) (hz : I 0 env)
    (hs : ∀ k e, k < n → I k e → ∃ e' o, mb (e.set j (some (D.s (.int (lo + (k : Int)))))) = some (o, e') ∧ (((o = .nx ∨ o = .ct) ∧ I (k + 1) e') ∨ ∃ d, o = .rt d ∧ R d)) : (∃ e', sFor (wR m) (.nm j) mb env = some (.nx, e') ∧ I n e') ∨ ∃ d e', sFor (wR m) (.nm j) mb env = some (.rt d, e') ∧ R d := by
  subst hn
  have key := forD_ret (g := .nm j) (mb := mb) (en := fun (i : Nat) => D.s (.int (lo + (i : Int)))) (xs := List.range (hi - lo).toNat) (e := env) (R := R) (fun pre e => I pre.length e) hz (fun pre x post e hx hi' => by
    have hg := list_get_of_app hx
    have hlt : pre.length < (hi - lo).toNat := by
      have := congrArg List.length hx
      simp at this
      omega
    rw [List.getElem?_range hlt] at hg
    cases hg
    obtain ⟨e', o, g1, g2⟩ := hs pre.length e hlt hi'
    exact ⟨_, e', o, rfl, g1, by rw [List.length_append]; exact g2⟩)
  have e0 : sFor (wR m) (.nm j) mb env = forD (.nm j) mb ((List.range (hi - lo).toNat).map fun (i : Nat) => D.s (.int (lo + (i : Int)))) env := by
    unfold sFor
    rw [wR_ok h h0 h1 h2 h3]
    simp only [Option.bind_some]
    rw [if_pos (rgDn_pure _ _), rgDn_eq]
  rw [e0]
  rcases key with ⟨e', h5, h6⟩ | k
  · exact .inl ⟨e', h5, by rw [List.length_range] at h6; exact h6⟩
  · exact .inr k
section
variable {α : Type} [Enc α]
/-- a loop over a list that is walked whole -/
theorem forL_inv {mi : LM} {g : Tg} {mb : SM} {env : Env} {o : Fl} {xs : List α} (h : mi env = some (xs.map (en o))) (hp : pureL (xs.map (en o)) = true) (I : List α → Env → Prop) (hz : I [] env)
    (hs : ∀ pre x post e, xs = pre ++ x :: post → I pre e → ∃ e1 e' oo, bD g (en o x) e = some e1 ∧ mb e1 = some (oo, e') ∧ (oo = .nx ∨ oo = .ct) ∧ I (pre ++ [x]) e') : ∃ e', sFor mi g mb env = some (.nx, e') ∧ I xs e' := by
  unfold sFor
  rw [h]
  simp only [Option.bind_some]
  rw [if_pos hp]
  exact forD_inv I hz hs
end
/-! ### single steps -/
section
variable {m n : PM} {ml : LM} {e : Env} {d d2 : D}
theorem lc1 (h : m e = some d) : lCons m lNil e = some [d] := by unfold lCons; rw [h]; rfl
theorem lc2 (h : m e = some d) (h2 : n e = some d2) : lCons m (lCons n lNil) e = some [d, d2] := by unfold lCons; rw [h, h2]; rfl
theorem call_l {f : List D → Option V} {ds : List D} {v : V} (h : ml e = some ds) (h2 : f ds = some v) : mCall f ml e = sv v := by
  unfold mCall
  rw [h, Option.bind_some, h2, Option.bind_some]
theorem fn_l {f : FM} {ds : List D} (h : ml e = some ds) (h2 : f (frzD ds) = some d) (h3 : d.noF = true) : mFn f ml e = some d := by
  unfold mFn
  rw [h, Option.bind_some, h2, Option.bind_some, h3]; rfl
theorem andV_t (h : m e = some (.s (.bl true))) {b : Bool} (h2 : n e = some (.s (.bl b))) : mAndV m n e = some (.s (.bl b)) := by
  unfold mAndV
  rw [h, h2]; rfl
theorem ret_p (h : m e = some d) : sRet (lift m) e = some (.rt d, e) := by unfold sRet lift; rw [h]; rfl
theorem set_p {i : Nat} (h : m e = some d) : sSet i (lift m) e = some (.nx, e.set i (some d)) := by unfold sSet lift; rw [h]; rfl
theorem runP_rt {k : Nat} {mS : SM} {ds : List D} {e' : Env} (h : mS (initD k ds) = some (.rt d, e')) : runP k mS ds = some d := by unfold runP; rw [h]; rfl
theorem runP_nx {k : Nat} {mS : SM} {ds : List D} {e' : Env} (h : mS (initD k ds) = some (.nx, e')) : runP k mS ds = some (.s .non) := by unfold runP; rw [h]; rfl
theorem op2_i {f : D → D → Option V} {v : V} (h : m e = some d) (h2 : n e = some d2) (h3 : f d d2 = some v) : mOp2 f m n e = sv v := by unfold mOp2; rw [h, h2]; simp [h3]
theorem tB {b : Bool} (h : m e = some (.s (.bl b))) : mB m e = some b := by unfold mB; rw [h]; rfl
theorem tTru {b : Bool} (h : m e = some (.s (.bl b))) : mTru m e = some b := by unfold mTru; rw [h]; rfl
theorem tNot {t : BM} {b : Bool} (h : t e = some b) : mNotT t e = some (!b) := by unfold mNotT; rw [h]; rfl
theorem tOr_f {t u : BM} {b : Bool} (h : t e = some false) (h2 : u e = some b) : mOr t u e = some b := by unfold mOr; rw [h, h2]; rfl
theorem tOr_t {t u : BM} (h : t e = some true) : mOr t u e = some true := by unfold mOr; rw [h]; rfl
theorem tAnd_t {t u : BM} {b : Bool} (h : t e = some true) (h2 : u e = some b) : mAnd t u e = some b := by unfold mAnd; rw [h, h2]; rfl
theorem tAnd_f {t u : BM} (h : t e = some false) : mAnd t u e = some false := by unfold mAnd; rw [h]; rfl
theorem lT {t : BM} {b : Bool} (h : t e = some b) : liftT t e = some (b, e) := by unfold liftT; rw [h]; rfl
/-- a test that sends nothing back -/
theorem if_pass {t : BM} {a : SM} (h : t e = some false) : sIf (liftT t) a sNx e = some (.nx, e) := (if_f (lT h)).trans rfl
theorem lc_all {α : Type} {mi : LM} {g : Tg} {me : PM} {vs : List Nat} {en : α → D} {f : α → D} {e1 : α → Env} (xs : List α) (h : mi e = some (xs.map en)) (hl : xs.length ≤ 16777216) (h1 : ∀ x ∈ xs, bD g (en x) (wipeD e vs) = some (e1 x)) (h2 : ∀ x ∈ xs, me (e1 x) = some (f x)) : mLc mi g bYes me vs e = some (.n (.lst .o) (xs.map f)) := by
  unfold mLc
  rw [h, Option.bind_some, List.length_map, if_pos hl, lcD_all xs h1 h2]; rfl
theorem lc_map {α : Type} {mi : LM} {g : Tg} {mt : BM} {me : PM} {vs : List Nat} {en : α → D} {p : α → Bool} {f : α → D} {e1 : α → Env} (xs : List α) (h : mi e = some (xs.map en)) (hl : xs.length ≤ 16777216) (h1 : ∀ x ∈ xs, bD g (en x) (wipeD e vs) = some (e1 x)) (ht : ∀ x ∈ xs, mt (e1 x) = some (p x)) (h2 : ∀ x ∈ xs, p x = true → me (e1 x) = some (f x)) : mLc mi g mt me vs e = some (.n (.lst .o) ((xs.filter p).map f)) := by
  unfold mLc
  rw [h, Option.bind_some, List.length_map, if_pos hl, lcD_map xs h1 ht h2]; rfl
end
end Ow

namespace Ow
open PySem L2 Enc
section
variable {X : Cx} {P : List Nat} {st : Stmt}
/-- a statement that is never come to -/
theorem ss_none : SS X P st (fun _ => none) := ⟨fun pins s σ H D I ⟨env, o, e', hm, _⟩ => by cases hm⟩
end
/-! ### the first place of a whole number -/
def fIdx (x y : D) : Option V := match x, y with
  | .n (.lst _) ds, .s (.int i) => (intsD ds).bind fun ns => if i ∈ ns then some (.int (ns.idxOf i : Nat)) else none
  | _, _ => none
def mIdx (ma mb : PM) : PM := fun env => (ma env).bind fun x => (mb env).bind fun y => (fIdx x y).bind sv
theorem eqV_ii (i j : Int) : eqV (.int i) (.int j) = decide (i = j) := by
  first | rfl | (simp [eqV]) | (unfold eqV; rfl)
theorem idx_first : ∀ (ns : List Int) (i : Int) (m : Nat) (z : Int), m < ns.idxOf i → ns[m]? = some z → z ≠ i
  | [], _, _, _, h, _ => by simp at h
  | x :: xs, i, m, z, h, hz => by
    rw [List.idxOf_cons] at h
    by_cases e : x = i
    · simp [e] at h
    · have e0 : (x == i) = false := by simp [e]
      rw [e0] at h
      dsimp only [cond_false] at h
      cases m with
      | zero => rw [List.getElem?_cons_zero] at hz; cases hz; exact e
      | succ m =>
        rw [List.getElem?_cons_succ] at hz
        exact idx_first xs i m z (by omega) hz
section
variable {X : Cx} {o e : Expr} {ma mb : PM} {apos cpos : Pos}
theorem sp_index (ho : SB X o ma) (ha : SB X e mb)
    (hbase : attributeBase o "index" X.env (eval o X.env) = eval o X.env := by rfl)
    (hfew : ((backTo cpos (starEach ([e]) X.env)).all (fun x => !x.1) && (backToKw cpos (keywordEach [] X.env)).all (fun x => x.1.isSome)
      && decide (([e] : List Expr).length + ([] : List Keyword).length + (if ([] : List Keyword).isEmpty then 0 else 1) < 30)) = true := by rfl)
    (hline : (apos.endLine == cpos.line) = true := by rfl) (hs : starEach [e] X.env = (false, eval e X.env) :: starEach [] X.env := by rfl) : SP X (.Call (.Attribute o "index" apos) [e] [] cpos) (mIdx ma mb) :=
  PE.weak (pe_bm (T := "list") PySem.F.plainAttrs_list PySem.F.slot_list_index PySem.F.type_list_index mt_index ho (pa_cons ha pa_nil hs) hbase hfew hline hs (by rfl)) fun σ H Q ⟨env, d, hm, r, s, k⟩ => by
    obtain ⟨x, hx, hm⟩ := bind_some hm
    obtain ⟨y, hy, hm⟩ := bind_some hm
    obtain ⟨v, hv, hm⟩ := bind_some hm
    obtain ⟨s1, rfl⟩ := sv_some hm
    refine ⟨env, x, hx, r, s, fun t H1 e1 x1 s1' b1 => ?_⟩
    subst e1
    unfold fIdx at hv
    split at hv
    case h_2 => cases hv
    rename_i oo ds i g1
    obtain ⟨ns, g3, hv⟩ := bind_some hv
    split at hv
    case isFalse => cases hv
    rename_i hi
    cases hv
    obtain ⟨a, ts, f1, f2, f3, f4, f5, f6⟩ := rdL s1' g1
    rw [f1]
    refine ⟨.inl ⟨rfl, _, f3⟩, ?_⟩
    refine ⟨env, _, hy, r, s.ex x1, fun u H2 e2 x2 s2 b2 => ?_⟩
    have hu := er_int e2
    rw [← f2] at g3
    rw [intsD_of g3, vals_ints] at f3
    have hlt : ns.idxOf i < ns.length := List.idxOf_lt_length_of_mem hi
    obtain ⟨a', ts', f1', f2', f3', _⟩ := rdL (sat_ex x2 s1') g1
    rw [f1] at f1'
    cases f1'
    refine ⟨a, ns.map V.int, .int i, ns.idxOf i, .int i, rfl, by rw [hu]; rfl, ?_, rfl, ?_, ?_, ?_, ?_, ?_⟩
    · have : ts' = ns.map fun i => T.s (.int i) := intsD_of (by rw [f2', ← f2]; exact g3)
      rw [this, vals_ints] at f3'
      exact f3'
    · rw [List.all_map, List.all_eq_true]; intro _ _; rfl
    · rw [List.getElem?_map, List.getElem?_eq_getElem hlt, List.getElem_idxOf hlt]; rfl
    · rw [eqV_ii]; exact decide_eq_true rfl
    · intro m z' hm' hz'
      rw [List.getElem?_map] at hz'
      obtain ⟨z, hz, rfl⟩ := map_some hz'
      rw [eqV_ii]
      exact decide_eq_false (idx_first ns i m z hm' hz)
    · exact k (.s (.int (ns.idxOf i : Nat))) H2 rfl (x1.trans x2) trivial own_s
end
end Ow

namespace Ow
open PySem L2 Enc
/-! ### dicts -/
section
variable {K : PySem.W.Frag} {H0 H H' : Hp} {env0 env : TEnv} {σ : L2.St} {F' G G' : List T} {i : Nat} {t : T} {a : Addr} {ts ts' : List T}
theorem mut_gen {o' : HO} {t' : T} (c : Cf K H0 env0 σ H (G ++ F') env) (hi : env[i]? = some (some t)) (g2 : t'.val = t.val) (m1 : coL a ts + 1 ≤ t.co a) (leo : ∀ b, coL b ts ≤ t.co b) (leu : ∀ b, cuL b ts ≤ t.cu b)
    (g3 : ∀ b, t'.co b + coL b ts = t.co b + coL b ts') (g4 : ∀ b, t'.cu b + cuL b ts = t.cu b + cuL b ts')
    (g5 : ∀ H', (∀ b o, b ≠ a → 0 < t.co b + t.cu b → H b = some o → H' b = some o) → t.co a ≤ 1 → t.cu a = 0 → H' a = some o' → satL K H' ts' → t'.sat K H') (s1 : satL K H ts') (s2 : satL K H G')
    (n1 : ∀ b, coL b ts' + coL b G' ≤ coL b ts + coL b G) (n2 : ∀ b, 0 < cuL b ts' + cuL b G' → 0 < cuL b (G ++ F') + cuE b env) :
    ∃ env', erE env' = (erE env).set i (some t'.er) ∧ (∀ j, j ≠ i → env'[j]? = env[j]?) ∧ Cf K H0 env0 σ (upd H a o') (G' ++ F') env' := by
  have wa := c.wf a
  have ei : ∀ b, coE b (env.set i (some t')) + t.co b = coE b env + t'.co b := fun b => by
    have := coE_set (a := b) (some t') hi
    simpa only [oT] using this
  have ui : ∀ b, cuE b (env.set i (some t')) + t.cu b = cuE b env + t'.cu b := fun b => by
    have := cuE_set (a := b) (some t') hi
    simpa only [oT] using this
  have ti : ∀ b, t.co b ≤ coE b env := fun b => coE_get hi
  have tu : ∀ b, t.cu b ≤ cuE b env := fun b => cuE_get hi
  simp only [coL_append, cuL_append] at wa
  have ta := ti a
  have tua := tu a
  have la := leo a
  have lua := leu a
  have n1a := n1 a
  have n2a := n2 a
  rw [cuL_append] at n2a
  have keep : ∀ b o, b ≠ a → H b = some o → upd H a o' b = some o := fun b o hb h => by rw [upd_ne hb]; exact h
  have nt : ∀ b, 0 < coL b ts' + cuL b ts' → b ≠ a := fun b h z => by subst z; omega
  have sF := satL_append.mp c.satF
  have st' : t'.sat K (upd H a o') := g5 _ (fun b o hb _ h => keep b o hb h) (by omega) (by omega) upd_same (satL_keep ts' (fun b o h e => keep b o (nt b h) e) s1)
  refine ⟨env.set i (some t'), by rw [erE_set]; rfl, fun j hj => by rw [List.getElem?_set, if_neg (fun z => hj z.symm)], c.rel.swap hi g2, satL_append.mpr ⟨satL_keep G' (fun b o h e => keep b o (fun z => by subst z; omega) e) s2, satL_keep F' (fun b o h e => keep b o (fun z => by subst z; omega) e) sF.2⟩, ?_, fun b => ?_, Stp.trans c.stp ⟨fun b o h hc => ?_, fun b h => ?_, fun b => ?_⟩⟩
  · -- the other slots
    intro u hu
    obtain ⟨j, hj⟩ := List.mem_iff_getElem?.mp hu
    rw [List.getElem?_set] at hj
    by_cases q : i = j
    · rw [if_pos q] at hj
      split at hj
      · cases hj; exact st'
      · cases hj
    · rw [if_neg q] at hj
      have e2 : (env.set i none)[j]? = some (some u) := by rw [List.getElem?_set, if_neg q]; exact hj
      refine sat_keep u (fun b o h e => keep b o (fun z => ?_) e) (c.satE u (List.mem_of_getElem? hj))
      subst z
      have w1 := coE_get (a := b) e2
      have w2 := cuE_get (a := b) e2
      have w3 := coE_set (a := b) none hi
      have w4 := cuE_set (a := b) none hi
      simp only [oT] at w3 w4
      omega
  · have w1 := c.wf b
    have := ei b
    have := ui b
    have := ti b
    have := tu b
    have := g3 b
    have := g4 b
    have := n1 b
    have n2b := n2 b
    have := leo b
    have := leu b
    simp only [coL_append, cuL_append] at w1 n2b ⊢
    by_cases q : 0 < cuL b ts' + cuL b G'
    · have := n2b q
      omega
    · omega
  · refine keep b o (fun z => ?_) h
    subst z
    simp only at hc
    omega
  · by_cases q : b = a
    · subst q
      rw [upd_same] at h
      cases h
    · rw [upd_ne q] at h
      exact h
  · have := ei b
    have := ui b
    have := ti b
    have := tu b
    have := g3 b
    have := g4 b
    have := n1 b
    have n2b := n2 b
    have := leo b
    have := leu b
    simp only [coL_append, cuL_append] at n2b ⊢
    refine ⟨fun q => .inl (by omega), fun q => .inr (.inl ?_)⟩
    by_cases q : 0 < cuL b ts' + cuL b G'
    · exact n2b q
    · omega
end
/-- keys, values as plain lists -/
def keyD : D → Option Key
  | .s (.int i) => some (.inl i)
  | .s (.str z) => some (.inr z)
  | _ => none
@[simp] theorem keyD_int {i : Int} : keyD (.s (.int i)) = some (.inl i) := rfl
@[simp] theorem keyD_str {z : PySem.Str} : keyD (.s (.str z)) = some (.inr z) := rfl
theorem keyD_some {d : D} {k : Key} (h : keyD d = some k) : d = .s (kV k) := by
  unfold keyD at h
  split at h
  · cases h; rfl
  · cases h; rfl
  · cases h
def sclD : List D → Option (List V)
  | [] => some []
  | .s v :: ds => if scl v = true then (sclD ds).map (v :: ·) else none
  | _ => none
def dicD (o : Fl) (kvs : List (Key × V)) : D := .n (.dic o (kvs.map (·.1))) (kvs.map fun p => .s p.2)
def dicP : D → Option (List (Key × V))
  | .n (.dic o ks) ds => if (nw o && decide (ks.length = ds.length)) = true then (sclD ds).map (ks.zip ·) else none
  | _ => none
theorem sclD_er : ∀ {ts : List T} {vs : List V}, sclD (erL ts) = some vs → ts = vs.map T.s ∧ vs.all scl = true
  | [], vs, h => by cases h; exact ⟨rfl, rfl⟩
  | t :: ts, vs, h => by
    rw [erL] at h
    cases t with
    | s v =>
      rw [T.er, sclD] at h
      split at h
      · rename_i hv
        obtain ⟨us, h1, rfl⟩ := map_some h
        obtain ⟨rfl, h2⟩ := sclD_er h1
        have hv2 : scl v = true := by
          unfold hid at hv
          split at hv
          · assumption
          · cases hv
        rw [hid_scl hv2]
        refine ⟨rfl, ?_⟩
        rw [List.all_cons, hv2, h2]; rfl
      · cases h
    | n k a us => rw [T.er] at h; cases h
    | w z k a us => rw [T.er] at h; cases h
theorem sclD_map : ∀ {vs : List V}, vs.all scl = true → sclD (vs.map D.s) = some vs
  | [], _ => rfl
  | v :: vs, h => by
    rw [List.all_cons, Bool.and_eq_true] at h
    rw [List.map_cons, sclD, if_pos h.1, sclD_map h.2]; rfl
theorem dicP_dicD {o : Fl} (ho : nw o = true) {kvs : List (Key × V)} (h : (kvs.map (·.2)).all scl = true) : dicP (dicD o kvs) = some kvs := by
  have e : (kvs.map fun p => D.s p.2) = (kvs.map (·.2)).map D.s := by rw [List.map_map]; rfl
  have z : (kvs.map (·.1)).zip (kvs.map (·.2)) = kvs := by
    induction kvs with
    | nil => rfl
    | cons p kvs ih =>
      rw [List.map_cons, List.all_cons, Bool.and_eq_true] at h
      rw [List.map_cons, List.map_cons, List.zip_cons_cons, ih h.2 (by rw [List.map_map]; rfl)]
  unfold dicP dicD
  dsimp only
  rw [if_pos (by rw [ho]; simp), e, sclD_map h, Option.map_some, z]
theorem rdD {K : PySem.W.Frag} {H : Hp} {t : T} {kvs : List (Key × V)} (hs : t.sat K H) (h : dicP t.er = some kvs) : ∃ o a ts, t = .n (.dic o (kvs.map (·.1))) a ts ∧ ts = kvs.map (fun p => T.s p.2) ∧ H a = some (.dK kvs) ∧ (kvs.map (·.2)).all scl = true := by
  unfold dicP at h
  split at h
  case h_2 => cases h
  rename_i o ks ds he
  split at h
  case isFalse => cases h
  rename_i hc
  rw [Bool.and_eq_true, decide_eq_true_iff] at hc
  obtain ⟨vs, h1, rfl⟩ := map_some h
  obtain ⟨a, ts, rfl, f2, f3, f4⟩ := rdN hs he (by cases o <;> first | rfl | cases hc.1) (by simp)
  rw [← f2] at h1 hc
  obtain ⟨rfl, hv⟩ := sclD_er h1
  have hl : ks.length = vs.length := by rw [hc.2, erL_length, List.length_map]
  have z1 : (ks.zip vs).map (·.1) = ks := List.map_fst_zip (Nat.le_of_eq hl)
  have z2 : (ks.zip vs).map (·.2) = vs := List.map_snd_zip (Nat.le_of_eq hl.symm)
  refine ⟨o, a, _, by rw [z1], ?_, ?_, by rw [z2]; exact hv⟩
  · have : ((ks.zip vs).map fun p => T.s p.2) = ((ks.zip vs).map (·.2)).map T.s := by rw [List.map_map]; rfl
    rw [this, z2]
  · rw [f3]
    show some (HO.dK (ks.zip (vals (vs.map T.s)))) = _
    have : vals (vs.map T.s) = vs := by
      show (vs.map T.s).map T.val = vs
      rw [List.map_map]
      exact List.map_id _
    rw [this]
def mDin (mx my : PM) : BM := fun env => (mx env).bind fun x => (my env).bind fun y => (keyD x).bind fun k => (dicP y).map fun kvs => (valV kvs k).isSome
def mDnin (mx my : PM) : BM := fun env => (mx env).bind fun x => (my env).bind fun y => (keyD x).bind fun k => (dicP y).map fun kvs => !(valV kvs k).isSome
def mDget (my mx : PM) : PM := fun env => (my env).bind fun y => (mx env).bind fun x => (keyD x).bind fun k => (dicP y).bind fun kvs => (valV kvs k).bind sv
theorem key_er {u : T} {d : D} {k : Key} (e : u.er = d) (h : keyD d = some k) : u.val = kV k := by
  subst e
  have := keyD_some h
  cases u with
  | s v =>
    rw [T.er] at this
    injection this with this
    show v = kV k
    unfold hid at this
    split at this
    · exact this
    · cases k <;> cases this
  | n k' a ts => rw [T.er] at this; cases this
  | w z k' a ts => rw [T.er] at this; cases this
section
variable {X : Cx} {k : Nat} {i o : Expr} {mx my : PM} {pos : Pos}
theorem st_din (hr : Room k X.A) (hi : SB X i mx) (ho : SB X o my) (h1 : behindInMarks .In o = false := by first | exact nobehind _ (by decide) (by decide) | rfl) : ST X (.Compare i [.In] [o] pos) (mDin mx my) :=
  PT.weak (pt_cmp (pc_din (hu_of hr) hi ho) h1) fun σ H Q ⟨env, b, hm, r, s, q⟩ => by
    obtain ⟨x, hx, hm⟩ := bind_some hm
    obtain ⟨y, hy, hm⟩ := bind_some hm
    obtain ⟨kk, hk, hm⟩ := bind_some hm
    obtain ⟨kvs, hd, rfl⟩ := map_some hm
    refine ⟨env, x, hx, r, s, fun u H1 e1 x1 s1 b1 => ⟨env, y, hy, r, s.ex x1, fun t H2 e2 x2 s2 b2 => ?_⟩⟩
    subst e2
    obtain ⟨oo, a, ts, f1, f2, f3, f4⟩ := rdD s2 hd
    rw [key_er e1 hk, f1]
    exact ⟨a, valV kvs kk, rfl, DGet.k f3, _, rfl, q H2 (x1.trans x2)⟩
theorem st_dnin (hr : Room k X.A) (hi : SB X i mx) (ho : SB X o my) (h1 : behindInMarks .NotIn o = false := by first | exact nobehind _ (by decide) (by decide) | rfl) : ST X (.Compare i [.NotIn] [o] pos) (mDnin mx my) :=
  PT.weak (pt_cmp (pc_dnotin (hu_of hr) hi ho) h1) fun σ H Q ⟨env, b, hm, r, s, q⟩ => by
    obtain ⟨x, hx, hm⟩ := bind_some hm
    obtain ⟨y, hy, hm⟩ := bind_some hm
    obtain ⟨kk, hk, hm⟩ := bind_some hm
    obtain ⟨kvs, hd, rfl⟩ := map_some hm
    refine ⟨env, x, hx, r, s, fun u H1 e1 x1 s1 b1 => ⟨env, y, hy, r, s.ex x1, fun t H2 e2 x2 s2 b2 => ?_⟩⟩
    subst e2
    obtain ⟨oo, a, ts, f1, f2, f3, f4⟩ := rdD s2 hd
    rw [key_er e1 hk, f1]
    exact ⟨a, valV kvs kk, rfl, DGet.k f3, _, rfl, q H2 (x1.trans x2)⟩
theorem sp_dget (hr : Room k X.A) (ho : SB X o my) (hi : SB X i mx) (hs : NoSl i := by exact fun _ _ => rfl) : SP X (.Subscript o i pos) (mDget my mx) :=
  PE.weak (pe_dget (hu_of hr) ho hi hs) fun σ H Q ⟨env, d, hm, r, s, q⟩ => by
    obtain ⟨y, hy, hm⟩ := bind_some hm
    obtain ⟨x, hx, hm⟩ := bind_some hm
    obtain ⟨kk, hk, hm⟩ := bind_some hm
    obtain ⟨kvs, hd, hm⟩ := bind_some hm
    obtain ⟨v, hv, hm⟩ := bind_some hm
    obtain ⟨s0, rfl⟩ := sv_some hm
    refine ⟨env, y, hy, r, s, fun t H1 e1 x1 s1 b1 => ⟨env, x, hx, r, s.ex x1, fun u H2 e2 x2 s2 b2 => ?_⟩⟩
    subst e1
    obtain ⟨oo, a, ts, f1, f2, f3, f4⟩ := rdD (sat_ex x2 s1) hd
    rw [key_er e2 hk, f1]
    exact ⟨a, v, rfl, hv ▸ DGet.k f3, q (.s v) H2 (by rw [T.er, hid_scl s0]) (x1.trans x2) trivial own_s⟩
end
/-- an owned dict -/
def dicO : D → Option (List (Key × V))
  | .n (.dic .o ks) ds => dicP (.n (.dic .o ks) ds)
  | _ => none
theorem dicO_dicD {kvs : List (Key × V)} (h : (kvs.map (·.2)).all scl = true) : dicO (dicD .o kvs) = some kvs := dicP_dicD (o := .o) rfl h
theorem rdO {K : PySem.W.Frag} {H : Hp} {t : T} {kvs : List (Key × V)} (hs : t.sat K H) (h : dicO t.er = some kvs) : ∃ a, t = .n (.dic .o (kvs.map (·.1))) a (kvs.map fun p => T.s p.2) ∧ H a = some (.dK kvs) ∧ (kvs.map (·.2)).all scl = true := by
  unfold dicO at h
  split at h
  case h_2 => cases h
  rename_i ks ds he
  rw [← he] at h
  obtain ⟨o, a, ts, f1, f2, f3, f4⟩ := rdD hs h
  rw [f1, T.er] at he
  injection he with e1 e2
  injection e1 with e3 e4
  subst e3 f2
  exact ⟨a, f1, f3, f4⟩
theorem coL_sc (b : Addr) : ∀ vs : List (Key × V), coL b (vs.map fun p => T.s p.2) = 0
  | [] => rfl
  | v :: vs => by rw [List.map_cons, coL, coL_sc b vs, T.co]
theorem cuL_sc (b : Addr) : ∀ vs : List (Key × V), cuL b (vs.map fun p => T.s p.2) = 0
  | [] => rfl
  | v :: vs => by rw [List.map_cons, cuL, cuL_sc b vs, T.cu]
theorem satL_sc {K : PySem.W.Frag} {H : Hp} : ∀ vs : List (Key × V), satL K H (vs.map fun p => T.s p.2)
  | [] => trivial
  | v :: vs => ⟨trivial, satL_sc vs⟩
theorem ho_sc (kvs : List (Key × V)) : (Kd.dic .o (kvs.map (·.1))).ho (vals (kvs.map fun p => T.s p.2)) = .dK kvs := by
  show HO.dK ((kvs.map (·.1)).zip (vals (kvs.map fun p => T.s p.2))) = _
  have : vals (kvs.map fun p => T.s p.2) = kvs.map (·.2) := by
    show (kvs.map fun p => T.s p.2).map T.val = _
    rw [List.map_map]; rfl
  rw [this]
  congr 1
  induction kvs with
  | nil => rfl
  | cons p kvs ih =>
    rw [List.map_cons, List.map_cons, List.zip_cons_cons, ih (by show (kvs.map fun p => T.s p.2).map T.val = _; rw [List.map_map]; rfl)]
theorem er_sc {kvs : List (Key × V)} {a : Addr} (h : (kvs.map (·.2)).all scl = true) : (T.n (.dic .o (kvs.map (·.1))) a (kvs.map fun p => T.s p.2)).er = dicD .o kvs := by
  rw [T.er, dicD]
  congr 1
  induction kvs with
  | nil => rfl
  | cons p kvs ih =>
    rw [List.map_cons, List.all_cons, Bool.and_eq_true] at h
    rw [List.map_cons, List.map_cons, erL, ih h.2, T.er, hid_scl h.1]
/-- the dict of a slot made another one -/
theorem dic_step {K : PySem.W.Frag} {H0 H : Hp} {env0 env : TEnv} {σ : L2.St} {F : List T} {j : Nat} {t : T} {a : Addr} {kvs kvs' : List (Key × V)} (c : Cf K H0 env0 σ H F env) (hi : env[j]? = some (some t)) (ht : t = .n (.dic .o (kvs.map (·.1))) a (kvs.map fun p => T.s p.2)) (h' : (kvs'.map (·.2)).all scl = true) :
    ∃ env', erE env' = (erE env).set j (some (dicD .o kvs')) ∧ (∀ i, i ≠ j → env'[i]? = env[i]?) ∧ Cf K H0 env0 σ (upd H a (.dK kvs')) F env' := by
  subst ht
  have key := mut_gen (a := a) (G := []) (G' := []) (F' := F) (ts := kvs.map fun p => T.s p.2) (ts' := kvs'.map fun p => T.s p.2) (o' := .dK kvs') (t' := .n (.dic .o (kvs'.map (·.1))) a (kvs'.map fun p => T.s p.2)) c hi rfl (by rw [T.co, coL_sc]; simp) (fun b => by rw [coL_sc]; omega) (fun b => by rw [cuL_sc]; omega)
    (fun b => by rw [T.co, T.co, coL_sc, coL_sc]; simp) (fun b => by rw [T.cu, T.cu, cuL_sc, cuL_sc]; simp)
    (fun H' _ _ _ h _ => ⟨⟨by rw [ho_sc]; exact h, rfl⟩, satL_sc _⟩) (satL_sc _) trivial (fun b => by rw [coL_sc]; simp [coL]) (fun b h => by rw [cuL_sc] at h; simp [cuL] at h)
  rw [er_sc h'] at key
  exact key
def sDput (j : Nat) (mx mv : PM) : SM := fun env => (mv env).bind fun v => (env[j]?.join).bind fun d => (mx env).bind fun x => (keyD x).bind fun k => (dicO d).bind fun kvs => match v with
  | .s w => if (scl w && decide (kvs.length < 16777216)) = true then some (.nx, env.set j (some (dicD .o (putK kvs k w)))) else none
  | _ => none
def sDdel (j : Nat) (mx : PM) : SM := fun env => (env[j]?.join).bind fun d => (mx env).bind fun x => (keyD x).bind fun k => (dicO d).bind fun kvs => if (valV kvs k).isSome = true then some (.nx, env.set j (some (dicD .o (dropK kvs k)))) else none
theorem putK_scl {kvs : List (Key × V)} {k : Key} {w : V} (h : (kvs.map (·.2)).all scl = true) (hw : scl w = true) : ((putK kvs k w).map (·.2)).all scl = true := by
  rw [List.all_map, List.all_eq_true] at *
  intro p hp
  unfold putK at hp
  split at hp
  · obtain ⟨q, hq, rfl⟩ := List.mem_map.mp hp
    dsimp only [Function.comp]
    split
    · exact hw
    · exact h q hq
  · rw [List.mem_append, List.mem_singleton] at hp
    rcases hp with hp | rfl
    · exact h p hp
    · exact hw
theorem dropK_scl {kvs : List (Key × V)} {k : Key} (h : (kvs.map (·.2)).all scl = true) : ((dropK kvs k).map (·.2)).all scl = true := by
  rw [List.all_map, List.all_eq_true] at *
  intro p hp
  exact h p (List.mem_filter.mp hp).1
section
variable {X : Cx} {k : Nat} {P : List Nat} {i o e : Expr} {mx mv : PM} {pos tpos : Pos} {j : Nat}
theorem ss_ddel (ho : SPl X j o (plName j)) (hi : SB X i mx) : SS X P (.Delete [.Subscript o i tpos] pos) (sDdel j mx) :=
  PS.weak (ps_ddel ho.pe hi) fun De σ H ⟨env, oo, e', hm, r, s, w, q⟩ => by
    obtain ⟨d, hd, hm⟩ := bind_some hm
    obtain ⟨x, hx, hm⟩ := bind_some hm
    obtain ⟨kk, hk, hm⟩ := bind_some hm
    obtain ⟨kvs, hp, hm⟩ := bind_some hm
    split at hm
    case isFalse => cases hm
    rename_i hv
    cases hm
    obtain ⟨t, f3, rfl⟩ := join_get hd
    have c := Cf.start (σ := σ) r s w
    have hpl : plName j (erE env) = some [] := by unfold plName; rw [hd]; rfl
    unfold sDDel
    refine goPl ho.ok c hpl fun t' u H2 h1' h2 x2 c2 => ?_
    rw [f3] at h1'
    cases h1'
    cases h2
    refine goB c2 hx fun v2 H3 e3 x3 s3 _ c3 => ?_
    obtain ⟨a, g1, g2, g3⟩ := rdO (c3.satE.get f3) hp
    rw [key_er e3 hk]
    refine ⟨a, kvs, kk, by rw [g1]; rfl, g2, rfl, hv, ?_⟩
    obtain ⟨env2, w1, _, c4⟩ := dic_step (kvs' := dropK kvs kk) c3 f3 g1 (dropK_scl g3)
    exact q [] σ env2 _ w1 c4 (fun _ _ => rfl) rfl
theorem ss_dput (hr : Room k X.A) (hv : SB X e mv) (ho : SPl X j o (plName j)) (hi : SB X i mx) (hs : swapsWith e (some (.Subscript o i tpos)) pos.line X.env = pure false := by rfl) : SS X P (.Assign [.Subscript o i tpos] e pos) (sDput j mx mv) :=
  PS.weak (ps_dput (hu_of hr) ho.pe hi hv hs) fun De σ H ⟨env, oo, e', hm, r, s, w, q⟩ => by
    obtain ⟨v, hvv, hm⟩ := bind_some hm
    obtain ⟨d, hd, hm⟩ := bind_some hm
    obtain ⟨x, hx, hm⟩ := bind_some hm
    obtain ⟨kk, hk, hm⟩ := bind_some hm
    obtain ⟨kvs, hp, hm⟩ := bind_some hm
    have hex : ∃ w, v = .s w := by
      cases v with
      | s w => exact ⟨w, rfl⟩
      | n _ _ => cases hm
    obtain ⟨wv, rfl⟩ := hex
    dsimp only at hm
    split at hm
    case isFalse => cases hm
    rename_i hc
    rw [Bool.and_eq_true, decide_eq_true_iff] at hc
    cases hm
    obtain ⟨t, f3, rfl⟩ := join_get hd
    have c := Cf.start (σ := σ) r s w
    have hpl : plName j (erE env) = some [] := by unfold plName; rw [hd]; rfl
    unfold sDPut
    refine goB c hvv fun tv H1 e1 x1 s1 _ c1 => ?_
    have hval : tv.val = wv := by
      cases tv with
      | s z =>
        rw [T.er] at e1
        injection e1 with e1
        unfold hid at e1
        split at e1
        · exact e1
        · subst e1; exact absurd hc.1 (by decide)
      | n k' a' ts => rw [T.er] at e1; cases e1
      | w z k' a' ts => rw [T.er] at e1; cases e1
    refine goPl ho.ok c1 hpl fun t' u H2 h1' h2 x2 c2 => ?_
    rw [f3] at h1'
    cases h1'
    cases h2
    refine goB c2 hx fun v2 H3 e3 x3 s3 _ c3 => ?_
    obtain ⟨a, g1, g2, g3⟩ := rdO (c3.satE.get f3) hp
    rw [key_er e3 hk, hval]
    refine ⟨a, _, by rw [g1]; rfl, DPut.k g2 (by rw [sizeLine_eq]; exact hc.2), ?_⟩
    obtain ⟨env2, w1, _, c4⟩ := dic_step (kvs' := putK kvs kk wv) c3 f3 g1 (putK_scl g3 hc.1)
    exact q [] σ env2 _ w1 c4 (fun _ _ => rfl) rfl
theorem sp_dnew : SP X (.Dict [] [] pos) (fun _ => some (dicD .o [])) := PE.weak pe_dnewK fun σ H Q ⟨env, d, hm, r, s, q⟩ => by
  cases hm
  intro p hp
  obtain ⟨x2, s2, o2⟩ := new_node (k := .dic .o []) (us := []) rfl (Evl.Ex.refl H) s trivial (by intro a; simp [coL, cuL]) hp
  exact q (.n (.dic .o []) p []) _ rfl x2 s2 o2
end
end Ow

namespace Ow
open PySem L2 Enc
/-! ### sorted whole numbers -/
def srt (ns : List Int) : List Int := ns.mergeSort fun a b => decide (a ≤ b)
theorem srt_perm (ns : List Int) : (srt ns).Perm ns := List.mergeSort_perm ..
theorem srt_rise (ns : List Int) : (srt ns).Pairwise (· ≤ ·) := by
  have := List.pairwise_mergeSort (le := fun a b : Int => decide (a ≤ b)) (fun a b c h1 h2 => by simp at *; omega) (fun a b => by simp; omega) ns
  exact this.imp (fun h => by simpa using h)
theorem srt_eq {ns ms : List Int} (h : ms.Perm ns) (h2 : ms.Pairwise (· ≤ ·)) : ms = srt ns := List.Perm.eq_of_pairwise (le := (· ≤ ·)) (fun a b _ _ h1 h2 => by omega) h2 (srt_rise ns) (h.trans (srt_perm ns).symm)
def fSorted (ds : List D) : Option (List D) := (li ds).map fun ns => (srt ns).map fun i => .s (.int i)
theorem erL_ints (ns : List Int) : erL (ns.map fun i => T.s (.int i)) = ns.map fun i => D.s (.int i) := by
  induction ns with
  | nil => rfl
  | cons n ns ih => rw [List.map_cons, List.map_cons, erL, ih]; rfl
theorem sat_ints {K : PySem.W.Frag} {H : Hp} (ns : List Int) : satL K H (ns.map fun i => T.s (.int i)) := by
  induction ns with
  | nil => trivial
  | cons n ns ih => exact ⟨trivial, ih⟩
theorem co_ints (b : Addr) (ns : List Int) : coL b (ns.map fun i => T.s (.int i)) = 0 := by
  induction ns with
  | nil => rfl
  | cons n ns ih => rw [List.map_cons, coL, ih, T.co]
theorem cu_ints (b : Addr) (ns : List Int) : cuL b (ns.map fun i => T.s (.int i)) = 0 := by
  induction ns with
  | nil => rfl
  | cons n ns ih => rw [List.map_cons, cuL, ih, T.cu]
theorem opnl_sorted {K : PySem.W.Frag} : OpNL K (rSortedI K) fSorted := fun ts ds H Q hs h q => by
  obtain ⟨ns, h1, rfl⟩ := map_some h
  obtain ⟨a, e1, e2⟩ := li_of hs h1
  refine ⟨a, ns, e1, e2, fun ns' p h2 h3 hp => ?_⟩
  rw [srt_eq h2 h3, ← vals_ints]
  exact q _ p (erL_ints _) (sat_ints _) (fun b z => by rw [co_ints] at z; omega) (fun b z => by rw [cu_ints] at z; omega) hp
theorem fSorted_en (o : Fl) (ns : List Int) : fSorted [en o ns] = some ((srt ns).map fun i => D.s (.int i)) := by
  unfold fSorted
  rw [en_list, li_c0]
  have : (ns.map (en o) : List D) = ns.map fun i => D.s (.int i) := rfl
  rw [this, intsD_map]; rfl
section
variable {X : Cx} {e : Expr} {ml : LM} {p pos : Pos}
theorem sp_sorted (hm : X.mg "sorted" = none) (ha : SBA X [e] ml) (hb : bootBuiltins "sorted" = some (.builtin "sorted") := by decide +kernel) (hg : Gl X "sorted" := by rfl)
    (he : starEach [e] X.env = (false, eval e X.env) :: starEach [] X.env := by rfl) (hpl : (backTo pos (starEach [] X.env)).any (·.1) = false := by rfl) : SP X (.Call (.Name "sorted" p) [e] [] pos) (mCallL fSorted ml) :=
  sp_callBL cr_sortedI opnl_sorted hb hm ha hg (he := he) (hpl := hpl)
end
end Ow

namespace Ow
open PySem L2 Enc
/-! ### dicts made turn by turn -/
def svD : D → Option V
  | .s w => if scl w = true then some w else none
  | _ => none
theorem svD_er {u : T} {d : D} {w : V} (e : u.er = d) (h : svD d = some w) : u.val = w ∧ scl w = true := by
  subst e
  cases u with
  | s z =>
    rw [T.er, svD] at h
    split at h
    · rename_i hz
      cases h
      have : scl z = true := by
        unfold hid at hz
        split at hz
        · assumption
        · cases hz
      rw [hid_scl this]
      exact ⟨rfl, this⟩
    · cases h
  | n k' a ts => rw [T.er] at h; cases h
  | w z k' a ts => rw [T.er] at h; cases h
def dcD (g : Tg) (mt : BM) (mx mv : PM) (e0 : Env) : List D → List (Key × V) → Option (List (Key × V))
  | [], kvs => some kvs
  | d :: ds, kvs => (bD g d e0).bind fun e1 => (mt e1).bind fun b => if b = true then (mx e1).bind fun x => (keyD x).bind fun k => (mv e1).bind fun v => (svD v).bind fun w => dcD g mt mx mv e0 ds (putK kvs k w) else dcD g mt mx mv e0 ds kvs
def mDc (mi : LM) (g : Tg) (mt : BM) (mx mv : PM) (vs : List Nat) : PM := fun env => (mi env).bind fun ds => if ds.length ≤ 16777216 then (dcD g mt mx mv (wipeD env vs) ds []).map fun kvs => dicD .o kvs else none
structure DcW (H H1 : Hp) (Dl : Addr) (g : Tg) (mt : BM) (mx mv : PM) (e0 : Env) (ds : List D) (rs : List (Key × V)) (i m : Nat) (H' : Hp) : Prop where
  le : i ≤ ds.length
  ms : m = ds.length - i
  ex : Ex H1 H'
  acc : ∃ kvs, H' Dl = some (.dK kvs) ∧ (kvs.map (·.2)).all scl = true ∧ kvs.length ≤ i ∧ dcD g mt mx mv e0 (ds.drop i) kvs = some rs
theorem putK_len (kvs : List (Key × V)) (k : Key) (w : V) : (putK kvs k w).length ≤ kvs.length + 1 := by
  unfold putK
  split
  · rw [List.length_map]; omega
  · rw [List.length_append]; exact Nat.le_refl _
section
variable {X : Cx} {kx vx tg iter : Expr} {ifs : List Expr} {scope : Scope} {own : List (Str × Nat)} {pos : Pos} {mi : LM} {g : Tg} {mt : BM} {mx mv : PM}
theorem dc_rd {K : PySem.W.Frag} {σ : L2.St} {H : Hp} {Q : VK} {vs : List Nat} (hsl : ∀ i ∈ g.sl, i ∈ vs) (h : trP K (mDc mi g mt mx mv vs) σ H Q) : tDc (trI K mi) (gOf K g) (trT K mt) (trB K mx) (trB K mv) vs σ H Q := by
  obtain ⟨env, d, hm, r, s, k⟩ := h
  obtain ⟨ds, hi, hm⟩ := bind_some hm
  split at hm
  case isFalse => cases hm
  rename_i hlen
  obtain ⟨rs, hrs, rfl⟩ := map_some hm
  refine ⟨env, ds, hi, r, s, fun J src H1 x1 ss bs w Dl hD => ?_⟩
  rw [← wipe_er] at hrs
  refine ⟨DcW H H1 Dl g mt mx mv (erE (wipeT env vs)) ds rs, ⟨ds.length, ?_⟩, fun i m H2 W => ?_⟩
  · exact ⟨Nat.zero_le _, rfl, Evl.Ex.new hD, [], upd_same, rfl, Nat.le_refl _, hrs⟩
  obtain ⟨le, ms, ex, kvs, hacc, hscl, lacc, hrr⟩ := W
  have ss2 : satL K H2 src := satL_ex ex ss
  by_cases hi2 : i < ds.length
  · refine .inr ⟨w.go i H2 ss2 hi2, fun H' => ∃ m', m' < m ∧ DcW H H1 Dl g mt mx mv (erE (wipeT env vs)) ds rs (i + 1) m' H', fun H' h => h, fun x H3 hy => ?_⟩
    have hd := List.getElem?_eq_getElem hi2
    obtain ⟨t, rfl, et, x3, s3, c3, u3⟩ := w.yld i H2 x H3 ss2 hy _ hd
    have hdr : ds.drop i = ds[i] :: ds.drop (i + 1) := List.drop_eq_getElem_cons hi2
    rw [hdr, dcD] at hrr
    obtain ⟨e1, hb1, hrr⟩ := bind_some hrr
    obtain ⟨b, hb2, hb3⟩ := bind_some hrr
    rw [← et] at hb1
    have sw : SatE K H3 (wipeT env vs) := (wipe_sat ((s.ex x1).ex ex) vs).ex x3
    refine g_run g t (wipe σ vs) (wipeT env vs) e1 _ (wipe_rel r vs) s3 hb1 fun σ2 env2 B => ?_
    refine ⟨wipe_same B.len (fun i hi => (B.out i hi).1) hsl, ?_⟩
    have s2 : SatE K H3 env2 := fun u hu => by
      rcases B.sat u hu with q | q
      · exact sw u q
      · exact q
    have hl3 : H3 Dl = some (.dK kvs) := x3 Dl _ hacc
    refine ⟨env2, b, by rw [B.er]; exact hb2, B.rel, s2, fun H4 x4 => ?_⟩
    have hl4 : H4 Dl = some (.dK kvs) := x4 Dl _ hl3
    have ex4 : Ex H1 H4 := (ex.trans x3).trans x4
    cases b with
    | true =>
      rw [if_pos rfl] at hb3
      obtain ⟨x, hx, hb3⟩ := bind_some hb3
      obtain ⟨kk, hk, hb3⟩ := bind_some hb3
      obtain ⟨v, hv, hb3⟩ := bind_some hb3
      obtain ⟨wv, hw, hb3⟩ := bind_some hb3
      dsimp only
      rw [if_pos rfl]
      refine ⟨env2, x, by rw [B.er]; exact hx, B.rel, s2.ex x4, fun u H5 eu x5 s5 b5 => ⟨env2, v, by rw [B.er]; exact hv, B.rel, (s2.ex x4).ex x5, fun u2 H6 eu2 x6 s6 b6 => ?_⟩⟩
      have hl6 : H6 Dl = some (.dK kvs) := x6 Dl _ (x5 Dl _ hl4)
      obtain ⟨v1, v2⟩ := svD_er eu2 hw
      have hlt : kvs.length < 16777216 := by omega
      refine ⟨kvs, kk, key_er eu hk, hl6, by rw [sizeLine_eq]; exact hlt, m - 1, by omega, ?_⟩
      rw [v1]
      refine ⟨hi2, by omega, Evl.Ex.mut ((ex4.trans x5).trans x6) hD, putK kvs kk wv, upd_same, putK_scl hscl v2, ?_, hb3⟩
      have := putK_len kvs kk wv
      omega
    | false =>
      rw [if_neg Bool.false_ne_true] at hb3
      dsimp only
      rw [if_neg Bool.false_ne_true]
      exact ⟨m - 1, by omega, hi2, by omega, ex4, kvs, hl4, hscl, by omega, hb3⟩
  · have hi3 : ds.length ≤ i := Nat.le_of_not_lt hi2
    refine .inl ⟨w.stop i H2 ss2 hi3, ?_⟩
    rw [List.drop_eq_nil_of_le hi3, dcD] at hrr
    cases hrr
    refine k (.n (.dic .o (rs.map (·.1))) Dl (rs.map fun p => T.s p.2)) H2 (er_sc hscl) (x1.trans ex) ⟨⟨by rw [ho_sc]; exact hacc, rfl⟩, satL_sc _⟩ fun a => ?_
    have c4 : H1 a = none → H a = none := Evl.fresh_back x1
    rw [T.co, T.cu, coL_sc, cuL_sc]
    by_cases q : Dl = a
    · subst q
      refine ⟨by simp [Kd.own], fun _ => c4 hD, fun q => absurd q (by simp [Kd.own])⟩
    · rw [if_neg (fun z => q z.2), if_neg (fun z => q z.2)]
      exact ⟨by omega, fun z => absurd z (by omega), fun z => absurd z (by omega)⟩
theorem sp_dc (hc : X.calm = true) (hN : X.N.Nodup) (hi : SI X tg iter mi) (ok : blkC X.N X.env.scope scope own = true)
    (hg : ∀ (s : Shared) (H : Hp) (C : Addr) (cl : List (Str × Addr)) (fp : List Addr), SG (X.blk s H scope (compEnvC scope cl C X.env) fp) tg g) (ht : ∀ (s : Shared) (H : Hp) (C : Addr) (cl : List (Str × Addr)) (fp : List Addr), STs (X.blk s H scope (compEnvC scope cl C X.env) fp) ifs mt)
    (hk : ∀ (s : Shared) (H : Hp) (C : Addr) (cl : List (Str × Addr)) (fp : List Addr), SB (X.blk s H scope (compEnvC scope cl C X.env) fp) kx mx)
    (he : ∀ (s : Shared) (H : Hp) (C : Addr) (cl : List (Str × Addr)) (fp : List Addr), SB (X.blk s H scope (compEnvC scope cl C X.env) fp) vx mv) (hsl : ∀ i ∈ g.sl, i ∈ own.map (·.2)) (hs : ∀ x, foldedSetIterable iter X.env x = pure x := by intro _; rfl) :
    SP X (.DictComp kx vx [⟨tg, iter, ifs, 0⟩] scope pos) (mDc mi g mt mx mv (own.map (·.2))) :=
  PE.weak (pe_dc (own := own) (g := gOf X.K g) (tt := trT X.K mt) (tk := trB X.K mx) (tv := trB X.K mv) hc hN hi (blkOk_by ok) hg ht hk he hs) fun σ H Q h => dc_rd hsl h
end
end Ow

namespace Ow
open PySem L2 Enc
section
variable {K : PySem.W.Frag} {H0 H : Hp} {env0 env : TEnv} {σ : L2.St} {F ts : List T} {k : Kd} {p : Addr}
/-- trees at hand put into a new one -/
theorem Cf.node (c : Cf K H0 env0 σ H (ts ++ F) env) (hk : k.isw = false) (hp : H p = none) : Cf K H0 env0 σ (upd H p (k.ho (vals ts))) (T.n k p ts :: F) env := by
  have x : Ex H (upd H p (k.ho (vals ts))) := Evl.Ex.new hp
  have c' := c.ex x
  have sF := satL_append.mp c'.satF
  have z1 : ¬ 0 < coL p (ts ++ F) := fun h => coL_some _ c.satF h hp
  have z2 : ¬ 0 < cuL p (ts ++ F) := fun h => cuL_some _ c.satF h hp
  have z3 : ¬ 0 < coE p env := fun h => coE_some c.satE h hp
  have z4 : ¬ 0 < cuE p env := fun h => cuE_some c.satE h hp
  rw [coL_append] at z1
  rw [cuL_append] at z2
  refine ⟨c'.rel, ⟨⟨⟨upd_same, hk⟩, sF.1⟩, sF.2⟩, c'.satE, fun a => ?_, ⟨fun a o h hc => ?_, fun a h => ?_, fun a => ?_⟩⟩
  · have w := c.wf a
    simp only [coL_append, cuL_append] at w
    simp only [coL, cuL, T.co, T.cu]
    by_cases q : p = a
    · subst q
      by_cases o : k.own = true
      · rw [if_pos ⟨o, rfl⟩, if_neg (fun z => by rw [o] at z; exact absurd z.1 (by decide))]
        omega
      · have o' : k.own = false := by simpa using o
        rw [if_neg (fun z => o z.1), if_pos ⟨o', rfl⟩]
        omega
    · rw [if_neg (fun z => q z.2), if_neg (fun z => q z.2)]
      omega
  · exact x a o (c.stp.1 a o h hc)
  · exact c.stp.2.1 a (Evl.fresh_back x h)
  · have s3 := c.stp.2.2 a
    simp only [coL_append, cuL_append] at s3
    simp only [coL, cuL, T.co, T.cu]
    by_cases q : p = a
    · subst q
      have hn := c.stp.2.1 p hp
      exact ⟨fun _ => .inr hn, fun _ => .inr (.inr hn)⟩
    · rw [if_neg (fun z => q z.2), if_neg (fun z => q z.2)]
      refine ⟨fun h => s3.1 (by omega), fun h => s3.2 (by omega)⟩
end
section
variable {X : Cx} {e a b : Expr} {me m1 m2 : EM} {pos p : Pos} {U : List Nat}
/-- a pair of what may change things -/
def eTup2 (m1 m2 : EM) : EM := fun env => (m1 env).bind fun x => (m2 x.2).map fun y => (.n .tup [x.1, y.1], y.2)
theorem se_tup2 {x1} (ha : SE X U a m1) (hb : SE X U b m2) (h1s : starEach [a, b] X.env = (false, eval a X.env) :: starEach [b] X.env := by rfl) (h2s : starEach [b] X.env = (false, eval b X.env) :: starEach [] X.env := by rfl) : SE X U (.Tuple [a, b] x1 pos) (eTup2 m1 m2) :=
  PE.weak (pe_tup (pa_cons ha (pa_cons hb pa_nil h2s) h1s)) fun σ H Q ⟨env, d, e', hm, r, s, w, k⟩ => by
    obtain ⟨x, hx, hm⟩ := bind_some hm
    obtain ⟨y, hy, e1⟩ := map_some hm
    cases e1
    unfold tTup tCons tNil
    refine goE (d := x.1) (e' := x.2) (Cf.start r s w) hx fun t1 env1 H1 e1 e2 c1 u1 => ?_
    rw [← e2] at hy
    refine goE (d := y.1) (e' := y.2) c1 hy fun t2 env2 H2 e3 e4 c2 u2 => ?_
    refine ⟨sizeLine_le (by simp), fun q hq => ?_⟩
    have c3 : Cf X.K H env σ H2 ([t1, t2] ++ []) env2 := c2.less c2.rel ⟨c2.satF.2.1, c2.satF.1, trivial⟩ c2.satE (fun a => by simp only [coL, List.append_nil]; omega) (fun a => by simp only [cuL, List.append_nil]; omega)
    have c4 := c3.node (k := .tup) rfl hq
    exact k (.n .tup q [t1, t2]) env2 _ (by rw [T.er, erL, erL, erL, e1, e3]) e4 c4 (fun i hi => (u2 i hi).trans (u1 i hi))
/-- sorted(..) of what may change things -/
def eSorted (me : EM) : EM := fun env => (me env).bind fun x => (fSorted [x.1]).map fun ds => (.n (.lst .o) ds, x.2)
theorem se_sorted (hm : X.mg "sorted" = none) (ha : SE X U e me) (hb : bootBuiltins "sorted" = some (.builtin "sorted") := by decide +kernel) (hg : Gl X "sorted" := by rfl)
    (hn : ("sorted" : Str) ≠ "__name__" := by decide) (hdb : (("sorted" : Str) == ("__debug__" : Str)) = false := by decide) (he : starEach [e] X.env = (false, eval e X.env) :: starEach [] X.env := by rfl) (hpl : (backTo pos (starEach [] X.env)).any (·.1) = false := by rfl) : SE X U (.Call (.Name "sorted" p) [e] [] pos) (eSorted me) :=
  PE.weak (pe_callB cr_sortedI hg hm hb (pa_cons ha pa_nil he) hn hdb he hpl) fun σ H Q ⟨env, d, e', hmm, r, s, w, k⟩ => by
    obtain ⟨x, hx, hmm⟩ := bind_some hmm
    obtain ⟨ds, hs, e1⟩ := map_some hmm
    cases e1
    unfold tCB tCons tNil
    refine goE (d := x.1) (e' := x.2) (Cf.start r s w) hx fun t1 env1 H1 e1 e2 c1 u1 => ?_
    obtain ⟨ns, h1, rfl⟩ := map_some hs
    obtain ⟨a, g1, g2⟩ := li_of (ts := [t1]) ⟨c1.satF.1, trivial⟩ (by rw [erL, erL, e1]; exact h1)
    refine ⟨a, ns, g1, g2, fun ns' q h2 h3 hq => ?_⟩
    rw [srt_eq h2 h3, ← vals_ints]
    have c3 : Cf X.K H env σ H1 (((srt ns).map fun i => T.s (.int i)) ++ []) env1 := c1.less c1.rel (by rw [List.append_nil]; exact sat_ints _) c1.satE (fun b => by rw [List.append_nil, co_ints]; omega) (fun b => by rw [List.append_nil, cu_ints]; omega)
    have c4 := c3.node (k := .lst .o) rfl hq
    exact k (.n (.lst .o) q _) env1 _ (by rw [T.er, erL_ints]) e2 c4 u1
end
end Ow

namespace Ow
open PySem L2 Enc
section
variable {X : Cx} {P : List Nat}
theorem sw_dc {kx vx : Expr} {gs : List Comprehension} {sc : Scope} {po pn : Pos} {y : PySem.Str} {n : Nat} {ev : PySem.Env} (h1 : ev.scope.kind = .function) (h2 : ev.scope.names.lookup y = some .local) (h3 : (pn.line == po.line) = true)
    (h4 : (sc.names.any fun (z, q) => z == y && (q == .local || q == .cell)) = false) :
    swapsWith (.DictComp kx vx gs sc po) (some (.Name y pn)) n ev = pure true := by
  have e1 : ev.kindOf y = some .local := h2
  have e2 : ev.blockKind = .function := by
    rw [Env.blockKind, h1]; rfl
  unfold swapsWith
  simp only [e2, e1, h4, Expr.pos, h3]
  rfl
theorem ss_setDc {kx vx tg it : Expr} {ifs : List Expr} {sc : Scope} {own : List (PySem.Str × Nat)} {mi : LM} {g : Tg} {mt : BM} {mx mv : PM} {y : PySem.Str} {pn po ps : Pos} (i : Nat) (hP : i ∉ P) (hc : X.calm = true) (hN : X.N.Nodup) (hi : SI X tg it mi) (ok : blkC X.N X.env.scope sc own = true)
    (hg : ∀ (s : Shared) (H : Hp) (C : Addr) (cl : List (PySem.Str × Addr)) (fp : List Addr), SG (X.blk s H sc (compEnvC sc cl C X.env) fp) tg g)
    (ht : ∀ (s : Shared) (H : Hp) (C : Addr) (cl : List (PySem.Str × Addr)) (fp : List Addr), STs (X.blk s H sc (compEnvC sc cl C X.env) fp) ifs mt)
    (hk : ∀ (s : Shared) (H : Hp) (C : Addr) (cl : List (PySem.Str × Addr)) (fp : List Addr), SB (X.blk s H sc (compEnvC sc cl C X.env) fp) kx mx)
    (he : ∀ (s : Shared) (H : Hp) (C : Addr) (cl : List (PySem.Str × Addr)) (fp : List Addr), SB (X.blk s H sc (compEnvC sc cl C X.env) fp) vx mv) (hsl : ∀ j ∈ g.sl, j ∈ own.map (·.2))
    (hw : swapsWith (.DictComp kx vx [⟨tg, it, ifs, 0⟩] sc po) (some (.Name y pn)) ps.line X.env = pure true) (hy : X.N[i]? = some y := by rfl) (hl : X.env.scope.names.lookup y = some .local := by rfl) (hs : ∀ x, foldedSetIterable it X.env x = pure x := by intro _; rfl) :
    SS X P (.Assign [.Name y pn] (.DictComp kx vx [⟨tg, it, ifs, 0⟩] sc po) ps) (sSet i (lift (mDc mi g mt mx mv (own.map (·.2))))) := ⟨fun pins s σ H De I h => by
  have z : tDc (trI X.K mi) (gOf X.K g) (trT X.K mt) (trB X.K mx) (trB X.K mv) (own.map (·.2)) σ H (fun x H1 => gName i x σ H1 De.nx) := by
    obtain ⟨env, d, e', hm, r, sa, w, k⟩ := asg_rd (K := X.K) hP h
    obtain ⟨x, hx, e1⟩ := map_some hm
    cases e1
    exact dc_rd hsl (goP (Cf.start r sa w) hx fun t H' e1 x c => k t env H' e1 rfl c fun _ _ => rfl)
  rw [exec_Assign_Name_used _ _ _ _ hw]
  refine wpAny_bind (wpAny_standAt ?_)
  refine wpAny_bind ?_
  show wpAny _ X.A (do
    let _ ← comprehension (.DictComp kx vx [⟨tg, it, ifs, 0⟩] sc po) sc X.env (firstIterPos [⟨tg, it, ifs, 0⟩] po) newDict false (eval it X.env) (some (assign (.Name y pn) X.env))) _ _ s
  have fin := dc_core (own := own) (g := gOf X.K g) (tt := trT X.K mt) (tk := trB X.K mx) (tv := trB X.K mv) (use := some (assign (.Name y pn) X.env)) (pos' := firstIterPos [⟨tg, it, ifs, 0⟩] po) (pos := po) (Qf := fun _ s' => L2.SP X pins De .next s') hc hN I hi (blkOk_by ok) hg ht hk he hs z
  refine wpAny_bind (thn (fin fun D C s2 m H2 I2 zz hn f => ?_) fun _ s3 hq => wpAny_pure (wpAny_pure hq))
  show wpAny _ _ (assign (.Name y pn) X.env (.ref D)) _ _ _
  refine wpAny_assign_Name (store_ok2 (v := .ref D) I2 hN hy (Or.inl hl) rfl (fun s4 I4 hx => ?_) (Or.inr hl))
  obtain ⟨a, sb, ha⟩ := hx
  have ne : C ≠ a := by
    rcases ha with u | u
    · rw [u]; exact f.2.1
    · exact fun e => f.2.2.2.2.1 y a u e.symm
  exact ⟨m, hn.sameBut sb ne, fun h3 sb3 => ⟨_, H2, I4.turned (t' := s4.toks) (fun b o hb e => (sb3.2 b hb).trans e) f.1 f.2.1 f.2.2.2.1 f.2.2.2.2.1 f.2.2.2.2.2, zz⟩⟩⟩
end
end Ow

namespace Lw
open PySem L2 Ow Enc
theorem small_mul {i k : Int} (h : 0 ≤ i ∧ i < 2 ^ 100) (h2 : 0 ≤ k ∧ k < 2 ^ 100) : CMulW i k := mul_ok (by omega) (by omega)
theorem script_item (ns : List Int) {k : Int} (h0 : 0 ≤ k) (h1 : k < ns.length) : fItem (scriptD ns) (.s (.int k)) = some (.s (.int (ns[k.toNat]'(by omega)))) := item_en .w ns h0 h1
theorem script_len (ns : List Int) : fLen [scriptD ns] = some (.int (ns.length : Int)) := len_en .w ns
theorem script_frz (ns : List Int) : (scriptD ns).frz = scriptD ns := Enc.frz (α := List Int) .w ns
theorem pow18 : fPow (.s (.int 10)) (.s (.int 18)) = some (.int 1000000000000000000) := fPow_int (by decide)
theorem kit_ii : kitB "int" "int" = some true := by decide +kernel
theorem kit_ib : kitB "int" "bool" = some false := by decide +kernel
theorem tyN_en {α : Type} [Enc α] (o : Fl) (xs : List α) : tyN (en o xs) = some "list" := rfl
theorem cat_ints {e : Ow.Env} {ma mb : PM} {xs ys : List Int} (h1 : ma e = some (en .o xs)) (h2 : mb e = some (en .o ys)) (hl : xs.length + ys.length ≤ 16777216) : mCat ma mb e = some (en .o (xs ++ ys)) := by
  have hp : pureL ((xs ++ ys).map fun i => D.s (.int i)) = true := pure_ints (fun i => i) _
  have e0 : ((xs.map fun i => D.s (.int i)) ++ ys.map fun i => D.s (.int i)) = (xs ++ ys).map fun i => D.s (.int i) := by simp
  unfold mCat
  rw [h1, h2]
  show Option.bind (fCat (.n (.lst .o) (xs.map fun i => D.s (.int i))) (.n (.lst .o) (ys.map fun i => D.s (.int i)))) _ = _
  rw [fCat_c0, List.length_map, List.length_map, if_pos (by simp [hl]), Option.bind_some, e0, if_pos hp]
  rfl
theorem erase_map {α β : Type} (f : α → β) : ∀ (l : List α) (j : Nat), (l.eraseIdx j).map f = (l.map f).eraseIdx j
  | [], _ => rfl
  | _ :: _, 0 => rfl
  | x :: l, j + 1 => by
    rw [List.eraseIdx_cons_succ, List.map_cons, List.map_cons, List.eraseIdx_cons_succ, erase_map f l j]
theorem forM_app {e : Ow.Env} {j : Nat} {mb : SM} {f : List Int → List Int} (hf : ∀ xs : List Int, xs.length ≤ 1000 → ∃ e2, mb (e.set j (some (en .o xs))) = some (.nx, e2) ∧ e2[j]?.join = some (en .o (f xs)) ∧ e2.set j none = e) : ∀ (xs : List (List Int)) (done : List D), (∀ r ∈ xs, r.length ≤ 1000) → forMD j mb done (xs.map (en .o)) e = some (done ++ xs.map (fun r => en .o (f r)), e)
  | [], done, _ => by simp [forMD]
  | x :: xs, done, h => by
    obtain ⟨e2, h1, h2, h3⟩ := hf x (h x (List.mem_cons_self ..))
    rw [List.map_cons, forMD, h1, Option.bind_some]
    dsimp only
    rw [h2, Option.bind_some, h3, forM_app hf xs _ (fun r hr => h r (List.mem_cons_of_mem _ hr))]
    simp
theorem cut_lo (xs : List D) (k : Nat) (h : k ≤ xs.length) : cutG xs none (some (k : Int)) = xs.take k := by
  unfold cutG
  rw [HT.sIx_none, HT.sIx_nat, Nat.min_eq_left h]
  simp
theorem cut_hi (xs : List D) (k : Nat) (h : k ≤ xs.length) : cutG xs (some (k : Int)) none = xs.drop k := by
  unfold cutG
  rw [HT.sIx_none, HT.sIx_nat, Nat.min_eq_left h]
  rw [List.take_of_length_le (by simp)]
theorem sl_lo {e : Ow.Env} {m mi : PM} {o : Fl} {xs : List Int} {k : Nat} (h1 : m e = some (en o xs)) (h2 : mi e = some (.s (.int k))) (hk : k ≤ xs.length) : mSl m oNo (oYes mi) e = some (en .o (xs.take k)) := by
  have hd : ∀ ys : List Int, pureL (ys.map (en o)) = true := fun ys => pure_ints (fun i => i) ys
  unfold mSl
  rw [h1, en_list]
  show Option.bind (oYes mi e) _ = _
  unfold oYes
  rw [h2]
  show (if pureL (cutG (xs.map (en o)) none (some (k : Int))) = true then some (D.n (.lst .o) (cutG (xs.map (en o)) none (some (k : Int)))) else none) = _
  rw [cut_lo _ _ (by rw [List.length_map]; omega), ← List.map_take, if_pos (hd _)]
  rfl
theorem sl_hi {e : Ow.Env} {m mi : PM} {o : Fl} {xs : List Int} {k : Nat} (h1 : m e = some (en o xs)) (h2 : mi e = some (.s (.int k))) (hk : k ≤ xs.length) : mSl m (oYes mi) oNo e = some (en .o (xs.drop k)) := by
  have hd : ∀ ys : List Int, pureL (ys.map (en o)) = true := fun ys => pure_ints (fun i => i) ys
  unfold mSl
  rw [h1, en_list]
  show Option.bind (oYes mi e) _ = _
  unfold oYes
  rw [h2]
  show (if pureL (cutG (xs.map (en o)) (some (k : Int)) none) = true then some (D.n (.lst .o) (cutG (xs.map (en o)) (some (k : Int)) none)) else none) = _
  rw [cut_hi _ _ (by rw [List.length_map]; omega), ← List.map_drop, if_pos (hd _)]
  rfl
/-- xs.pop(j) -/
theorem pop1 {i : Nat} {me : PM} {e : Ow.Env} {xs : List Int} {j : Int} (h1 : me e = some (.s (.int j))) (h2 : e[i]? = some (some (en .o xs))) (h0 : 0 ≤ j) (hj : j < xs.length) (hl : xs.length ≤ 16777216) :
    ePopAt i (plName i) (lift me) e = some (en .o (xs[j.toNat]'(by omega)), e.set i (some (en .o (xs.eraseIdx j.toNat)))) := by
  have i1 : ixN (xs.map (en .o) : List D).length j = some j.toNat := by rw [List.length_map]; exact ixN_ok h0 hj
  have i3 : (xs.map (en .o) : List D)[j.toNat]? = some (en .o (xs[j.toNat]'(by omega))) := by rw [List.getElem?_map, List.getElem?_eq_getElem (by omega)]; rfl
  have i5 : ((xs.map (en .o) : List D).eraseIdx j.toNat) = (xs.eraseIdx j.toNat).map (en .o) := (erase_map (en Fl.o) xs j.toNat).symm
  have i4 : (xs.map (en .o) : List D).length ≤ 16777216 := by rw [List.length_map]; omega
  have w2 : en .o (xs.eraseIdx j.toNat) = D.n (.lst .o) ((xs.map (en .o) : List D).eraseIdx j.toNat) := by rw [i5]; rfl
  unfold ePopAt plName lift
  rw [h2, h1, w2, en_list]
  generalize xs.map (en .o) = ds at *
  simp [i1, i3, i4]
/-- xs[j] = v -/
theorem put1 {α : Type} [Enc α] {i : Nat} {mi mv : PM} {e : Ow.Env} {xs : List α} {j : Int} {v : α} (h1 : mi e = some (.s (.int j))) (hv : mv e = some (en .o v)) (h2 : e[i]? = some (some (en .o xs))) (h0 : 0 ≤ j) (hj : j < xs.length) :
    sPut i (plName i) mi (lift mv) e = some (.nx, e.set i (some (en .o (xs.set j.toNat v)))) := by
  unfold sPut plName lift
  rw [hv]
  simp only [Option.map_some, Option.bind_some]
  rw [h2, h1]
  simp only [Option.join_some, Option.map_some, Option.bind_some, toI_c0, en_list, modD, List.length_map]
  rw [ixN_ok h0 hj]
  simp only [Option.map_some, List.map_set]
end Lw

namespace Lw
open PySem L2 Ow Enc
/-! ### near places, plainly -/
abbrev Tie := Int × Int
def nb (p : Int) (t : Tie) : Option Int := if t.1 = p then some t.2 else if t.2 = p then some t.1 else none
def nbs (ts : List Tie) (p : Int) : List Int := ts.filterMap (nb p)
def nlaw (ts : List Tie) (p : Int) : List Int := (ts.filter fun t => decide (t.2 = p)).map (·.1) ++ (ts.filter fun t => decide (t.1 = p)).map (·.2)
def Srt (ts : List Tie) : Prop := ts.Pairwise (fun s t => s.1 ≤ t.1) ∧ ∀ t ∈ ts, t.1 < t.2
theorem nbs_law (p : Int) : ∀ ts : List Tie, Srt ts → nbs ts p = nlaw ts p
  | [], _ => rfl
  | t :: ts, ⟨h1, h2⟩ => by
    rw [List.pairwise_cons] at h1
    have ih := nbs_law p ts ⟨h1.2, fun x hx => h2 x (List.mem_cons_of_mem _ hx)⟩
    have ht := h2 t (List.mem_cons_self ..)
    unfold nbs nlaw at *
    by_cases c1 : t.1 = p
    · have e0 : ts.filter (fun t => decide (t.2 = p)) = [] := by
        rw [List.filter_eq_nil_iff]
        intro x hx
        have a := h1.1 x hx
        have b := h2 x (List.mem_cons_of_mem _ hx)
        simp only [decide_eq_true_eq]
        omega
      have c2 : ¬ t.2 = p := by omega
      rw [e0] at ih
      simp only [List.map_nil, List.nil_append] at ih
      simp [List.filterMap_cons, nb, c1, c2, e0]
      exact ih
    · by_cases c2 : t.2 = p
      · have e : nb p t = some t.1 := by unfold nb; rw [if_neg c1, if_pos c2]
        rw [List.filterMap_cons, e]
        dsimp only
        rw [ih]
        simp [c1, c2]
      · have e : nb p t = none := by unfold nb; rw [if_neg c1, if_neg c2]
        rw [List.filterMap_cons, e]
        dsimp only
        rw [ih]
        simp [c1, c2]
def rows (n : Nat) (ts : List Tie) : List (List Int) := (List.range n).map fun (p : Nat) => nbs ts (p : Int)
theorem rows_len (n : Nat) (ts : List Tie) : (rows n ts).length = n := by unfold rows; simp
theorem rows_step {n : Nat} {ts : List Tie} {a b : Int} (h0 : 0 ≤ a) (h1 : a < b) : ((rows n ts).modify a.toNat (· ++ [b])).modify b.toNat (· ++ [a]) = rows n (ts ++ [(a, b)]) := by
  apply List.ext_getElem?
  intro j
  rw [List.getElem?_modify, List.getElem?_modify]
  unfold rows nbs
  rw [List.getElem?_map, List.getElem?_map]
  by_cases hj : j < n
  · rw [List.getElem?_range hj]
    simp only [Option.map_some, Option.map_map]
    rw [List.filterMap_append]
    by_cases c1 : a = (j : Int)
    · have c2 : ¬ b.toNat = j := by omega
      have c3 : a.toNat = j := by omega
      simp [nb, c1, c2, c3]
    · by_cases c2 : b = (j : Int)
      · have c3 : ¬ a.toNat = j := by omega
        simp [nb, c1, c2, c3]
      · have c3 : ¬ a.toNat = j := by omega
        have c4 : ¬ b.toNat = j := by omega
        simp [nb, c1, c2, c3, c4]
  · have : (List.range n)[j]? = none := List.getElem?_eq_none (by simp; omega)
    rw [this]
    rfl
theorem nbs_len (ts : List Tie) (p : Int) : (nbs ts p).length ≤ ts.length := List.length_filterMap_le ..
theorem Srt.erase {ts : List Tie} (h : Srt ts) (k : Nat) : Srt (ts.eraseIdx k) := ⟨List.Pairwise.sublist (List.eraseIdx_sublist ..) h.1, fun t ht => h.2 t ((List.eraseIdx_sublist ..).subset ht)⟩
/-! ### ways, plainly -/
def fct (w : Int) : Nat → Int
  | 0 => w
  | k + 1 => fct w k * (2 + (k : Int))
def pw (rs : List (List Int)) : Int := rs.foldl (fun w r => fct w (r.length - 2)) 1
theorem fct_bd {w : Int} {c : Nat} (h : w.natAbs < 2 ^ c) : ∀ k : Nat, k ≤ 250 → (fct w k).natAbs < 2 ^ (c + 8 * k)
  | 0, _ => h
  | k + 1, hk => by
    have ih := fct_bd h k (by omega)
    rw [fct]
    have := wide_lt (i := fct w k) (j := 2 + (k : Int)) (a := c + 8 * k) (b := 8) ih (by omega)
    have e : c + 8 * (k + 1) = c + 8 * k + 8 := by omega
    rw [e]; exact this
theorem pw_bd {rs : List (List Int)} (h : ∀ r ∈ rs, r.length ≤ 144) : ∀ (n : Nat), n ≤ rs.length → (pw (rs.take n)).natAbs < 2 ^ (1 + 1136 * n)
  | 0, _ => by simp [pw]
  | n + 1, hn => by
    have ih := pw_bd h n (by omega)
    rw [List.take_succ_eq_append_getElem (by omega)]
    unfold pw at *
    rw [List.foldl_append]
    have hr := h rs[n] (List.getElem_mem (by omega))
    have := fct_bd ih (rs[n].length - 2) (by omega)
    refine Nat.lt_of_lt_of_le this (Nat.pow_le_pow_right (by decide) (by omega))
end Lw

namespace Lw
open PySem L2 Ow Enc
/-! ### marks -/
def mst (m : Int → Int) (t : Tie) : Int → Int := fun x => if m x = max (m t.1) (m t.2) then min (m t.1) (m t.2) else m x
structure MI (ts : List Tie) (m : Int → Int) : Prop where
  le : ∀ x, m x ≤ x
  nn : ∀ x, 0 ≤ x → 0 ≤ m x
  idem : ∀ x, m (m x) = m x
  tie : ∀ t ∈ ts, m t.1 = m t.2
  cl : ∀ S : Int → Prop, (∀ t ∈ ts, (S t.1 ↔ S t.2)) → ∀ x y, m x = m y → (S x ↔ S y)
theorem MI.nil : MI [] fun x => x := ⟨fun _ => Int.le_refl _, fun _ h => h, fun _ => rfl, by simp, fun S _ x y h => by rw [show x = y from h]⟩
theorem MI.step {ts : List Tie} {m : Int → Int} (h : MI ts m) {t : Tie} (h0 : 0 ≤ t.1 ∧ 0 ≤ t.2) : MI (ts ++ [t]) (mst m t) := by
  have i1 := h.idem t.1
  have i2 := h.idem t.2
  have n1 := h.nn t.1 h0.1
  have n2 := h.nn t.2 h0.2
  have ab : ∀ z, z = max (m t.1) (m t.2) ∨ z = min (m t.1) (m t.2) → z = m t.1 ∨ z = m t.2 := fun z hz => by omega
  refine ⟨fun x => ?_, fun x hx => ?_, fun x => ?_, fun u hu => ?_, fun S hS x y hxy => ?_⟩
  · have := h.le x
    unfold mst
    split <;> omega
  · have := h.nn x hx
    unfold mst
    split <;> omega
  · unfold mst
    by_cases c : m x = max (m t.1) (m t.2)
    · rw [if_pos c]
      have e : m (min (m t.1) (m t.2)) = min (m t.1) (m t.2) := by
        rcases ab _ (.inr rfl) with q | q <;> rw [q] <;> assumption
      rw [e]
      split <;> rfl
    · rw [if_neg c, h.idem, if_neg c]
  · rw [List.mem_append, List.mem_singleton] at hu
    rcases hu with hu | rfl
    · unfold mst
      rw [h.tie u hu]
    · unfold mst
      by_cases c1 : m u.1 = max (m u.1) (m u.2)
      · by_cases c2 : m u.2 = max (m u.1) (m u.2)
        · rw [if_pos c1, if_pos c2]
        · rw [if_pos c1, if_neg c2]; omega
      · by_cases c2 : m u.2 = max (m u.1) (m u.2)
        · rw [if_neg c1, if_pos c2]; omega
        · omega
  · have hS0 : ∀ u ∈ ts, (S u.1 ↔ S u.2) := fun u hu => hS u (List.mem_append_left _ hu)
    have hSt : S t.1 ↔ S t.2 := hS t (List.mem_append_right _ (List.mem_singleton.mpr rfl))
    have c0 := h.cl S hS0
    by_cases q : m x = m y
    · exact c0 x y q
    · have key : ∀ z, (m z = m t.1 ∨ m z = m t.2) → (S z ↔ S t.1) := fun z hz => by
        rcases hz with hz | hz
        · exact c0 z t.1 hz
        · exact (c0 z t.2 hz).trans hSt.symm
      unfold mst at hxy
      by_cases c1 : m x = max (m t.1) (m t.2)
      · rw [if_pos c1] at hxy
        by_cases c2 : m y = max (m t.1) (m t.2)
        · omega
        · rw [if_neg c2] at hxy
          exact (key x (ab _ (.inl c1))).trans (key y (ab _ (.inr hxy.symm))).symm
      · rw [if_neg c1] at hxy
        by_cases c2 : m y = max (m t.1) (m t.2)
        · rw [if_pos c2] at hxy
          exact (key x (ab _ (.inr hxy))).trans (key y (ab _ (.inl c2))).symm
        · rw [if_neg c2] at hxy
          exact absurd hxy q
/-! ### lists of places -/
def allI (n : Nat) : List Int := (List.range n).map fun (i : Nat) => (i : Int)
theorem allI_len (n : Nat) : (allI n).length = n := by unfold allI; simp
theorem allI_mem {n : Nat} {x : Int} : x ∈ allI n ↔ 0 ≤ x ∧ x < n := by
  unfold allI
  rw [List.mem_map]
  constructor
  · rintro ⟨i, hi, rfl⟩
    rw [List.mem_range] at hi
    omega
  · intro h
    exact ⟨x.toNat, List.mem_range.mpr (by omega), by omega⟩
theorem allI_lt (n : Nat) : (allI n).Pairwise (· < ·) := by
  unfold allI
  rw [List.pairwise_map]
  exact (List.pairwise_lt_range (n := n)).imp (fun h => by omega)
theorem allI_nodup (n : Nat) : (allI n).Nodup := (allI_lt n).imp (fun h e => by omega)
theorem srt_filter {n : Nat} {g : List Int} {p : Int → Bool} (hg : g.Nodup) (h : ∀ x, x ∈ g ↔ (0 ≤ x ∧ x < n) ∧ p x = true) : srt g = (allI n).filter p := by
  refine (srt_eq ((List.perm_ext_iff_of_nodup ((allI_nodup n).filter p) hg).mpr fun x => ?_) (((allI_lt n).filter p).imp fun h => Int.le_of_lt h)).symm
  rw [List.mem_filter, allI_mem, h]
theorem nbs_mem {ts : List Tie} (h : ∀ t ∈ ts, t.1 < t.2) {p y : Int} : y ∈ nbs ts p ↔ (p, y) ∈ ts ∨ (y, p) ∈ ts := by
  unfold nbs
  rw [List.mem_filterMap]
  constructor
  · rintro ⟨t, ht, e⟩
    unfold nb at e
    split at e
    · rename_i c; cases e; subst c; exact .inl ht
    · split at e
      · rename_i c; cases e; subst c; exact .inr ht
      · cases e
  · rintro (ht | ht)
    · exact ⟨_, ht, by unfold nb; rw [if_pos rfl]⟩
    · have := h _ ht
      refine ⟨_, ht, ?_⟩
      unfold nb
      dsimp only at *
      rw [if_neg (by omega), if_pos rfl]
/-! ### the dict of places that wait -/
def wP (W : List Int) : List (Key × V) := W.map fun x => (Sum.inl x, .bl true)
def wD (W : List Int) : D := dicD .o (wP W)
theorem wP_scl (W : List Int) : ((wP W).map (·.2)).all scl = true := by
  unfold wP
  rw [List.map_map, List.all_map, List.all_eq_true]
  intro _ _; rfl
theorem wO (W : List Int) : dicO (wD W) = some (wP W) := dicO_dicD (wP_scl W)
theorem wDP (W : List Int) : dicP (wD W) = some (wP W) := dicP_dicD (o := .o) rfl (wP_scl W)
theorem wV (W : List Int) (x : Int) : (valV (wP W) (.inl x)).isSome = decide (x ∈ W) := by
  induction W with
  | nil => rfl
  | cons w W ih =>
    unfold wP at *
    rw [List.map_cons]
    by_cases c : w = x
    · rw [valV_pos (by rw [c])]
      simp [c]
    · rw [valV_neg (by simpa using c), ih]
      have : ¬ x = w := fun e => c e.symm
      simp [this]
theorem wDrop (W : List Int) (x : Int) : dropK (wP W) (.inl x) = wP (W.filter fun y => decide (y ≠ x)) := by
  unfold dropK wP
  rw [List.filter_map]
  congr 1
  apply List.filter_congr
  intro y _
  simp
end Lw

namespace Lw
open PySem L2 Ow
def topS (i : Nat) : Stmt := PySem.Challenge.pw_ringfloor_k03_parts.main.body.getD i (.Pass ⟨0, 0, 0, 0⟩)
structure Fs where
  f_near_places : Addr
  f_web_parts : Addr
  f_groups : Addr
  f_drain : Addr
  f__law_mixed : Addr
  f__law_box : Addr
  f__law_take : Addr
  f__law_whole : Addr
  f__law_ties : Addr
  f__law_row_alike : Addr
  f__law_rows_alike : Addr
  f__law_parts : Addr
  f_law : Addr
structure Ds where
  f_near_places : FuncData
  f_web_parts : FuncData
  f_groups : FuncData
  f_drain : FuncData
  f__law_mixed : FuncData
  f__law_box : FuncData
  f__law_take : FuncData
  f__law_whole : FuncData
  f__law_ties : FuncData
  f__law_row_alike : FuncData
  f__law_rows_alike : FuncData
  f__law_parts : FuncData
  f_law : FuncData
structure Tx (K : PySem.W.Frag) (mg : PySem.Str → Option Value) (f : Fs) (fd : Ds) : Prop where
  F_near_places : Fun K "near_places" "near_places" (topS 1) f.f_near_places fd.f_near_places
  g_near_places : mg "near_places" = some (.ref f.f_near_places)
  b_near_places : Binds K fd.f_near_places ["web"] []
  F_web_parts : Fun K "web_parts" "web_parts" (topS 3) f.f_web_parts fd.f_web_parts
  g_web_parts : mg "web_parts" = some (.ref f.f_web_parts)
  b_web_parts : Binds K fd.f_web_parts ["web"] []
  F_groups : Fun K "groups" "groups" (topS 4) f.f_groups fd.f_groups
  g_groups : mg "groups" = some (.ref f.f_groups)
  b_groups : Binds K fd.f_groups ["near", "places"] []
  F_drain : Fun K "drain" "drain" (topS 5) f.f_drain fd.f_drain
  g_drain : mg "drain" = some (.ref f.f_drain)
  b_drain : Binds K fd.f_drain ["near", "waiting", "start"] []
  F__law_mixed : Fun K "_law_mixed" "_law_mixed" (topS 7) f.f__law_mixed fd.f__law_mixed
  g__law_mixed : mg "_law_mixed" = some (.ref f.f__law_mixed)
  b__law_mixed : Binds K fd.f__law_mixed ["_law_cell", "_law_k"] []
  F__law_box : Fun K "_law_box" "_law_box" (topS 8) f.f__law_box fd.f__law_box
  g__law_box : mg "_law_box" = some (.ref f.f__law_box)
  b__law_box : Binds K fd.f__law_box ["_law_script", "_law_k"] []
  F__law_take : Fun K "_law_take" "_law_take" (topS 9) f.f__law_take fd.f__law_take
  g__law_take : mg "_law_take" = some (.ref f.f__law_take)
  b__law_take : Binds K fd.f__law_take ["_law_box_here", "_law_size"] []
  F__law_whole : Fun K "_law_whole" "_law_whole" (topS 10) f.f__law_whole fd.f__law_whole
  g__law_whole : mg "_law_whole" = some (.ref f.f__law_whole)
  b__law_whole : Binds K fd.f__law_whole ["_law_found"] []
  F__law_ties : Fun K "_law_ties" "_law_ties" (topS 11) f.f__law_ties fd.f__law_ties
  g__law_ties : mg "_law_ties" = some (.ref f.f__law_ties)
  b__law_ties : Binds K fd.f__law_ties ["_law_box_here", "_law_many", "_law_thin"] []
  F__law_row_alike : Fun K "_law_row_alike" "_law_row_alike" (topS 12) f.f__law_row_alike fd.f__law_row_alike
  g__law_row_alike : mg "_law_row_alike" = some (.ref f.f__law_row_alike)
  b__law_row_alike : Binds K fd.f__law_row_alike ["_law_told", "_law_due"] []
  F__law_rows_alike : Fun K "_law_rows_alike" "_law_rows_alike" (topS 13) f.f__law_rows_alike fd.f__law_rows_alike
  g__law_rows_alike : mg "_law_rows_alike" = some (.ref f.f__law_rows_alike)
  b__law_rows_alike : Binds K fd.f__law_rows_alike ["_law_told", "_law_due"] []
  F__law_parts : Fun K "_law_parts" "_law_parts" (topS 14) f.f__law_parts fd.f__law_parts
  g__law_parts : mg "_law_parts" = some (.ref f.f__law_parts)
  b__law_parts : Binds K fd.f__law_parts ["_law_many", "_law_ties_here"] []
  F_law : Fun K "law" "law" (topS 15) f.f_law fd.f_law
  g_law : mg "law" = some (.ref f.f_law)
  b_law : Binds K fd.f_law ["_law_script"] []
  m_all : mg "all" = none
  m_bool : mg "bool" = none
  m_int : mg "int" = none
  m_isinstance : mg "isinstance" = none
  m_len : mg "len" = none
  m_list : mg "list" = none
  m_max : mg "max" = none
  m_min : mg "min" = none
  m_range : mg "range" = none
  m_sorted : mg "sorted" = none
  m_zip : mg "zip" = none
section
variable {P : Program} {w : World} {K : PySem.W.Frag} {mg : PySem.Str → Option Value} {base : Heap} {f : Fs} {fd : Ds}
/-! near_places -/
abbrev nn_near_places : List PySem.Str := ["web", "many", "ties", "near", "less", "more", "_"]
theorem sc_near_places : FnScope nn_near_places ["web"] (defScope (topS 1)) := ⟨rfl, rfl, rfl, by decide +kernel, rfl, by decide +kernel, by decide +kernel⟩
def bb_near_places : SM := (sSeq (sAsg (.tp [(.nm 1), (.nm 2)]) (mPure (mVar 0))) (sSeq (sSet 3 (lift (mLc (wR (rg1 (mVar 1))) (.nm 6) bYes (mk (.lst .o) lNil) [6]))) (fun env => (sSeq (sFor (wL (mPure (mVar 2))) (.tp [(.nm 4), (.nm 5)]) (sSeq (sApp 3 (plItem 3 (plName 3) (mVar 4)) (lift (mPure (mVar 5)))) (sApp 3 (plItem 3 (plName 3) (mVar 5)) (lift (mPure (mVar 4)))))) (sRet (eMove 3))) (frzAt 2 env))))
def ff_near_places : FM := runP 7 bb_near_places
theorem ok_near_places (T : Tx K mg f fd) : FnOk P w K mg base CX0 1 f.f_near_places fd.f_near_places ["web"] (spP K 1 ff_near_places) :=
  have sc := sc_near_places
  fn_pure T.F_near_places sc (by decide) fun cdv A outer s H E hr => (sss_cons (ss_asg (sp_pure (sb_var 0)) (sg_tup rfl (sgs_cons (sg_name 1 sc.nd) (sgs_cons (sg_name 2 sc.nd) sgs_nil))) (by simp [Tg.sl, slL])) (sss_cons (ss_setLc (own := [("_", 6)]) 3 (by decide) rfl sc.nd (si_range1 T.m_range (sb_var 1)) (okb (N := nn_near_places) (sc := defScope (topS 1)) (by decide +kernel)) (fun _ _ _ _ _ => (sg_name 6 sc.nd)) (fun _ _ _ _ _ => sts_nil) (fun _ _ _ _ _ => (sp_lst spa_nil)) (by simp [Tg.sl, slL]) (sw_true rfl rfl rfl (by decide +kernel))) (sss_frz 2 (sss_cons (ss_for rfl PassesOwn.never (sj_list (sp_pure (sb_var 2))) (sg_tup rfl (sgs_cons (sg_name 4 sc.nd) (sgs_cons (sg_name 5 sc.nd) sgs_nil))) (sss_cons (ss_append (spl_item (spl_name 3) (sb_var 4)) (se_p (sp_pure (sb_var 5)))) (sss_one (ss_append (spl_item (spl_name 3) (sb_var 5)) (se_p (sp_pure (sb_var 4)))))) (by simp [Tg.sl, slL])) (sss_one (ss_ret (se_move 3 (by decide))))))))
/-! drain -/
abbrev nn_drain : List PySem.Str := ["near", "waiting", "start", "group", "at", "here", "place"]
theorem sc_drain : FnScope nn_drain ["near", "waiting", "start"] (defScope (topS 5)) := ⟨rfl, rfl, rfl, by decide +kernel, rfl, by decide +kernel, by decide +kernel⟩
def bb_drain : SM := (sSeq (sDdel 1 (mVar 2)) (sSeq (sSet 3 (lift (mk (.lst .o) (lCons (mPure (mVar 2)) lNil)))) (sSeq (sSet 4 (lift (mC (.int 0)))) (sSeq (whD (liftT (mB (mOp2 fLt (mVar 4) (mCall fLen (lCons (mVar 3) lNil))))) (sSeq (sSet 5 (lift (mPure (mItem (mVar 3) (mVar 4))))) (sSeq (sFor (wL (mPure (mItem (mVar 0) (mVar 5)))) (.nm 6) (sIf (liftT (mDin (mVar 6) (mVar 1))) (sSeq (sDdel 1 (mVar 6)) (sApp 3 (plName 3) (lift (mPure (mVar 6))))) sNx)) (sAugF 4 fAdd (mC (.int 1))))) 100000) (sRet (eMove 3))))))
def ff_drain : FMu := runM 7 [1] bb_drain
theorem ok_drain (T : Tx K mg f fd) : FnOk P w K mg base CX0 1 f.f_drain fd.f_drain ["near", "waiting", "start"] (spM K 3 [1] ff_drain) :=
  have sc := sc_drain
  fn_mut T.F_drain sc (by decide) (by decide) fun cdv A outer s H E hr => (sss_cons (ss_ddel (spl_name 1) (sb_var 2)) (sss_cons (ss_set 3 sc.nd (by decide) (se_p (sp_lst (spa_cons (sp_pure (sb_var 2)) spa_nil)))) (sss_cons (ss_set 4 sc.nd (by decide) (se_p sp_int)) (sss_cons (ss_while 100000 PassesOwn.never (set_t (st_lt (sb_var 4) (SP.sb (sp_callB call_len_seq opn_len bt_len T.m_len (sba_cons (sb_var 3) sba_nil))))) (sss_cons (ss_set 5 sc.nd (by decide) (se_p (sp_item (sb_var 3) (sb_var 4)))) (sss_cons (ss_for rfl PassesOwn.never (sj_list (sp_item (sb_var 0) (sb_var 5))) (sg_name 6 sc.nd) (sss_one (ss_if (set_t (st_din hr (sb_var 6) (sb_var 1))) (sss_cons (ss_ddel (spl_name 1) (sb_var 6)) (sss_one (ss_append (spl_name 3) (se_p (sp_pure (sb_var 6)))))) sss_nil)) (by simp [Tg.sl, slL])) (sss_one (ss_augAdd 4 sc.nd (by decide) (SP.sb sp_int)))))) (sss_one (ss_ret (se_move 3 (by decide))))))))
/-! _law_mixed -/
abbrev nn__law_mixed : List PySem.Str := ["_law_cell", "_law_k", "_law_whole_here"]
theorem sc__law_mixed : FnScope nn__law_mixed ["_law_cell", "_law_k"] (defScope (topS 7)) := ⟨rfl, rfl, rfl, by decide +kernel, rfl, by decide +kernel, by decide +kernel⟩
def bb__law_mixed : SM := (sSeq (sSet 2 (lift (mOp2 fMod (mOp2 fPow (mOp2 fAdd (mOp2 fAdd (mOp2 fAdd (mOp2 fMod (mVar 0) (mC (.int 2147483647))) (mOp2 fMul (mOp2 fMul (mC (.int 1009)) (mVar 1)) (mVar 1))) (mOp2 fMul (mC (.int 48611)) (mVar 1))) (mC (.int 17))) (mC (.int 5))) (mC (.int 2147483647))))) (sRet (lift (mOp2 fMod (mOp2 fAdd (mOp2 fMul (mVar 2) (mC (.int 39373))) (mOp2 fMul (mC (.int 7919)) (mVar 1))) (mC (.int 1000000007))))))
def ff__law_mixed : FM := runP 3 bb__law_mixed
theorem ok__law_mixed (T : Tx K mg f fd) : FnOk P w K mg base CX0 1 f.f__law_mixed fd.f__law_mixed ["_law_cell", "_law_k"] (spP K 2 ff__law_mixed) :=
  have sc := sc__law_mixed
  fn_pure T.F__law_mixed sc (by decide) fun cdv A outer s H E hr => (sss_cons (ss_set 2 sc.nd (by decide) (se_p (sp_mod (SP.sb (sp_pow (SP.sb (sp_add (SP.sb (sp_add (SP.sb (sp_add (SP.sb (sp_mod (sb_var 0) (SP.sb sp_int))) (SP.sb (sp_mul (SP.sb (sp_mul (SP.sb sp_int) (sb_var 1))) (sb_var 1))))) (SP.sb (sp_mul (SP.sb sp_int) (sb_var 1))))) (SP.sb sp_int))) (SP.sb sp_int))) (SP.sb sp_int)))) (sss_one (ss_ret (se_p (sp_mod (SP.sb (sp_add (SP.sb (sp_mul (sb_var 2) (SP.sb sp_int))) (SP.sb (sp_mul (SP.sb sp_int) (sb_var 1))))) (SP.sb sp_int))))))
/-! _law_whole -/
abbrev nn__law_whole : List PySem.Str := ["_law_found"]
theorem sc__law_whole : FnScope nn__law_whole ["_law_found"] (defScope (topS 10)) := ⟨rfl, rfl, rfl, by decide +kernel, rfl, by decide +kernel, by decide +kernel⟩
def bb__law_whole : SM := (sRet (lift (mAndV (mIsi "int" (mVar 0)) (mNotV (mIsi "bool" (mVar 0))))))
def ff__law_whole : FM := runP 1 bb__law_whole
theorem ok__law_whole (T : Tx K mg f fd) : FnOk P w K mg base CX0 1 f.f__law_whole fd.f__law_whole ["_law_found"] (spP K 1 ff__law_whole) :=
  have sc := sc__law_whole
  fn_pure T.F__law_whole sc (by decide) fun cdv A outer s H E hr => (sss_one (ss_ret (se_p (sp_and (sp_isi T.m_isinstance T.m_int bt_int (sb_var 0) bt_isinstance) (sp_one (sp_not (sp_isi T.m_isinstance T.m_bool bt_bool (sb_var 0) bt_isinstance)))))))
/-! _law_parts -/
abbrev nn__law_parts : List PySem.Str := ["_law_many", "_law_ties_here", "_law_marks", "_law_low", "_law_high", "_law_one", "_law_two", "_law_parts_here", "_law_first", "_law_mark", "_law_place"]
theorem sc__law_parts : FnScope nn__law_parts ["_law_many", "_law_ties_here"] (defScope (topS 14)) := ⟨rfl, rfl, rfl, by decide +kernel, rfl, by decide +kernel, by decide +kernel⟩
def bb__law_parts : SM := (sSeq (sSet 2 (lift (mRg (rg1 (mVar 0))))) (sSeq (sFor (wL (mPure (mVar 1))) (.tp [(.nm 3), (.nm 4)]) (sSeq (sSet 5 (lift (mCall fMin2 (lCons (mItem (mVar 2) (mVar 3)) (lCons (mItem (mVar 2) (mVar 4)) lNil))))) (sSeq (sSet 6 (lift (mCall fMax2 (lCons (mItem (mVar 2) (mVar 3)) (lCons (mItem (mVar 2) (mVar 4)) lNil))))) (sSet 2 (lift (mLc (wL (mVar 2)) (.nm 9) bYes (mIf (mB (mOp2 fEq (mVar 9) (mVar 6))) (mPure (mVar 5)) (mPure (mVar 9))) [9])))))) (sSeq (sSet 7 (lift (mk (.lst .o) lNil))) (sSeq (sFor (wR (rg1 (mVar 0))) (.nm 8) (sIf (liftT (mB (mOp2 fEq (mItem (mVar 2) (mVar 8)) (mVar 8)))) (sApp 7 (plName 7) (lift (mLc (wR (rg1 (mVar 0))) (.nm 10) (mB (mOp2 fEq (mItem (mVar 2) (mVar 10)) (mVar 8))) (mPure (mVar 10)) [10]))) sNx)) (sRet (eMove 7))))))
def ff__law_parts : FM := runP 11 bb__law_parts
theorem ok__law_parts (T : Tx K mg f fd) : FnOk P w K mg base CX0 1 f.f__law_parts fd.f__law_parts ["_law_many", "_law_ties_here"] (spP K 2 ff__law_parts) :=
  have sc := sc__law_parts
  fn_pure T.F__law_parts sc (by decide) fun cdv A outer s H E hr => (sss_cons (ss_set 2 sc.nd (by decide) (se_p (sp_listRg rfl T.m_list (srg_1 T.m_range (sb_var 0))))) (sss_cons (ss_for rfl PassesOwn.never (sj_list (sp_pure (sb_var 1))) (sg_tup rfl (sgs_cons (sg_name 3 sc.nd) (sgs_cons (sg_name 4 sc.nd) sgs_nil))) (sss_cons (ss_set 5 sc.nd (by decide) (se_p (sp_callB (call_min2 rfl) opn_min2 bt_min T.m_min (sba_cons (sb_item (sb_var 2) (sb_var 3)) (sba_cons (sb_item (sb_var 2) (sb_var 4)) sba_nil))))) (sss_cons (ss_set 6 sc.nd (by decide) (se_p (sp_callB (call_max2 rfl) opn_max2 bt_max T.m_max (sba_cons (sb_item (sb_var 2) (sb_var 3)) (sba_cons (sb_item (sb_var 2) (sb_var 4)) sba_nil))))) (sss_one (ss_set 2 sc.nd (by decide) (se_p (sp_lc (own := [("_law_mark", 9)]) rfl sc.nd (si_list (sb_var 2)) (okb (N := nn__law_parts) (sc := defScope (topS 14)) (by decide +kernel)) (fun _ _ _ _ _ => (sg_name 9 sc.nd)) (fun _ _ _ _ _ => sts_nil) (fun _ _ _ _ _ => (sp_if (st_eq hr (sb_var 9) (sb_var 6)) (sp_pure (sb_var 5)) (sp_pure (sb_var 9)))) (by simp [Tg.sl, slL]))))))) (by simp [Tg.sl, slL])) (sss_cons (ss_set 7 sc.nd (by decide) (se_p (sp_lst spa_nil))) (sss_cons (ss_for rfl PassesOwn.never (sj_range1 T.m_range (sb_var 0)) (sg_name 8 sc.nd) (sss_one (ss_if (set_t (st_eq hr (sb_item (sb_var 2) (sb_var 8)) (sb_var 8))) (sss_one (ss_append (spl_name 7) (se_p (sp_lc (own := [("_law_place", 10)]) rfl sc.nd (si_range1 T.m_range (sb_var 0)) (okb (N := nn__law_parts) (sc := defScope (topS 14)) (by decide +kernel)) (fun _ _ _ _ _ => (sg_name 10 sc.nd)) (fun _ _ _ _ _ => (sts_one (st_eq hr (sb_item (sb_var 2) (sb_var 10)) (sb_var 8)))) (fun _ _ _ _ _ => (sp_pure (sb_var 10))) (by simp [Tg.sl, slL]))))) sss_nil)) (by simp [Tg.sl, slL])) (sss_one (ss_ret (se_move 7 (by decide))))))))
/-! groups -/
abbrev nn_groups : List PySem.Str := ["near", "places", "waiting", "found", "place"]
theorem sc_groups : FnScope nn_groups ["near", "places"] (defScope (topS 4)) := ⟨rfl, rfl, rfl, by decide +kernel, rfl, by decide +kernel, by decide +kernel⟩
def bb_groups : SM := (sSeq (sSet 2 (lift (mDc (wL (mVar 1)) (.nm 4) bYes (mVar 4) (mC (.bl true)) [4]))) (sSeq (sSet 3 (lift (mk (.lst .o) lNil))) (sSeq (sFor (wL (mPure (mVar 1))) (.nm 4) (sIf (liftT (mDin (mVar 4) (mVar 2))) (sApp 3 (plName 3) (eSorted (eCallM ff_drain [.bor 0, .mv 2, .bor 4]))) sNx)) (sRet (eMove 3)))))
def ff_groups : FM := runP 5 bb_groups
theorem ok_groups (T : Tx K mg f fd) : FnOk P w K mg base CX0 2 f.f_groups fd.f_groups ["near", "places"] (spP K 2 ff_groups) :=
  have sc := sc_groups
  fn_pure T.F_groups sc (by decide) fun cdv A outer s H E hr => (sss_cons (ss_setDc (own := [("place", 4)]) 2 (by decide) rfl sc.nd (si_list (sb_var 1)) (okb (N := nn_groups) (sc := defScope (topS 4)) (by decide +kernel)) (fun _ _ _ _ _ => (sg_name 4 sc.nd)) (fun _ _ _ _ _ => sts_nil) (fun _ _ _ _ _ => (sb_var 4)) (fun _ _ _ _ _ => (SP.sb sp_bl)) (by simp [Tg.sl, slL]) (sw_dc rfl rfl rfl (by decide +kernel))) (sss_cons (ss_set 3 sc.nd (by decide) (se_p (sp_lst spa_nil))) (sss_cons (ss_for rfl PassesOwn.never (sj_list (sp_pure (sb_var 1))) (sg_name 4 sc.nd) (sss_one (ss_if (set_t (st_din hr (sb_var 4) (sb_var 2))) (sss_one (ss_append (spl_name 3) (se_sorted T.m_sorted (se_callM (ok_drain T) (hr.mono (by decide)) T.g_drain T.F_drain.kp T.b_drain pass0 rfl rfl (by simp [muS, boS]) (sea_bor 0 (sea_mut 2 (sea_bor 4 sea_nil))))))) sss_nil)) (by simp [Tg.sl, slL])) (sss_one (ss_ret (se_move 3 (by decide)))))))
/-! _law_box -/
abbrev nn__law_box : List PySem.Str := ["_law_script", "_law_k", "_law_cell"]
theorem sc__law_box : FnScope nn__law_box ["_law_script", "_law_k"] (defScope (topS 8)) := ⟨rfl, rfl, rfl, by decide +kernel, rfl, by decide +kernel, by decide +kernel⟩
def bb__law_box : SM := (sSeq (sSet 2 (lift (mFn ff__law_mixed (lCons (mOp2 fAdd (mVar 1) (mC (.int 5))) (lCons (mVar 1) lNil))))) (sSeq (sIf (liftT (mB (mOp2 fLt (mVar 1) (mCall fLen (lCons (mVar 0) lNil))))) (sSet 2 (lift (mPure (mItem (mVar 0) (mVar 1))))) (sIf (liftT (mB (mOp2 fGt (mCall fLen (lCons (mVar 0) lNil)) (mC (.int 0))))) (sSet 2 (lift (mFn ff__law_mixed (lCons (mItem (mVar 0) (mOp2 fMod (mVar 1) (mCall fLen (lCons (mVar 0) lNil)))) (lCons (mVar 1) lNil))))) sNx)) (sSeq (sIf (liftT (mB (mOp2 fGe (mVar 2) (mOp2 fPow (mC (.int 10)) (mC (.int 18)))))) (sRet (lift (mk (.lst .o) (lCons (mPure (mVar 2)) (lCons (mC (.int 0)) (lCons (mPure (mVar 2)) lNil)))))) sNx) (sRet (lift (mk (.lst .o) (lCons (mC (.int 0)) (lCons (mC (.int 0)) (lCons (mPure (mVar 2)) lNil)))))))))
def ff__law_box : FM := runP 3 bb__law_box
theorem ok__law_box (T : Tx K mg f fd) : FnOk P w K mg base CX0 2 f.f__law_box fd.f__law_box ["_law_script", "_law_k"] (spP K 2 ff__law_box) :=
  have sc := sc__law_box
  fn_pure T.F__law_box sc (by decide) fun cdv A outer s H E hr => (sss_cons (ss_set 2 sc.nd (by decide) (se_p (sp_call (ok__law_mixed T) rfl (hr.mono (by decide)) T.g__law_mixed T.F__law_mixed.kp T.b__law_mixed pass0 (sba_cons (SP.sb (sp_add (sb_var 1) (SP.sb sp_int))) (sba_cons (sb_var 1) sba_nil)) (lcl (lcl lnl))))) (sss_cons (ss_if (set_t (st_lt (sb_var 1) (SP.sb (sp_callB call_len_seq opn_len bt_len T.m_len (sba_cons (sb_var 0) sba_nil))))) (sss_one (ss_set 2 sc.nd (by decide) (se_p (sp_item (sb_var 0) (sb_var 1))))) (sss_one (ss_if (set_t (st_gt (SP.sb (sp_callB call_len_seq opn_len bt_len T.m_len (sba_cons (sb_var 0) sba_nil))) (SP.sb sp_int))) (sss_one (ss_set 2 sc.nd (by decide) (se_p (sp_call (ok__law_mixed T) rfl (hr.mono (by decide)) T.g__law_mixed T.F__law_mixed.kp T.b__law_mixed pass0 (sba_cons (sb_item (sb_var 0) (SP.sb (sp_mod (sb_var 1) (SP.sb (sp_callB call_len_seq opn_len bt_len T.m_len (sba_cons (sb_var 0) sba_nil)))))) (sba_cons (sb_var 1) sba_nil)) (lcl (lcl lnl)))))) sss_nil))) (sss_cons (ss_if (set_t (st_ge (sb_var 2) (SP.sb (sp_pow (SP.sb sp_int) (SP.sb sp_int))))) (sss_one (ss_ret (se_p (sp_lst (spa_cons (sp_pure (sb_var 2)) (spa_cons sp_int (spa_cons (sp_pure (sb_var 2)) spa_nil))))))) sss_nil) (sss_one (ss_ret (se_p (sp_lst (spa_cons sp_int (spa_cons sp_int (spa_cons (sp_pure (sb_var 2)) spa_nil))))))))))
/-! _law_take -/
abbrev nn__law_take : List PySem.Str := ["_law_box_here", "_law_size", "_law_found"]
theorem sc__law_take : FnScope nn__law_take ["_law_box_here", "_law_size"] (defScope (topS 9)) := ⟨rfl, rfl, rfl, by decide +kernel, rfl, by decide +kernel, by decide +kernel⟩
def bb__law_take : SM := (sSeq (sPut 0 (plName 0) (mC (.int 1)) (lift (mOp2 fAdd (mItem (mVar 0) (mC (.int 1))) (mC (.int 1))))) (sSeq (sIf (liftT (mB (mOp2 fGt (mItem (mVar 0) (mC (.int 0))) (mC (.int 0))))) (sSeq (sSet 2 (lift (mOp2 fMod (mItem (mVar 0) (mC (.int 0))) (mVar 1)))) (sSeq (sPut 0 (plName 0) (mC (.int 0)) (lift (mOp2 fDiv (mItem (mVar 0) (mC (.int 0))) (mVar 1)))) (sRet (eMove 2)))) sNx) (sRet (lift (mOp2 fMod (mFn ff__law_mixed (lCons (mItem (mVar 0) (mC (.int 2))) (lCons (mItem (mVar 0) (mC (.int 1))) lNil))) (mVar 1))))))
def ff__law_take : FMu := runM 3 [0] bb__law_take
theorem ok__law_take (T : Tx K mg f fd) : FnOk P w K mg base CX0 2 f.f__law_take fd.f__law_take ["_law_box_here", "_law_size"] (spM K 2 [0] ff__law_take) :=
  have sc := sc__law_take
  fn_mut T.F__law_take sc (by decide) (by decide) fun cdv A outer s H E hr => (sss_cons (ss_put (se_p (sp_add (sb_item (sb_var 0) (SP.sb sp_int)) (SP.sb sp_int))) (spl_name 0) (SP.sb sp_int)) (sss_cons (ss_if (set_t (st_gt (sb_item (sb_var 0) (SP.sb sp_int)) (SP.sb sp_int))) (sss_cons (ss_set 2 sc.nd (by decide) (se_p (sp_mod (sb_item (sb_var 0) (SP.sb sp_int)) (sb_var 1)))) (sss_cons (ss_put (se_p (sp_div (sb_item (sb_var 0) (SP.sb sp_int)) (sb_var 1))) (spl_name 0) (SP.sb sp_int)) (sss_one (ss_ret (se_move 2 (by decide)))))) sss_nil) (sss_one (ss_ret (se_p (sp_mod (SP.sb (sp_call (ok__law_mixed T) rfl (hr.mono (by decide)) T.g__law_mixed T.F__law_mixed.kp T.b__law_mixed pass0 (sba_cons (sb_item (sb_var 0) (SP.sb sp_int)) (sba_cons (sb_item (sb_var 0) (SP.sb sp_int)) sba_nil)) (lcl (lcl lnl)))) (sb_var 1)))))))
/-! _law_row_alike -/
abbrev nn__law_row_alike : List PySem.Str := ["_law_told", "_law_due", "_law_found"]
theorem sc__law_row_alike : FnScope nn__law_row_alike ["_law_told", "_law_due"] (defScope (topS 12)) := ⟨rfl, rfl, rfl, by decide +kernel, rfl, by decide +kernel, by decide +kernel⟩
def bb__law_row_alike : SM := (sSeq (sIf (liftT (mOr (mNotT (mB (mIsi "list" (mVar 0)))) (mB (mOp2 fNe (mCall fLen (lCons (mVar 0) lNil)) (mCall fLen (lCons (mVar 1) lNil)))))) (sRet (lift (mC (.bl false)))) sNx) (sRet (lift (mAndV (mCall fAll (lCons (mLc (wL (mVar 0)) (.nm 2) bYes (mFn ff__law_whole (lCons (mVar 2) lNil)) [2]) lNil)) (mOp2 fEq (mVar 0) (mVar 1))))))
def ff__law_row_alike : FM := runP 3 bb__law_row_alike
theorem ok__law_row_alike (T : Tx K mg f fd) : FnOk P w K mg base CX0 2 f.f__law_row_alike fd.f__law_row_alike ["_law_told", "_law_due"] (spP K 2 ff__law_row_alike) :=
  have sc := sc__law_row_alike
  fn_pure T.F__law_row_alike sc (by decide) fun cdv A outer s H E hr => (sss_cons (ss_if (set_t (st_w (sw_or (st_not (st_val (SP.sb (sp_isi T.m_isinstance T.m_list bt_list (sb_var 0) bt_isinstance)))) (sw_or1 (st_ne hr (SP.sb (sp_callB call_len_seq opn_len bt_len T.m_len (sba_cons (sb_var 0) sba_nil))) (SP.sb (sp_callB call_len_seq opn_len bt_len T.m_len (sba_cons (sb_var 1) sba_nil)))))))) (sss_one (ss_ret (se_p sp_bl))) sss_nil) (sss_one (ss_ret (se_p (sp_and (sp_callB (cr_all rfl) opn_all bt_all T.m_all (sba_cons (SP.sb (sp_lc (own := [("_law_found", 2)]) rfl sc.nd (si_list (sb_var 0)) (okb (N := nn__law_row_alike) (sc := defScope (topS 12)) (by decide +kernel)) (fun _ _ _ _ _ => (sg_name 2 sc.nd)) (fun _ _ _ _ _ => sts_nil) (fun _ _ _ _ _ => (sp_call (ok__law_whole T) rfl (hr.mono (by decide)) T.g__law_whole T.F__law_whole.kp T.b__law_whole pass0 (sba_cons (sb_var 2) sba_nil) (lcl lnl))) (by simp [Tg.sl, slL]))) sba_nil)) (sp_one (sp_eq hr (sb_var 0) (sb_var 1))))))))
/-! web_parts -/
abbrev nn_web_parts : List PySem.Str := ["web"]
theorem sc_web_parts : FnScope nn_web_parts ["web"] (defScope (topS 3)) := ⟨rfl, rfl, rfl, by decide +kernel, rfl, by decide +kernel, by decide +kernel⟩
def bb_web_parts : SM := (sRet (lift (mFn ff_groups (lCons (mFn ff_near_places (lCons (mVar 0) lNil)) (lCons (mRg (rg1 (mItem (mVar 0) (mC (.int 0))))) lNil)))))
def ff_web_parts : FM := runP 1 bb_web_parts
theorem ok_web_parts (T : Tx K mg f fd) : FnOk P w K mg base CX0 3 f.f_web_parts fd.f_web_parts ["web"] (spP K 1 ff_web_parts) :=
  have sc := sc_web_parts
  fn_pure T.F_web_parts sc (by decide) fun cdv A outer s H E hr => (sss_one (ss_ret (se_p (sp_call (ok_groups T) rfl (hr.mono (by decide)) T.g_groups T.F_groups.kp T.b_groups pass0 (sba_cons (SP.sb (sp_call (ok_near_places T) rfl (hr.mono (by decide)) T.g_near_places T.F_near_places.kp T.b_near_places pass0 (sba_cons (sb_var 0) sba_nil) (lcl lnl))) (sba_cons (SP.sb (sp_listRg rfl T.m_list (srg_1 T.m_range (sb_item (sb_var 0) (SP.sb sp_int))))) sba_nil)) (lcl (lcl lnl))))))
/-! _law_ties -/
abbrev nn__law_ties : List PySem.Str := ["_law_box_here", "_law_many", "_law_thin", "_law_ties_here", "_law_one", "_law_two"]
theorem sc__law_ties : FnScope nn__law_ties ["_law_box_here", "_law_many", "_law_thin"] (defScope (topS 11)) := ⟨rfl, rfl, rfl, by decide +kernel, rfl, by decide +kernel, by decide +kernel⟩
def bb__law_ties : SM := (sSeq (sSet 3 (lift (mk (.lst .o) lNil))) (sSeq (sFor (wR (rg1 (mVar 1))) (.nm 4) (sFor (wR (rg2 (mOp2 fAdd (mVar 4) (mC (.int 1))) (mVar 1))) (.nm 5) (sIf (eB (eOp2 fEq (eCallM ff__law_take [.mv 0, .bor 2]) (lift (mC (.int 0))))) (sApp 3 (plName 3) (lift (mk .tup (lCons (mPure (mVar 4)) (lCons (mPure (mVar 5)) lNil))))) sNx))) (sRet (eMove 3))))
def ff__law_ties : FMu := runM 6 [0] bb__law_ties
theorem ok__law_ties (T : Tx K mg f fd) : FnOk P w K mg base CX0 3 f.f__law_ties fd.f__law_ties ["_law_box_here", "_law_many", "_law_thin"] (spM K 3 [0] ff__law_ties) :=
  have sc := sc__law_ties
  fn_mut T.F__law_ties sc (by decide) (by decide) fun cdv A outer s H E hr => (sss_cons (ss_set 3 sc.nd (by decide) (se_p (sp_lst spa_nil))) (sss_cons (ss_for rfl PassesOwn.never (sj_range1 T.m_range (sb_var 1)) (sg_name 4 sc.nd) (sss_one (ss_for rfl PassesOwn.never (sj_range2 T.m_range (SP.sb (sp_add (sb_var 4) (SP.sb sp_int))) (sb_var 1)) (sg_name 5 sc.nd) (sss_one (ss_if (set_eq hr (se_callM (ok__law_take T) (hr.mono (by decide)) T.g__law_take T.F__law_take.kp T.b__law_take pass0 rfl rfl (by simp [muS, boS]) (sea_mut 0 (sea_bor 2 sea_nil))) (se_p sp_int)) (sss_one (ss_append (spl_name 3) (se_p (sp_tup (spa_cons (sp_pure (sb_var 4)) (spa_cons (sp_pure (sb_var 5)) spa_nil)))))) sss_nil)) (by simp [Tg.sl, slL]))) (by simp [Tg.sl, slL])) (sss_one (ss_ret (se_move 3 (by decide))))))
/-! _law_rows_alike -/
abbrev nn__law_rows_alike : List PySem.Str := ["_law_told", "_law_due", "_law_row", "_law_want"]
theorem sc__law_rows_alike : FnScope nn__law_rows_alike ["_law_told", "_law_due"] (defScope (topS 13)) := ⟨rfl, rfl, rfl, by decide +kernel, rfl, by decide +kernel, by decide +kernel⟩
def bb__law_rows_alike : SM := (sSeq (sIf (liftT (mOr (mNotT (mB (mIsi "list" (mVar 0)))) (mB (mOp2 fNe (mCall fLen (lCons (mVar 0) lNil)) (mCall fLen (lCons (mVar 1) lNil)))))) (sRet (lift (mC (.bl false)))) sNx) (sRet (lift (mCall fAll (lCons (mLc (wZ (mVar 0) (mVar 1)) (.tp [(.nm 2), (.nm 3)]) bYes (mFn ff__law_row_alike (lCons (mVar 2) (lCons (mVar 3) lNil))) [2, 3]) lNil)))))
def ff__law_rows_alike : FM := runP 4 bb__law_rows_alike
theorem ok__law_rows_alike (T : Tx K mg f fd) : FnOk P w K mg base CX0 3 f.f__law_rows_alike fd.f__law_rows_alike ["_law_told", "_law_due"] (spP K 2 ff__law_rows_alike) :=
  have sc := sc__law_rows_alike
  fn_pure T.F__law_rows_alike sc (by decide) fun cdv A outer s H E hr => (sss_cons (ss_if (set_t (st_w (sw_or (st_not (st_val (SP.sb (sp_isi T.m_isinstance T.m_list bt_list (sb_var 0) bt_isinstance)))) (sw_or1 (st_ne hr (SP.sb (sp_callB call_len_seq opn_len bt_len T.m_len (sba_cons (sb_var 0) sba_nil))) (SP.sb (sp_callB call_len_seq opn_len bt_len T.m_len (sba_cons (sb_var 1) sba_nil)))))))) (sss_one (ss_ret (se_p sp_bl))) sss_nil) (sss_one (ss_ret (se_p (sp_callB (cr_all rfl) opn_all bt_all T.m_all (sba_cons (SP.sb (sp_lc (own := [("_law_row", 2), ("_law_want", 3)]) rfl sc.nd (si_zip T.m_zip (sb_var 0) (sb_var 1)) (okb (N := nn__law_rows_alike) (sc := defScope (topS 13)) (by decide +kernel)) (fun _ _ _ _ _ => (sg_tup rfl (sgs_cons (sg_name 2 sc.nd) (sgs_cons (sg_name 3 sc.nd) sgs_nil)))) (fun _ _ _ _ _ => sts_nil) (fun _ _ _ _ _ => (sp_call (ok__law_row_alike T) rfl (hr.mono (by decide)) T.g__law_row_alike T.F__law_row_alike.kp T.b__law_row_alike pass0 (sba_cons (sb_var 2) (sba_cons (sb_var 3) sba_nil)) (lcl (lcl lnl)))) (by simp [Tg.sl, slL]))) sba_nil))))))
/-! law -/
abbrev nn_law : List PySem.Str := ["_law_script", "_law_box_here", "_law_many", "_law_ties_here", "_law_due", "_law_handed", "_law_told", "_law_part", "_law_size", "_law_other"]
theorem sc_law : FnScope nn_law ["_law_script"] (defScope (topS 15)) := ⟨rfl, rfl, rfl, by decide +kernel, rfl, by decide +kernel, by decide +kernel⟩
def bb_law : SM := (sSeq (sSet 1 (lift (mFn ff__law_box (lCons (mVar 0) (lCons (mC (.int 0)) lNil))))) (sSeq (sSet 2 (eCallM ff__law_take [.mv 1, .ev (lift (mC (.int 13)))])) (sSeq (sSet 3 (eCallM ff__law_ties [.mv 1, .bor 2, .ev (eOp2 fAdd (lift (mC (.int 1))) (eCallM ff__law_take [.mv 1, .ev (lift (mC (.int 14)))]))])) (fun env => (sSeq (sSet 4 (lift (mFn ff__law_parts (lCons (mVar 2) (lCons (mVar 3) lNil))))) (sSeq (sSet 5 (lift (mk .tup (lCons (mPure (mVar 2)) (lCons (mCallL fList (lCons (mVar 3) lNil)) lNil))))) (sSeq (sSet 6 (lift (mFn ff_web_parts (lCons (mVar 5) lNil)))) (sSeq (sIf (liftT (mOr (mNotT (mTru (mFn ff__law_rows_alike (lCons (mVar 6) (lCons (mVar 4) lNil))))) (mB (mOp2 fNe (mVar 5) (mk .tup (lCons (mPure (mVar 2)) (lCons (mPure (mVar 3)) lNil))))))) (sRet (lift (mC (.bl false)))) sNx) (sSeq (sForM 6 7 (sApp 7 (plName 7) (lift (mC (.int 0))))) (sSeq (sSet 1 (lift (mFn ff__law_box (lCons (mVar 0) (lCons (mC (.int 1)) lNil))))) (sSeq (sSet 8 (eCallM ff__law_take [.mv 1, .ev (lift (mC (.int 13)))])) (sSeq (sSet 9 (eTup2 (lift (mPure (mVar 8))) (eCallM ff__law_ties [.mv 1, .bor 8, .ev (eOp2 fAdd (lift (mC (.int 1))) (eCallM ff__law_take [.mv 1, .ev (lift (mC (.int 14)))]))]))) (sSeq (sIf (liftT (mNotT (mTru (mFn ff__law_rows_alike (lCons (mFn ff_web_parts (lCons (mVar 9) lNil)) (lCons (mFn ff__law_parts (lCons (mVar 8) (lCons (mItem (mVar 9) (mC (.int 1))) lNil))) lNil)))))) (sRet (lift (mC (.bl false)))) sNx) (sRet (lift (mAndV (mFn ff__law_rows_alike (lCons (mFn ff_web_parts (lCons (mVar 5) lNil)) (lCons (mVar 4) lNil))) (mOp2 fEq (mVar 6) (mLc (wL (mVar 4)) (.nm 7) bYes (mCat (mVar 7) (mk (.lst .o) (lCons (mC (.int 0)) lNil))) [7])))))))))))))) (frzAt 3 env)))))
def ff_law : FM := runP 10 bb_law
theorem ok_law (T : Tx K mg f fd) : FnOk P w K mg base CX0 4 f.f_law fd.f_law ["_law_script"] (spP K 1 ff_law) :=
  have sc := sc_law
  fn_pure T.F_law sc (by decide) fun cdv A outer s H E hr => (sss_cons (ss_set 1 sc.nd (by decide) (se_p (sp_call (ok__law_box T) rfl (hr.mono (by decide)) T.g__law_box T.F__law_box.kp T.b__law_box pass0 (sba_cons (sb_var 0) (sba_cons (SP.sb sp_int) sba_nil)) (lcl (lcl lnl))))) (sss_cons (ss_set 2 sc.nd (by decide) (se_callM (ok__law_take T) (hr.mono (by decide)) T.g__law_take T.F__law_take.kp T.b__law_take pass0 rfl rfl (by simp [muS, boS]) (sea_mut 1 (sea_ev (se_p sp_int) sea_nil)))) (sss_cons (ss_set 3 sc.nd (by decide) (se_callM (ok__law_ties T) (hr.mono (by decide)) T.g__law_ties T.F__law_ties.kp T.b__law_ties pass0 rfl rfl (by simp [muS, boS]) (sea_mut 1 (sea_bor 2 (sea_ev (se_add (se_p sp_int) (se_callM (ok__law_take T) (hr.mono (by decide)) T.g__law_take T.F__law_take.kp T.b__law_take pass0 rfl rfl (by simp [muS, boS]) (sea_mut 1 (sea_ev (se_p sp_int) sea_nil)))) sea_nil))))) (sss_frz 3 (sss_cons (ss_set 4 sc.nd (by decide) (se_p (sp_call (ok__law_parts T) rfl (hr.mono (by decide)) T.g__law_parts T.F__law_parts.kp T.b__law_parts pass0 (sba_cons (sb_var 2) (sba_cons (sb_var 3) sba_nil)) (lcl (lcl lnl))))) (sss_cons (ss_set 5 sc.nd (by decide) (se_p (sp_tup (spa_cons (sp_pure (sb_var 2)) (spa_cons (sp_callTyL call_list_of opnl_list bt_list T.m_list (sba_cons (sb_var 3) sba_nil)) spa_nil))))) (sss_cons (ss_set 6 sc.nd (by decide) (se_p (sp_call (ok_web_parts T) rfl (hr.mono (by decide)) T.g_web_parts T.F_web_parts.kp T.b_web_parts pass0 (sba_cons (sb_var 5) sba_nil) (lcl lnl)))) (sss_cons (ss_if (set_t (st_w (sw_or (st_not (st_tru (SP.sb (sp_call (ok__law_rows_alike T) rfl (hr.mono (by decide)) T.g__law_rows_alike T.F__law_rows_alike.kp T.b__law_rows_alike pass0 (sba_cons (sb_var 6) (sba_cons (sb_var 4) sba_nil)) (lcl (lcl lnl)))))) (sw_or1 (st_ne hr (sb_var 5) (SP.sb (sp_tup (spa_cons (sp_pure (sb_var 2)) (spa_cons (sp_pure (sb_var 3)) spa_nil))))))))) (sss_one (ss_ret (se_p sp_bl))) sss_nil) (sss_cons (ss_forM 6 7 (by decide) rfl PassesOwn.never sc.nd (sss_one (ss_append (spl_name 7) (se_p sp_int))) (by decide)) (sss_cons (ss_set 1 sc.nd (by decide) (se_p (sp_call (ok__law_box T) rfl (hr.mono (by decide)) T.g__law_box T.F__law_box.kp T.b__law_box pass0 (sba_cons (sb_var 0) (sba_cons (SP.sb sp_int) sba_nil)) (lcl (lcl lnl))))) (sss_cons (ss_set 8 sc.nd (by decide) (se_callM (ok__law_take T) (hr.mono (by decide)) T.g__law_take T.F__law_take.kp T.b__law_take pass0 rfl rfl (by simp [muS, boS]) (sea_mut 1 (sea_ev (se_p sp_int) sea_nil)))) (sss_cons (ss_set 9 sc.nd (by decide) (se_tup2 (se_p (sp_pure (sb_var 8))) (se_callM (ok__law_ties T) (hr.mono (by decide)) T.g__law_ties T.F__law_ties.kp T.b__law_ties pass0 rfl rfl (by simp [muS, boS]) (sea_mut 1 (sea_bor 8 (sea_ev (se_add (se_p sp_int) (se_callM (ok__law_take T) (hr.mono (by decide)) T.g__law_take T.F__law_take.kp T.b__law_take pass0 rfl rfl (by simp [muS, boS]) (sea_mut 1 (sea_ev (se_p sp_int) sea_nil)))) sea_nil)))))) (sss_cons (ss_if (set_t (st_not (st_tru (SP.sb (sp_call (ok__law_rows_alike T) rfl (hr.mono (by decide)) T.g__law_rows_alike T.F__law_rows_alike.kp T.b__law_rows_alike pass0 (sba_cons (SP.sb (sp_call (ok_web_parts T) rfl (hr.mono (by decide)) T.g_web_parts T.F_web_parts.kp T.b_web_parts pass0 (sba_cons (sb_var 9) sba_nil) (lcl lnl))) (sba_cons (SP.sb (sp_call (ok__law_parts T) rfl (hr.mono (by decide)) T.g__law_parts T.F__law_parts.kp T.b__law_parts pass0 (sba_cons (sb_var 8) (sba_cons (sb_item (sb_var 9) (SP.sb sp_int)) sba_nil)) (lcl (lcl lnl)))) sba_nil)) (lcl (lcl lnl))))))) (sss_one (ss_ret (se_p sp_bl))) sss_nil) (sss_one (ss_ret (se_p (sp_and (sp_call (ok__law_rows_alike T) rfl (hr.mono (by decide)) T.g__law_rows_alike T.F__law_rows_alike.kp T.b__law_rows_alike pass0 (sba_cons (SP.sb (sp_call (ok_web_parts T) rfl (hr.mono (by decide)) T.g_web_parts T.F_web_parts.kp T.b_web_parts pass0 (sba_cons (sb_var 5) sba_nil) (lcl lnl))) (sba_cons (sb_var 4) sba_nil)) (lcl (lcl lnl))) (sp_one (sp_eq hr (sb_var 6) (SP.sb (sp_lc (own := [("_law_part", 7)]) rfl sc.nd (si_list (sb_var 4)) (okb (N := nn_law) (sc := defScope (topS 15)) (by decide +kernel)) (fun _ _ _ _ _ => (sg_name 7 sc.nd)) (fun _ _ _ _ _ => sts_nil) (fun _ _ _ _ _ => (sp_cat (sb_var 7) (SP.sb (sp_lst (spa_cons sp_int spa_nil))))) (by simp [Tg.sl, slL]))))))))))))))))))))))
end
end Lw

namespace Lw
open PySem L2 Ow Enc
theorem mixed_spec (c k : Int) (h0 : 0 ≤ k) (h1 : k ≤ 1000000) : ∃ r : Int, ff__law_mixed [.s (.int c), .s (.int k)] = some (.s (.int r)) ∧ 0 ≤ r := by
  have a1 : 0 ≤ c % 2147483647 ∧ c % 2147483647 < 2147483647 := by omega
  have a2 : 0 ≤ 1009 * k * k ∧ 1009 * k * k ≤ 1009 * 1000000 * 1000000 := by
    constructor
    · exact Int.mul_nonneg (by omega) h0
    · exact Int.mul_le_mul (by omega) h1 h0 (by omega)
  have m1 : CMulW 1009 k := small_mul (by omega) (by omega)
  have m2 : CMulW (1009 * k) k := small_mul (by omega) (by omega)
  have m3 : CMulW 48611 k := small_mul (by omega) (by omega)
  have m4 : CMulW 7919 k := small_mul (by omega) (by omega)
  have p := fPow_int (i := c % 2147483647 + 1009 * k * k + 48611 * k + 17) (j := 5) (by omega)
  have m5 : ∀ z : Int, CMulW (z % 2147483647) 39373 := fun z => small_mul (by omega) (by omega)
  unfold ff__law_mixed bb__law_mixed
  simp [m1, m2, m3, m4, m5, p]
  omega
def boxD (a n b : Int) : D := .n (.lst .o) [.s (.int a), .s (.int n), .s (.int b)]
theorem box_spec (ns : List Int) (k : Int) (h0 : 0 ≤ k) (h1 : k ≤ 1000) : ∃ a b : Int, ff__law_box [scriptD ns, .s (.int k)] = some (boxD a 0 b) := by
  obtain ⟨r1, e1, _⟩ := mixed_spec (k + 5) k h0 (by omega)
  have key : ∀ c : Int, (∃ a b : Int, (if 1000000000000000000 ≤ c then some (D.n (.lst .o) [.s (.int c), .s (.int 0), .s (.int c)]) else some (D.n (.lst .o) [.s (.int 0), .s (.int 0), .s (.int c)])) = some (boxD a 0 b)) := fun c => by
    by_cases h : 1000000000000000000 ≤ c
    · exact ⟨c, c, by rw [if_pos h]; rfl⟩
    · exact ⟨0, c, by rw [if_neg h]; rfl⟩
  unfold ff__law_box bb__law_box
  by_cases q : k < ns.length
  · have e2 := script_item ns h0 q
    obtain ⟨a, b, h⟩ := key (ns[k.toNat]'(by omega))
    refine ⟨a, b, ?_⟩
    rw [← h]
    by_cases c : 1000000000000000000 ≤ (ns[k.toNat]'(by omega)) <;> simp [e1, script_len, pow18, e2, q, c, script_frz]
  · by_cases q2 : 0 < ns.length
    · have e3 := script_item ns (k := k % ns.length) (Int.emod_nonneg _ (by omega)) (Int.emod_lt_of_pos _ (by omega))
      obtain ⟨r2, e4, _⟩ := mixed_spec (ns[(k % ns.length).toNat]'(by have := Int.emod_nonneg k (b := (ns.length : Int)) (by omega); have := Int.emod_lt_of_pos k (b := (ns.length : Int)) (by omega); omega)) k h0 (by omega)
      obtain ⟨a, b, h⟩ := key r2
      refine ⟨a, b, ?_⟩
      rw [← h]
      by_cases c : 1000000000000000000 ≤ r2 <;> simp [e1, script_len, pow18, e3, e4, q, q2, c, script_frz]
    · obtain ⟨a, b, h⟩ := key r1
      refine ⟨a, b, ?_⟩
      rw [← h]
      by_cases c : 1000000000000000000 ≤ r1 <;> simp [e1, script_len, pow18, q, q2, c, script_frz]
theorem take_spec (a n b s : Int) (h0 : 0 ≤ n) (h1 : n < 1000000) (h2 : 0 < s) (h3 : s < 2 ^ 300) : ∃ r a' : Int, ff__law_take [boxD a n b, .s (.int s)] = some (.s (.int r), [boxD a' (n + 1) b]) ∧ 0 ≤ r ∧ r < s := by
  obtain ⟨r1, e1, _⟩ := mixed_spec b (n + 1) (by omega) (by omega)
  have d := fDiv_int (i := a) h2 (div_ok h2 h3)
  unfold ff__law_take bb__law_take
  by_cases c : 0 < a
  · refine ⟨a % s, a / s, ?_, Int.emod_nonneg _ (by omega), Int.emod_lt_of_pos _ h2⟩
    simp [boxD, atI, ixN, c, d, h2]
  · refine ⟨r1 % s, a, ?_, Int.emod_nonneg _ (by omega), Int.emod_lt_of_pos _ h2⟩
    simp [boxD, atI, ixN, c, e1, h2]
def webD (o : Fl) (n : Nat) (ts : List Tie) : D := .n .tup [.s (.int n), en o ts]
theorem en_ne (o : Fl) (h : o ≠ .o) (ts : List Tie) : (en o ts).pure = true := Enc.pureS o ts h
theorem near_spec {n : Nat} {ts : List Tie} (hn : n ≤ 12) (hl : ts.length ≤ 144) (h : ∀ t ∈ ts, 0 ≤ t.1 ∧ t.1 < t.2 ∧ t.2 < n) : ff_near_places [webD .s n ts] = some (en .o (rows n ts)) := by
  have e1 : sAsg (.tp [(.nm 1), (.nm 2)]) (mPure (mVar 0)) [some (webD .s n ts), none, none, none, none, none, none] = some (.nx, [some (webD .s n ts), some (.s (.int n)), some (en .s ts), none, none, none, none]) := by
    unfold sAsg mPure mVar
    simp [webD, en_ne, bD_tp2]
  have e2 : sSet 3 (lift (mLc (wR (rg1 (mVar 1))) (.nm 6) bYes (mk (.lst .o) lNil) [6])) [some (webD .s n ts), some (.s (.int n)), some (en .s ts), none, none, none, none] = some (.nx, [some (webD .s n ts), some (.s (.int n)), some (en .s ts), some (en .o (rows n [])), none, none, none]) := by
    have a := wR_ok (m := rg1 (mVar 1)) (env := [some (webD .s n ts), some (.s (.int n)), some (en .s ts), none, none, none, none]) (lo := 0) (hi := n) rfl (by omega) (by omega) (by omega) (by omega)
    have b := lcD_all (g := .nm 6) (me := mk (.lst .o) lNil) (en := fun (i : Nat) => D.s (.int (0 + (i : Int)))) (e0 := [some (webD .s n ts), some (.s (.int n)), some (en .s ts), none, none, none, none]) (f := fun _ => en .o ([] : List Int)) (e1 := fun i => [some (webD .s n ts), some (.s (.int n)), some (en .s ts), none, none, none, some (.s (.int (0 + (i : Int))))]) (List.range n) (fun _ _ => rfl) (fun _ _ => rfl)
    have c : (rgDn 0 ((n : Int) - 0).toNat) = (List.range n).map fun (i : Nat) => D.s (.int (0 + (i : Int))) := by rw [rgDn_eq]; congr 2
    have d : wipeD [some (webD .s n ts), some (.s (.int n)), some (en .s ts), none, none, none, none] [6] = [some (webD .s n ts), some (.s (.int n)), some (en .s ts), none, none, none, none] := rfl
    unfold sSet lift mLc
    rw [a, c]
    simp only [Option.bind_some]
    rw [d, b, List.length_map, List.length_range, if_pos (by omega)]
    simp only [Option.map_some]
    have f : D.n (.lst .o) ((List.range n).map fun _ => en .o ([] : List Int)) = en .o (rows n []) := by
      show _ = D.n (.lst .o) ((rows n []).map (en .o))
      rw [rows, List.map_map]; rfl
    rw [f]
    rfl
  obtain ⟨e', e3, x, y, e4⟩ := forL_inv (mi := wL (mPure (mVar 2))) (g := .tp [(.nm 4), (.nm 5)]) (mb := (sSeq (sApp 3 (plItem 3 (plName 3) (mVar 4)) (lift (mPure (mVar 5)))) (sApp 3 (plItem 3 (plName 3) (mVar 5)) (lift (mPure (mVar 4)))))) (env := [some (webD .s n ts), some (.s (.int n)), some (en .s ts), some (en .o (rows n [])), none, none, none]) (o := .s) (xs := ts) (by simp [en_ne, asL_en]) (by have := en_ne .s (by decide) ts; rw [en_list, D.pure] at this; exact (Bool.and_eq_true _ _ ▸ this).2)
    (fun pre e => ∃ x y, e = [some (webD .s n ts), some (.s (.int n)), some (en .s ts), some (en .o (rows n pre)), x, y, none]) ⟨_, _, rfl⟩ (fun pre t post e hx ⟨x, y, he⟩ => by
      subst he
      obtain ⟨a, b⟩ := t
      have ht := h (a, b) (by rw [hx]; simp)
      dsimp only at ht
      have hpl : pre.length ≤ 144 := by
        have := congrArg List.length hx
        simp at this
        omega
      have hr : ∀ r ∈ rows n pre, r.length ≤ 144 := fun r hr => by
        obtain ⟨p, _, rfl⟩ := List.mem_map.mp hr
        exact Nat.le_trans (nbs_len _ _) hpl
      have g1 := app2 (i := 3) (me := lift (mPure (mVar 5))) (mb := mVar 4) (e := [some (webD .s n ts), some (.s (.int n)), some (en .s ts), some (en .o (rows n pre)), some (.s (.int a)), some (.s (.int b)), none]) (e1 := [some (webD .s n ts), some (.s (.int n)), some (en .s ts), some (en .o (rows n pre)), some (.s (.int a)), some (.s (.int b)), none]) (xs := rows n pre) (v := b) (k := a) (by simp) rfl rfl ht.1 (by rw [rows_len]; omega) (Nat.lt_of_le_of_lt (hr _ (List.getElem_mem _)) (by decide))
      have g2 := app2 (i := 3) (me := lift (mPure (mVar 4))) (mb := mVar 5) (e := [some (webD .s n ts), some (.s (.int n)), some (en .s ts), some (en .o ((rows n pre).modify a.toNat (· ++ [b]))), some (.s (.int a)), some (.s (.int b)), none]) (e1 := [some (webD .s n ts), some (.s (.int n)), some (en .s ts), some (en .o ((rows n pre).modify a.toNat (· ++ [b]))), some (.s (.int a)), some (.s (.int b)), none]) (xs := (rows n pre).modify a.toNat (· ++ [b])) (v := a) (k := b) (by simp) rfl rfl (by omega) (by rw [List.length_modify, rows_len]; omega) (by
        rw [List.getElem_modify]
        have := hr ((rows n pre)[b.toNat]'(by rw [rows_len]; omega)) (List.getElem_mem _)
        rw [if_neg (by omega)]
        omega)
      refine ⟨_, _, .nx, rfl, ?_, .inl rfl, ⟨some (.s (.int a)), some (.s (.int b)), rfl⟩⟩
      refine (seq_nx g1).trans (g2.trans ?_)
      rw [rows_step ht.1 ht.2.1]
      rfl)
  subst e4
  unfold ff_near_places bb_near_places runP
  have i0 : initD 7 [webD .s n ts] = [some (webD .s n ts), none, none, none, none, none, none] := rfl
  rw [i0, seq_nx e1, seq_nx e2]
  have e5 : frzAt 2 [some (webD .s n ts), some (.s (.int n)), some (en .s ts), some (en .o (rows n [])), none, none, none] = [some (webD .s n ts), some (.s (.int n)), some (en .s ts), some (en .o (rows n [])), none, none, none] := by
    unfold frzAt
    simp [Enc.frz]
  rw [e5, seq_nx e3]
  rfl
theorem rows_small {n : Nat} {ts : List Tie} (hl : ts.length ≤ 144) : ∀ r ∈ rows n ts, r.length ≤ 144 := fun r hr => by
  obtain ⟨p, _, rfl⟩ := List.mem_map.mp hr
  exact Nat.le_trans (nbs_len _ _) hl
theorem whole_spec (i : Int) : ff__law_whole [.s (.int i)] = some (.s (.bl true)) := by
  unfold ff__law_whole bb__law_whole
  simp [kit_ii, kit_ib]
theorem all_true {α : Type} : ∀ xs : List α, boolsD (xs.map fun _ => D.s (.bl true)) = some (xs.map fun _ => true)
  | [] => rfl
  | x :: xs => by rw [List.map_cons, boolsD, all_true xs]; rfl
theorem fAll_true {α : Type} (xs : List α) : fAll [.n (.lst .o) (xs.map fun _ => D.s (.bl true))] = some (.bl true) := by
  unfold fAll
  rw [lb_c0, all_true]
  simp
theorem row_alike (xs : List Int) (hl : xs.length ≤ 16777216) : ff__law_row_alike [en .s xs, en .s xs] = some (.s (.bl true)) := by
  have i0 : initD 3 [(en .s xs : D), en .s xs] = [some (en .s xs), some (en .s xs), none] := rfl
  have l : mLc (wL (mVar 0)) (.nm 2) bYes (mFn ff__law_whole (lCons (mVar 2) lNil)) [2] [some (en .s xs), some (en .s xs), none] = some (.n (.lst .o) (xs.map fun _ => D.s (.bl true))) := by
    have k := lcD_all (g := .nm 2) (me := mFn ff__law_whole (lCons (mVar 2) lNil)) (en := fun i : Int => D.s (.int i)) (e0 := [some (en .s xs), some (en .s xs), none]) (f := fun _ => D.s (.bl true)) (e1 := fun i => [some (en .s xs), some (en .s xs), some (.s (.int i))]) xs (fun x _ => bD_nm _ _ _) (fun x _ => by
      unfold mFn
      simp [whole_spec])
    have w : wL (mVar 0) [some (en .s xs), some (en .s xs), none] = some (xs.map fun i => D.s (.int i)) := rfl
    have d0 : wipeD [some (en .s xs), some (en .s xs), none] [2] = [some (en .s xs), some (en .s xs), none] := rfl
    unfold mLc
    rw [w, Option.bind_some, List.length_map, if_pos hl, d0, k]; rfl
  have c : (liftT (mOr (mNotT (mB (mIsi "list" (mVar 0)))) (mB (mOp2 fNe (mCall fLen (lCons (mVar 0) lNil)) (mCall fLen (lCons (mVar 1) lNil)))))) [some (en .s xs), some (en .s xs), none] = some (false, [some (en .s xs), some (en .s xs), none]) := by
    simp [tyN_en, kit_ll, len_en]
  have r : (mAndV (mCall fAll (lCons (mLc (wL (mVar 0)) (.nm 2) bYes (mFn ff__law_whole (lCons (mVar 2) lNil)) [2]) lNil)) (mOp2 fEq (mVar 0) (mVar 1))) [some (en .s xs), some (en .s xs), none] = some (.s (.bl true)) := by
    have q := eq_en (α := List Int) (by decide) .s .s xs xs
    rw [decide_eq_true rfl] at q
    exact andV_t (call_l (lc1 l) (fAll_true xs)) (op2_i rfl rfl q)
  unfold ff__law_row_alike bb__law_row_alike runP
  rw [i0, seq_nx (if_f c)]
  unfold sRet lift
  rw [r]; rfl
theorem rows_alike (rs : List (List Int)) (hl : rs.length ≤ 16777216) (hr : ∀ r ∈ rs, r.length ≤ 16777216) : ff__law_rows_alike [en .s rs, en .s rs] = some (.s (.bl true)) := by
  have i0 : initD 4 [(en .s rs : D), en .s rs] = [some (en .s rs), some (en .s rs), none, none] := rfl
  have l : mLc (wZ (mVar 0) (mVar 1)) (.tp [(.nm 2), (.nm 3)]) bYes (mFn ff__law_row_alike (lCons (mVar 2) (lCons (mVar 3) lNil))) [2, 3] [some (en .s rs), some (en .s rs), none, none] = some (.n (.lst .o) (rs.map fun _ => D.s (.bl true))) := by
    have k := lcD_all (g := .tp [.nm 2, .nm 3]) (me := mFn ff__law_row_alike (lCons (mVar 2) (lCons (mVar 3) lNil))) (en := fun r : List Int => D.n .tup [en .s r, en .s r]) (e0 := [some (en .s rs), some (en .s rs), none, none]) (f := fun _ => D.s (.bl true)) (e1 := fun r => [some (en .s rs), some (en .s rs), some (en .s r), some (en .s r)]) rs (fun x _ => bD_tp2 _ _ _ _ _) (fun x hx => by
      unfold mFn
      simp [row_alike x (hr x hx), Enc.frz])
    have w : wZ (mVar 0) (mVar 1) [some (en .s rs), some (en .s rs), none, none] = some (rs.map fun r => D.n .tup [en .s r, en .s r]) := by
      unfold wZ
      have z : List.zipWith (fun x y => D.n .tup [x, y]) (rs.map (en .s)) (rs.map (en .s)) = rs.map fun r => D.n .tup [en .s r, en .s r] := by
        rw [List.zipWith_map_left, List.zipWith_map_right, List.zipWith_self]
      simp [asL_en, z]
    have d0 : wipeD [some (en .s rs), some (en .s rs), none, none] [2, 3] = [some (en .s rs), some (en .s rs), none, none] := rfl
    unfold mLc
    rw [w, Option.bind_some, List.length_map, if_pos hl, d0, k]; rfl
  have c : (liftT (mOr (mNotT (mB (mIsi "list" (mVar 0)))) (mB (mOp2 fNe (mCall fLen (lCons (mVar 0) lNil)) (mCall fLen (lCons (mVar 1) lNil)))))) [some (en .s rs), some (en .s rs), none, none] = some (false, [some (en .s rs), some (en .s rs), none, none]) := by
    simp [tyN_en, kit_ll, len_en]
  unfold ff__law_rows_alike bb__law_rows_alike runP
  rw [i0, seq_nx (if_f c)]
  rw [ret_p (call_l (lc1 l) (fAll_true rs))]
  rfl
theorem Srt.snoc {ts : List Tie} {i j : Int} (h : Srt ts) (h1 : ∀ t ∈ ts, t.1 ≤ i) (h2 : i < j) : Srt (ts ++ [(i, j)]) := by
  refine ⟨?_, fun t ht => ?_⟩
  · rw [List.pairwise_append]
    refine ⟨h.1, List.pairwise_singleton .., fun a ha b hb => ?_⟩
    rw [List.mem_singleton] at hb
    subst hb
    exact h1 a ha
  · rw [List.mem_append, List.mem_singleton] at ht
    rcases ht with ht | rfl
    · exact h.2 t ht
    · exact h2
theorem take_call {a n b s : Int} {x y z w : Option D} (h0 : 0 ≤ n) (h1 : n < 1000000) (h2 : 0 < s) (h3 : s < 2 ^ 300) : ∃ r a' : Int, eCallM ff__law_take [.mv 0, .bor 2] [some (boxD a n b), x, some (.s (.int s)), y, z, w] = some (.s (.int r), [some (boxD a' (n + 1) b), x, some (.s (.int s)), y, z, w]) ∧ 0 ≤ r ∧ r < s := by
  obtain ⟨r, a', e, h⟩ := take_spec a n b s h0 h1 h2 h3
  refine ⟨r, a', ?_, h⟩
  have f : (boxD a' (n + 1) b).noF = true := rfl
  simp [e, f]
abbrev inP (m : Int) (ts : List Tie) : Prop := ∀ t ∈ ts, 0 ≤ t.1 ∧ t.1 < t.2 ∧ t.2 < m
theorem ties_inner {a n b th : Int} {m : Nat} {i : Int} {ts : List Tie} {x : Option D} (hm : m ≤ 12) (h0 : 0 ≤ n) (h1 : n < 100000) (h2 : 0 < th) (h3 : th < 2 ^ 300) (hi0 : 0 ≤ i) (hi : i < m) (hs : Srt ts) (hb : ∀ t ∈ ts, t.1 ≤ i) (hp : inP m ts) (hl : ts.length ≤ 1000) :
    ∃ a' n' ts' x', sFor (wR (rg2 (mOp2 fAdd (mVar 4) (mC (.int 1))) (mVar 1))) (.nm 5) (sIf (eB (eOp2 fEq (eCallM ff__law_take [.mv 0, .bor 2]) (lift (mC (.int 0))))) (sApp 3 (plName 3) (lift (mk .tup (lCons (mPure (mVar 4)) (lCons (mPure (mVar 5)) lNil))))) sNx) [some (boxD a n b), some (.s (.int m)), some (.s (.int th)), some (en .o ts), some (.s (.int i)), x] = some (.nx, [some (boxD a' n' b), some (.s (.int m)), some (.s (.int th)), some (en .o ts'), some (.s (.int i)), x']) ∧ 0 ≤ n' ∧ n' ≤ n + 12 ∧ Srt ts' ∧ (∀ t ∈ ts', t.1 ≤ i) ∧ inP m ts' ∧ ts'.length ≤ ts.length + 12 := by
  obtain ⟨e', g1, a', n', ts', x', he, k1, k2, k3, k4, k5, k6⟩ := forR_inv (m := rg2 (mOp2 fAdd (mVar 4) (mC (.int 1))) (mVar 1)) (j := 5) (mb := (sIf (eB (eOp2 fEq (eCallM ff__law_take [.mv 0, .bor 2]) (lift (mC (.int 0))))) (sApp 3 (plName 3) (lift (mk .tup (lCons (mPure (mVar 4)) (lCons (mPure (mVar 5)) lNil))))) sNx)) (env := [some (boxD a n b), some (.s (.int m)), some (.s (.int th)), some (en .o ts), some (.s (.int i)), x]) (lo := i + 1) (hi := m) (n := (m - (i + 1)).toNat) (by simp) rfl (by omega) (by omega) (by omega) (by omega)
    (fun k e => ∃ a' n' ts' x', e = [some (boxD a' n' b), some (.s (.int m)), some (.s (.int th)), some (en .o ts'), some (.s (.int i)), x'] ∧ 0 ≤ n' ∧ n' ≤ n + k ∧ Srt ts' ∧ (∀ t ∈ ts', t.1 ≤ i) ∧ inP m ts' ∧ ts'.length ≤ ts.length + k)
    ⟨a, n, ts, x, rfl, h0, by omega, hs, hb, hp, by omega⟩ (fun k e hk ⟨a', n', ts', x', he, k1, k2, k3, k4, k5, k6⟩ => by
      subst he
      obtain ⟨r, a2, q, q1, q2⟩ := take_call (a := a') (n := n') (b := b) (s := th) (x := some (.s (.int m))) (y := some (en .o ts')) (z := some (.s (.int i))) (w := some (.s (.int (i + 1 + (k : Int))))) k1 (by omega) h2 h3
      have c : (eB (eOp2 fEq (eCallM ff__law_take [.mv 0, .bor 2]) (lift (mC (.int 0))))) [some (boxD a' n' b), some (.s (.int m)), some (.s (.int th)), some (en .o ts'), some (.s (.int i)), some (.s (.int (i + 1 + (k : Int))))] = some (decide (r = 0), [some (boxD a2 (n' + 1) b), some (.s (.int m)), some (.s (.int th)), some (en .o ts'), some (.s (.int i)), some (.s (.int (i + 1 + (k : Int))))]) := by
        unfold eB eOp2
        rw [q]
        simp
      by_cases z : r = 0
      · rw [decide_eq_true z] at c
        have ap := app1 (i := 3) (me := lift (mk .tup (lCons (mPure (mVar 4)) (lCons (mPure (mVar 5)) lNil)))) (e := [some (boxD a2 (n' + 1) b), some (.s (.int m)), some (.s (.int th)), some (en .o ts'), some (.s (.int i)), some (.s (.int (i + 1 + (k : Int))))]) (v := ((i, i + 1 + (k : Int)) : Tie)) (xs := ts') (by simp; exact ⟨rfl, rfl⟩) rfl (by omega)
        refine ⟨_, .nx, (if_t c).trans ap, .inl rfl, a2, n' + 1, ts' ++ [(i, i + 1 + (k : Int))], _, rfl, by omega, by omega, k3.snoc k4 (by omega), ?_, ?_, by rw [List.length_append]; simp; omega⟩
        · intro t ht
          rw [List.mem_append, List.mem_singleton] at ht
          rcases ht with ht | rfl
          · exact k4 t ht
          · exact Int.le_refl _
        · intro t ht
          rw [List.mem_append, List.mem_singleton] at ht
          rcases ht with ht | rfl
          · exact k5 t ht
          · exact ⟨hi0, by show i < i + 1 + (k : Int); omega, by show i + 1 + (k : Int) < m; omega⟩
      · rw [decide_eq_false z] at c
        exact ⟨_, .nx, if_f c, .inl rfl, a2, n' + 1, ts', _, rfl, by omega, by omega, k3, k4, k5, by omega⟩)
  exact ⟨a', n', ts', x', by rw [g1, he], k1, by omega, k3, k4, k5, by omega⟩
theorem ties_spec {a n b th : Int} {m : Nat} (hm : m ≤ 12) (h0 : 0 ≤ n) (h1 : n < 50000) (h2 : 0 < th) (h3 : th < 2 ^ 300) :
    ∃ a' n' ts, ff__law_ties [boxD a n b, .s (.int m), .s (.int th)] = some (en .o ts, [boxD a' n' b]) ∧ 0 ≤ n' ∧ n' ≤ n + 144 ∧ Srt ts ∧ inP m ts ∧ ts.length ≤ 144 := by
  obtain ⟨e', g1, a', n', ts', x', y', he, k1, k2, k3, k4, k5, k6⟩ := forR_inv (m := rg1 (mVar 1)) (j := 4) (mb := (sFor (wR (rg2 (mOp2 fAdd (mVar 4) (mC (.int 1))) (mVar 1))) (.nm 5) (sIf (eB (eOp2 fEq (eCallM ff__law_take [.mv 0, .bor 2]) (lift (mC (.int 0))))) (sApp 3 (plName 3) (lift (mk .tup (lCons (mPure (mVar 4)) (lCons (mPure (mVar 5)) lNil))))) sNx))) (env := [some (boxD a n b), some (.s (.int m)), some (.s (.int th)), some (en .o ([] : List Tie)), none, none]) (lo := 0) (hi := m) (n := m) rfl (by omega) (by omega) (by omega) (by omega) (by omega)
    (fun k e => ∃ a' n' ts' x' y', e = [some (boxD a' n' b), some (.s (.int m)), some (.s (.int th)), some (en .o ts'), x', y'] ∧ 0 ≤ n' ∧ n' ≤ n + 12 * k ∧ Srt ts' ∧ (∀ t ∈ ts', t.1 ≤ k) ∧ inP m ts' ∧ ts'.length ≤ 12 * k)
    ⟨a, n, [], _, _, rfl, h0, by omega, ⟨List.Pairwise.nil, by simp⟩, by simp, by simp, by simp⟩ (fun k e hk ⟨a', n', ts', x', y', he, k1, k2, k3, k4, k5, k6⟩ => by
      subst he
      obtain ⟨a2, n2, ts2, x2, q, l1, l2, l3, l4, l5, l6⟩ := ties_inner (a := a') (n := n') (b := b) (th := th) (m := m) (i := 0 + (k : Int)) (ts := ts') (x := y') hm k1 (by omega) h2 h3 (by omega) (by omega) k3 (fun t ht => by have := k4 t ht; omega) k5 (by omega)
      exact ⟨_, .nx, q, .inl rfl, a2, n2, ts2, _, _, rfl, l1, by omega, l3, fun t ht => by have := l4 t ht; omega, l5, by omega⟩)
  subst he
  refine ⟨a', n', ts', ?_, k1, by omega, k3, k5, by omega⟩
  unfold ff__law_ties bb__law_ties runM
  have i0 : initD 6 [boxD a n b, .s (.int m), .s (.int th)] = [some (boxD a n b), some (.s (.int m)), some (.s (.int th)), none, none, none] := rfl
  have i1 : sSet 3 (lift (mk (.lst .o) lNil)) [some (boxD a n b), some (.s (.int m)), some (.s (.int th)), none, none, none] = some (.nx, [some (boxD a n b), some (.s (.int m)), some (.s (.int th)), some (en .o ([] : List Tie)), none, none]) := rfl
  rw [i0, seq_nx i1, seq_nx g1]
  rfl
theorem ties_pure (o : Fl) (ts : List Tie) : pureL (ts.map (en o)) = true := by
  have : ts.map (en o) = ts.map (en .s) := rfl
  rw [this]; exact pureL_map (by decide) ts
theorem del_step {e : Ow.Env} {j : Nat} {mx : PM} {W : List Int} {x : Int} (h1 : e[j]? = some (some (wD W))) (h2 : mx e = some (.s (.int x))) (hx : x ∈ W) : sDdel j mx e = some (.nx, e.set j (some (wD (W.filter fun y => decide (y ≠ x))))) := by
  unfold sDdel
  rw [h1, h2]
  simp only [Option.join_some, Option.bind_some, keyD_int]
  rw [wO, Option.bind_some, wV, decide_eq_true hx, if_pos rfl, wDrop]
  rfl
theorem din_step {e : Ow.Env} {mx my : PM} {W : List Int} {x : Int} (h1 : my e = some (wD W)) (h2 : mx e = some (.s (.int x))) : mDin mx my e = some (decide (x ∈ W)) := by
  unfold mDin
  rw [h1, h2]
  simp only [Option.bind_some, keyD_int]
  rw [wDP, Option.map_some, wV]
structure GI (n : Nat) (m : Int → Int) (W : List Int) (s : Int) (g : List Int) : Prop where
  nd : g.Nodup
  st : s ∈ g
  mem : ∀ x ∈ g, x ∈ W ∧ m x = m s
structure WI (n : Nat) (m : Int → Int) (W : List Int) (s : Int) : Prop where
  nd : W.Nodup
  rg : ∀ x ∈ W, 0 ≤ x ∧ x < n
  st : s ∈ W
  cl : ∀ y : Int, 0 ≤ y → y < n → m y = m s → y ∈ W
theorem GI.len {n : Nat} {m : Int → Int} {W : List Int} {s : Int} {g : List Int} (w : WI n m W s) (h : GI n m W s g) : g.length ≤ n := by
  have := (List.perm_ext_iff_of_nodup ((allI_nodup n).filter fun x => decide (x ∈ g)) h.nd).mpr fun x => by
    rw [List.mem_filter, allI_mem, decide_eq_true_iff]
    exact ⟨fun z => z.2, fun z => ⟨w.rg x (h.mem x z).1, z⟩⟩
  rw [← this.length_eq]
  exact Nat.le_trans (List.length_filter_le ..) (Nat.le_of_eq (allI_len n))
def wL1 (W g : List Int) : List Int := W.filter fun x => decide (x ∉ g)
theorem drain_inner {n : Nat} {m : Int → Int} {W row : List Int} {s : Int} {R a4 a5 x : Option D} {g : List Int} {e0 : D} (hn : n ≤ 12) (w : WI n m W s) (h : GI n m W s g) (hr : ∀ y ∈ row, (0 ≤ y ∧ y < n) ∧ m y = m s) {mi : LM} (hmi : mi [R, some (wD (wL1 W g)), some e0, some (en .o g), a4, a5, x] = some (row.map (en .s))) :
    ∃ l y, sFor mi (.nm 6) (sIf (liftT (mDin (mVar 6) (mVar 1))) (sSeq (sDdel 1 (mVar 6)) (sApp 3 (plName 3) (lift (mPure (mVar 6))))) sNx) [R, some (wD (wL1 W g)), some e0, some (en .o g), a4, a5, x] = some (.nx, [R, some (wD (wL1 W (g ++ l))), some e0, some (en .o (g ++ l)), a4, a5, y]) ∧ GI n m W s (g ++ l) ∧ ∀ y ∈ row, y ∈ g ++ l := by
  obtain ⟨e', g1, l, y, he, k1, k2⟩ := forL_inv (g := .nm 6) (mb := (sIf (liftT (mDin (mVar 6) (mVar 1))) (sSeq (sDdel 1 (mVar 6)) (sApp 3 (plName 3) (lift (mPure (mVar 6))))) sNx)) hmi (pureL_map (by decide) row) (fun pre e => ∃ (l : List Int) (y : Option D), e = [R, some (wD (wL1 W (g ++ l))), some e0, some (en .o (g ++ l)), a4, a5, y] ∧ GI n m W s (g ++ l) ∧ ∀ y ∈ pre, y ∈ g ++ l)
    ⟨[], x, by rw [List.append_nil], by rw [List.append_nil]; exact h, by simp⟩ (fun pre z post e hx ⟨l, y, he, k1, k2⟩ => by
      subst he
      obtain ⟨hz, hm⟩ := hr z (by rw [hx]; simp)
      have hW := w.cl z hz.1 hz.2 hm
      have c := din_step (e := [R, some (wD (wL1 W (g ++ l))), some e0, some (en .o (g ++ l)), a4, a5, some (.s (.int z))]) (mx := mVar 6) (my := mVar 1) (W := wL1 W (g ++ l)) (x := z) rfl rfl
      by_cases q : z ∈ wL1 W (g ++ l)
      · rw [decide_eq_true q] at c
        have hq : z ∉ g ++ l := by simpa using (List.mem_filter.mp q).2
        have d1 := del_step (e := [R, some (wD (wL1 W (g ++ l))), some e0, some (en .o (g ++ l)), a4, a5, some (.s (.int z))]) (j := 1) (mx := mVar 6) rfl rfl q
        have fe : (wL1 W (g ++ l)).filter (fun y => decide (y ≠ z)) = wL1 W (g ++ (l ++ [z])) := by
          unfold wL1
          rw [List.filter_filter]
          apply List.filter_congr
          intro u _
          rw [Bool.eq_iff_iff]
          simp
          constructor
          · rintro ⟨a, b, c⟩; exact ⟨b, c, a⟩
          · rintro ⟨a, b, c⟩; exact ⟨c, a, b⟩
        rw [fe] at d1
        have gi : GI n m W s (g ++ (l ++ [z])) := by
          rw [← List.append_assoc]
          refine ⟨List.nodup_append.mpr ⟨k1.nd, by simp, fun a ha b hb e => ?_⟩, List.mem_append_left _ k1.st, fun u hu => ?_⟩
          · rw [List.mem_singleton] at hb
            subst hb; subst e
            exact hq ha
          · rw [List.mem_append, List.mem_singleton] at hu
            rcases hu with hu | rfl
            · exact k1.mem u hu
            · exact ⟨hW, hm⟩
        have ll := GI.len w k1
        have ap := app1 (i := 3) (me := lift (mPure (mVar 6))) (e := [R, some (wD (wL1 W (g ++ (l ++ [z])))), some e0, some (en .o (g ++ l)), a4, a5, some (.s (.int z))]) (e1 := [R, some (wD (wL1 W (g ++ (l ++ [z])))), some e0, some (en .o (g ++ l)), a4, a5, some (.s (.int z))]) (xs := g ++ l) (v := z) rfl rfl (by omega)
        rw [List.append_assoc] at ap
        exact ⟨_, _, .nx, bD_nm _ _ _, (if_t (lT c)).trans ((seq_nx d1).trans ap), .inl rfl, l ++ [z], some (.s (.int z)), rfl, gi, fun u hu => by
          rw [← List.append_assoc]
          rw [List.mem_append, List.mem_singleton] at hu
          rcases hu with hu | rfl
          · exact List.mem_append_left _ (k2 u hu)
          · simp⟩
      · rw [decide_eq_false q] at c
        have hg : z ∈ g ++ l := by
          by_cases hh : z ∈ g ++ l
          · exact hh
          · exact absurd (List.mem_filter.mpr ⟨hW, by simpa using hh⟩) q
        exact ⟨_, _, .nx, bD_nm _ _ _, (if_f (lT c)).trans rfl, .inl rfl, l, some (.s (.int z)), rfl, k1, fun u hu => by
          rw [List.mem_append, List.mem_singleton] at hu
          rcases hu with hu | rfl
          · exact k2 u hu
          · exact hg⟩)
  exact ⟨l, y, by rw [g1, he], k1, k2⟩
def muD (e : Ow.Env) : Nat := match e[4]? with
  | some (some (D.s (V.int a))) => (100 - a).toNat
  | _ => 0
theorem drain_spec {n : Nat} {ts : List Tie} {m : Int → Int} {W : List Int} {s : Int} (hn : n ≤ 12) (hp : inP n ts) (M : MI ts m) (w : WI n m W s) :
    ∃ g : List Int, ff_drain [en .s (rows n ts), wD W, .s (.int s)] = some (en .o g, [wD (W.filter fun x => decide (m x ≠ m s))]) ∧ srt g = (allI n).filter fun x => decide (m x = m s) := by
  have i0 : initD 7 [(en .s (rows n ts) : D), wD W, .s (.int s)] = [some (en .s (rows n ts)), some (wD W), some (.s (.int s)), none, none, none, none] := rfl
  have d1 := del_step (e := [some (en .s (rows n ts)), some (wD W), some (.s (.int s)), none, none, none, none]) (j := 1) (mx := mVar 2) rfl rfl w.st
  have f0 : (W.filter fun y => decide (y ≠ s)) = wL1 W [s] := by
    unfold wL1
    apply List.filter_congr
    intro u _
    simp
  rw [f0] at d1
  have s3 : sSet 3 (lift (mk (.lst .o) (lCons (mPure (mVar 2)) lNil))) [some (en .s (rows n ts)), some (wD (wL1 W [s])), some (.s (.int s)), none, none, none, none] = some (.nx, [some (en .s (rows n ts)), some (wD (wL1 W [s])), some (.s (.int s)), some (en .o [s]), none, none, none]) := rfl
  have s4 : sSet 4 (lift (mC (.int 0))) [some (en .s (rows n ts)), some (wD (wL1 W [s])), some (.s (.int s)), some (en .o [s]), none, none, none] = some (.nx, [some (en .s (rows n ts)), some (wD (wL1 W [s])), some (.s (.int s)), some (en .o [s]), some (.s (.int 0)), none, none]) := rfl
  obtain ⟨e', h5, g, x5, x6, he, k1, k2⟩ := whD_inv (mc := liftT (mB (mOp2 fLt (mVar 4) (mCall fLen (lCons (mVar 3) lNil))))) (mb := (sSeq (sSet 5 (lift (mPure (mItem (mVar 3) (mVar 4))))) (sSeq (sFor (wL (mPure (mItem (mVar 0) (mVar 5)))) (.nm 6) (sIf (liftT (mDin (mVar 6) (mVar 1))) (sSeq (sDdel 1 (mVar 6)) (sApp 3 (plName 3) (lift (mPure (mVar 6))))) sNx)) (sAugF 4 fAdd (mC (.int 1))))))
    (I := fun e => ∃ (g : List Int) (k : Nat) (x5 x6 : Option D), e = [some (en .s (rows n ts)), some (wD (wL1 W g)), some (.s (.int s)), some (en .o g), some (.s (.int k)), x5, x6] ∧ GI n m W s g ∧ k ≤ g.length ∧ ∀ (i : Nat) (x : Int), i < k → g[i]? = some x → ∀ y ∈ nbs ts x, y ∈ g)
    (J := fun e => ∃ (g : List Int) (x5 x6 : Option D), e = [some (en .s (rows n ts)), some (wD (wL1 W g)), some (.s (.int s)), some (en .o g), some (.s (.int g.length)), x5, x6] ∧ GI n m W s g ∧ ∀ (i : Nat) (x : Int), i < g.length → g[i]? = some x → ∀ y ∈ nbs ts x, y ∈ g) muD
    (fun e ⟨g, k, x5, x6, he, k1, k2, k3⟩ => by
      subst he
      have gl := GI.len w k1
      have c : liftT (mB (mOp2 fLt (mVar 4) (mCall fLen (lCons (mVar 3) lNil)))) [some (en .s (rows n ts)), some (wD (wL1 W g)), some (.s (.int s)), some (en .o g), some (.s (.int k)), x5, x6] = some (decide ((k : Int) < g.length), [some (en .s (rows n ts)), some (wD (wL1 W g)), some (.s (.int s)), some (en .o g), some (.s (.int k)), x5, x6]) := lT (tB (op2_i rfl (call_l (lc1 rfl) (len_en .o g)) fLt_int))
      by_cases q : (k : Int) < g.length
      · rw [decide_eq_true q] at c
        left
        have hk : k < g.length := by omega
        have hx := List.getElem?_eq_getElem hk
        have hg := k1.mem _ (List.getElem_mem hk)
        have hrg := w.rg _ hg.1
        have it1 : fItem (en .o g) (.s (.int k)) = some (.s (.int g[k])) := item_at .o g (by omega) (by rw [show ((k : Int)).toNat = k by omega]; exact hx)
        have b1 : sSet 5 (lift (mPure (mItem (mVar 3) (mVar 4)))) [some (en .s (rows n ts)), some (wD (wL1 W g)), some (.s (.int s)), some (en .o g), some (.s (.int k)), x5, x6] = some (.nx, [some (en .s (rows n ts)), some (wD (wL1 W g)), some (.s (.int s)), some (en .o g), some (.s (.int k)), some (.s (.int g[k])), x6]) := set_p (by
          show Option.bind (fItem (en .o g) (.s (.int k))) _ = _
          rw [it1]; rfl)
        have it2 : fItem (en .s (rows n ts)) (.s (.int g[k])) = some (en .s (nbs ts g[k])) := item_at .s (rows n ts) hrg.1 (by
          unfold rows
          rw [List.getElem?_map, List.getElem?_range (by omega), Option.map_some, show ((g[k].toNat : Nat) : Int) = g[k] by omega])
        have pu : (en .s (nbs ts g[k]) : D).pure = true := Enc.pureS .s _ (by decide)
        obtain ⟨l, y, b2, b3, b4⟩ := drain_inner (R := some (en .s (rows n ts))) (a4 := some (.s (.int k))) (a5 := some (.s (.int g[k]))) (x := x6) (e0 := .s (.int s)) (row := nbs ts g[k]) hn w k1 (fun y hy => by
          rcases (nbs_mem (fun t ht => (hp t ht).2.1)).mp hy with z | z
          · have a := hp _ z
            have b := M.tie _ z
            dsimp only at a b
            exact ⟨⟨by omega, a.2.2⟩, b.symm.trans hg.2⟩
          · have a := hp _ z
            have b := M.tie _ z
            dsimp only at a b
            exact ⟨⟨a.1, by omega⟩, b.trans hg.2⟩) (mi := wL (mPure (mItem (mVar 0) (mVar 5)))) (by
            unfold wL mPure mItem
            show Option.bind (Option.bind (fItem (en .s (rows n ts)) (.s (.int g[k]))) _) _ = _
            rw [it2, Option.bind_some, if_pos pu, Option.bind_some, asL_en])
        have gl2 := GI.len w b3
        have b5 : sAugF 4 fAdd (mC (.int 1)) [some (en .s (rows n ts)), some (wD (wL1 W (g ++ l))), some (.s (.int s)), some (en .o (g ++ l)), some (.s (.int k)), some (.s (.int g[k])), y] = some (.nx, [some (en .s (rows n ts)), some (wD (wL1 W (g ++ l))), some (.s (.int s)), some (en .o (g ++ l)), some (.s (.int ((k + 1 : Nat) : Int))), some (.s (.int g[k])), y]) := rfl
        refine ⟨_, c, _, .nx, (seq_nx b1).trans ((seq_nx b2).trans b5), .inl rfl, ⟨g ++ l, k + 1, _, _, rfl, b3, by rw [List.length_append]; omega, fun i x hi hx' z hz => ?_⟩, ?_⟩
        · by_cases e : i = k
          · subst e
            rw [List.getElem?_append_left hk, hx] at hx'
            cases hx'
            exact b4 z hz
          · rw [List.getElem?_append_left (by omega)] at hx'
            exact List.mem_append_left _ (k3 i x (by omega) hx' z hz)
        · show (100 - ((k + 1 : Nat) : Int)).toNat < (100 - (k : Int)).toNat
          omega
      · rw [decide_eq_false q] at c
        right
        have : k = g.length := by omega
        subst this
        exact ⟨_, c, g, x5, x6, rfl, k1, k3⟩) 100000 [some (en .s (rows n ts)), some (wD (wL1 W [s])), some (.s (.int s)), some (en .o [s]), some (.s (.int 0)), none, none] ⟨[s], 0, none, none, rfl, ⟨by simp, by simp, fun x hx => by
        rw [List.mem_singleton] at hx
        subst hx
        exact ⟨w.st, rfl⟩⟩, by simp, fun i x hi => absurd hi (Nat.not_lt_zero _)⟩ (by show (100 - (0 : Int)).toNat < 100000; decide)
  subst he
  -- closed under ties, so the whole class
  have full : ∀ x : Int, 0 ≤ x → x < n → m x = m s → x ∈ g := fun x h0 h1 hm => by
    refine (M.cl (fun z => z ∈ g) (fun t ht => ?_) x s hm).mpr k1.st
    have a : ∀ u v : Int, (u, v) ∈ ts ∨ (v, u) ∈ ts → u ∈ g → v ∈ g := fun u v huv hu => by
      obtain ⟨i, hi⟩ := List.mem_iff_getElem?.mp hu
      exact k2 i u (List.getElem?_eq_some_iff.mp hi).1 hi v ((nbs_mem (fun t ht => (hp t ht).2.1)).mpr huv)
    exact ⟨a t.1 t.2 (.inl ht), a t.2 t.1 (.inr ht)⟩
  have fw : wL1 W g = W.filter fun x => decide (m x ≠ m s) := by
    unfold wL1
    apply List.filter_congr
    intro x hx
    have := w.rg x hx
    rw [Bool.eq_iff_iff, decide_eq_true_iff, decide_eq_true_iff]
    exact ⟨fun h h2 => h (full x this.1 this.2 h2), fun h h2 => h (k1.mem x h2).2⟩
  refine ⟨g, ?_, srt_filter k1.nd fun x => ?_⟩
  · unfold ff_drain bb_drain runM
    rw [i0, seq_nx d1]
    have d2 : ([some (en .s (rows n ts)), some (wD W), some (.s (.int s)), none, none, none, none] : Ow.Env).set 1 (some (wD (wL1 W [s]))) = [some (en .s (rows n ts)), some (wD (wL1 W [s])), some (.s (.int s)), none, none, none, none] := rfl
    rw [d2, seq_nx s3, seq_nx s4, seq_nx h5, ← fw]
    rfl
  · rw [decide_eq_true_iff]
    exact ⟨fun h => ⟨w.rg x (k1.mem x h).1, (k1.mem x h).2⟩, fun h => full x h.1.1 h.1.2 h.2⟩
/-! ### the parts -/
theorem appQ {α : Type} [Enc α] {i : Nat} {m : PM} {e : Ow.Env} {xs : List α} {v : α} (h1 : m e = some (en .o v)) (h2 : e[i]? = some (some (en .o xs))) (hl : xs.length < 16777216) : sApp i (plName i) (lift m) e = some (.nx, e.set i (some (en .o (xs ++ [v])))) := app1 (by unfold lift; rw [h1]; rfl) h2 hl
def cls (n : Nat) (m : Int → Int) (p : Int) : List Int := (allI n).filter fun x => decide (m x = p)
def prtK (n : Nat) (m : Int → Int) (k : Nat) : List (List Int) := ((allI k).filter fun p => decide (m p = p)).map (cls n m)
theorem allI_succ (k : Nat) : allI (k + 1) = allI k ++ [(k : Int)] := by
  unfold allI
  rw [List.range_succ, List.map_append]; rfl
theorem prtK_t {n : Nat} {m : Int → Int} {k : Nat} (h : m k = k) : prtK n m (k + 1) = prtK n m k ++ [cls n m k] := by
  unfold prtK
  rw [allI_succ, List.filter_append, List.map_append]
  simp [h]
theorem prtK_f {n : Nat} {m : Int → Int} {k : Nat} (h : ¬ m k = k) : prtK n m (k + 1) = prtK n m k := by
  unfold prtK
  rw [allI_succ, List.filter_append, List.map_append]
  simp [h]
def Wk (n : Nat) (m : Int → Int) (k : Nat) : List Int := (allI n).filter fun x => decide ((k : Int) ≤ m x)
theorem wPut {done : List Int} {x : Int} (h : x ∉ done) : putK (wP done) (.inl x) (.bl true) = wP (done ++ [x]) := by
  unfold putK
  have : ((wP done).any fun kv => decide (kv.1 = .inl x)) = false := by
    rw [List.any_eq_false]
    intro kv hkv
    obtain ⟨y, hy, rfl⟩ := List.mem_map.mp hkv
    simp
    intro e
    exact h (e ▸ hy)
  rw [this, if_neg Bool.false_ne_true]
  unfold wP
  rw [List.map_append]; rfl
theorem dc_places {e0 : Ow.Env} {mx mv : PM} {j : Nat} (hx : ∀ d, mx (e0.set j (some d)) = some d) (hv : ∀ d, mv (e0.set j (some d)) = some (.s (.bl true))) : ∀ (xs done : List Int), (done ++ xs).Nodup → dcD (.nm j) bYes mx mv e0 (xs.map (en .s)) (wP done) = some (wP (done ++ xs))
  | [], done, _ => by rw [List.append_nil]; rfl
  | x :: xs, done, h => by
    have hn : x ∉ done := fun hm => by
      have := (List.nodup_append.mp h).2.2
      exact this x hm x (List.mem_cons_self ..) rfl
    have e1 : done ++ x :: xs = (done ++ [x]) ++ xs := by simp
    rw [e1] at h ⊢
    rw [← dc_places hx hv xs (done ++ [x]) h, ← wPut hn, List.map_cons, dcD, bD_nm, Option.bind_some]
    show Option.bind (some true) _ = _
    rw [Option.bind_some, if_pos rfl, hx, Option.bind_some]
    show Option.bind (some (Sum.inl x)) _ = _
    rw [Option.bind_some, hv, Option.bind_some]
    rfl
theorem callM_bmb {f : FMu} {a1 a3 : Option D} {x y v r z : D} (h2 : f [x.frz, y, v.frz] = some (r, [z])) (h3 : r.noF = true) (h4 : z.noF = true) :
    eCallM f [.bor 0, .mv 2, .bor 4] [some x, a1, some y, a3, some v] = some (r, [some x, a1, some z, a3, some v]) := by
  unfold eCallM
  simp [h2, h3, h4]
theorem wD_noF (W : List Int) : (wD W).noF = true := by
  unfold wD dicD
  rw [D.noF]
  have : noFL ((wP W).map fun p => D.s p.2) = true := by
    induction W with
    | nil => rfl
    | cons w W ih =>
      unfold wP at *
      rw [List.map_cons, List.map_cons, noFL, ih]; rfl
  rw [this]; rfl
theorem groups_spec {n : Nat} {ts : List Tie} {m : Int → Int} (hn : n ≤ 12) (hp : inP n ts) (M : MI ts m) : ff_groups [en .s (rows n ts), en .s (allI n)] = some (en .o (prtK n m n)) := by
  have i0 : initD 5 [(en .s (rows n ts) : D), en .s (allI n)] = [some (en .s (rows n ts)), some (en .s (allI n)), none, none, none] := rfl
  have W0 : allI n = Wk n m 0 := by
    unfold Wk
    rw [List.filter_eq_self.mpr]
    intro x hx
    have := M.nn x (allI_mem.mp hx).1
    exact decide_eq_true this
  have s2 : sSet 2 (lift (mDc (wL (mVar 1)) (.nm 4) bYes (mVar 4) (mC (.bl true)) [4])) [some (en .s (rows n ts)), some (en .s (allI n)), none, none, none] = some (.nx, [some (en .s (rows n ts)), some (en .s (allI n)), some (wD (Wk n m 0)), none, none]) := set_p (by
    have k := dc_places (e0 := [some (en .s (rows n ts)), some (en .s (allI n)), none, none, none]) (mx := mVar 4) (mv := mC (.bl true)) (j := 4) (fun _ => rfl) (fun _ => rfl) (allI n) [] (by rw [List.nil_append]; exact allI_nodup n)
    have w : wL (mVar 1) [some (en .s (rows n ts)), some (en .s (allI n)), none, none, none] = some ((allI n).map (en .s)) := rfl
    have d0 : wipeD [some (en .s (rows n ts)), some (en .s (allI n)), none, none, none] [4] = [some (en .s (rows n ts)), some (en .s (allI n)), none, none, none] := rfl
    unfold mDc
    rw [w, Option.bind_some, List.length_map, allI_len, if_pos (by omega), d0]
    have k' : dcD (.nm 4) bYes (mVar 4) (mC (.bl true)) [some (en .s (rows n ts)), some (en .s (allI n)), none, none, none] ((allI n).map (en .s)) [] = some (wP (allI n)) := k
    rw [k', ← W0]; rfl)
  have s3 : sSet 3 (lift (mk (.lst .o) lNil)) [some (en .s (rows n ts)), some (en .s (allI n)), some (wD (Wk n m 0)), none, none] = some (.nx, [some (en .s (rows n ts)), some (en .s (allI n)), some (wD (Wk n m 0)), some (en .o ([] : List (List Int))), none]) := rfl
  have pu : (en .s (allI n) : D).pure = true := Enc.pureS .s _ (by decide)
  obtain ⟨e', g1, x, he⟩ := forL_inv (mi := wL (mPure (mVar 1))) (g := .nm 4) (mb := (sIf (liftT (mDin (mVar 4) (mVar 2))) (sApp 3 (plName 3) (eSorted (eCallM ff_drain [.bor 0, .mv 2, .bor 4]))) sNx)) (env := [some (en .s (rows n ts)), some (en .s (allI n)), some (wD (Wk n m 0)), some (en .o ([] : List (List Int))), none]) (o := .s) (xs := allI n) (by
      unfold wL mPure
      show Option.bind (Option.bind (some (en .s (allI n) : D)) _) _ = _
      rw [Option.bind_some, if_pos pu, Option.bind_some, asL_en]) (pureL_map (by decide) _)
    (fun pre e => ∃ x : Option D, e = [some (en .s (rows n ts)), some (en .s (allI n)), some (wD (Wk n m pre.length)), some (en .o (prtK n m pre.length)), x]) ⟨none, rfl⟩ (fun pre z post e hx ⟨x, he⟩ => by
      subst he
      have hg := list_get_of_app hx
      have hlt : pre.length < n := by
        have := congrArg List.length hx
        rw [allI_len] at this
        simp at this
        omega
      have hz : z = (pre.length : Int) := by
        unfold allI at hg
        rw [List.getElem?_map, List.getElem?_range hlt] at hg
        cases hg; rfl
      subst hz
      have hpl : (pre ++ [(pre.length : Int)]).length = pre.length + 1 := by rw [List.length_append]; rfl
      rw [hpl]
      clear hpl
      generalize pre.length = k at *
      have c := din_step (e := [some (en .s (rows n ts)), some (en .s (allI n)), some (wD (Wk n m k)), some (en .o (prtK n m k)), some (.s (.int k))]) (mx := mVar 4) (my := mVar 2) (W := Wk n m k) (x := k) rfl rfl
      have le := M.le k
      have memk : (k : Int) ∈ Wk n m k ↔ m k = k := by
        unfold Wk
        rw [List.mem_filter, allI_mem, decide_eq_true_iff]
        exact ⟨fun h => by omega, fun h => ⟨by omega, by omega⟩⟩
      by_cases q : m k = k
      · rw [decide_eq_true (memk.mpr q)] at c
        have w : WI n m (Wk n m k) k := ⟨(allI_nodup n).filter _, fun x hx => allI_mem.mp (List.mem_filter.mp hx).1, memk.mpr q, fun y h0 h1 hm => List.mem_filter.mpr ⟨allI_mem.mpr ⟨h0, h1⟩, decide_eq_true (by omega)⟩⟩
        obtain ⟨g, d1, d2⟩ := drain_spec hn hp M w
        have fw : ((Wk n m k).filter fun x => decide (m x ≠ m k)) = Wk n m (k + 1) := by
          unfold Wk
          rw [List.filter_filter]
          apply List.filter_congr
          intro u _
          rw [q, Bool.eq_iff_iff]
          simp
          omega
        rw [fw] at d1
        have cm := callM_bmb (f := ff_drain) (a1 := some (en .s (allI n))) (a3 := some (en .o (prtK n m k))) (x := en .s (rows n ts)) (y := wD (Wk n m k)) (v := .s (.int k)) (by rw [Enc.frz]; exact d1) (Enc.noF _) (wD_noF _)
        have so : eSorted (eCallM ff_drain [.bor 0, .mv 2, .bor 4]) [some (en .s (rows n ts)), some (en .s (allI n)), some (wD (Wk n m k)), some (en .o (prtK n m k)), some (.s (.int k))] = some (en .o (cls n m k), [some (en .s (rows n ts)), some (en .s (allI n)), some (wD (Wk n m (k + 1))), some (en .o (prtK n m k)), some (.s (.int k))]) := by
          unfold eSorted
          rw [cm, Option.bind_some, fSorted_en, d2, q]
          rfl
        have lk : (prtK n m k).length ≤ k := by
          unfold prtK
          rw [List.length_map]
          exact Nat.le_trans (List.length_filter_le ..) (Nat.le_of_eq (allI_len k))
        have ap := app1 (i := 3) (xs := prtK n m k) so rfl (by omega)
        refine ⟨_, _, .nx, bD_nm _ _ _, (if_t (lT c)).trans ap, .inl rfl, some (.s (.int k)), ?_⟩
        rw [prtK_t q]
        rfl
      · rw [decide_eq_false (fun h => q (memk.mp h))] at c
        refine ⟨_, _, .nx, bD_nm _ _ _, (if_f (lT c)).trans rfl, .inl rfl, some (.s (.int k)), ?_⟩
        have fw : Wk n m (k + 1) = Wk n m k := by
          unfold Wk
          apply List.filter_congr
          intro u _
          have i := M.idem u
          rw [Bool.eq_iff_iff, decide_eq_true_iff, decide_eq_true_iff]
          constructor
          · intro h; omega
          · intro h
            have : ¬ m u = k := fun e => q (by rw [e] at i; exact i)
            omega
        rw [prtK_f q, fw])
  subst he
  refine runP_rt (e' := [some (en .s (rows n ts)), some (en .s (allI n)), some (wD (Wk n m (allI n).length)), none, x]) ?_
  unfold bb_groups
  rw [i0, seq_nx s2, seq_nx s3, seq_nx g1, allI_len]
  rfl
theorem web_parts_spec {n : Nat} {ts : List Tie} {m : Int → Int} (hn : n ≤ 12) (hl : ts.length ≤ 144) (hp : inP n ts) (M : MI ts m) : ff_web_parts [webD .s n ts] = some (en .o (prtK n m n)) := by
  have fz : frzD [webD .s n ts] = [webD .s n ts] := by simp [webD, Enc.frz]
  have q1 : mFn ff_near_places (lCons (mVar 0) lNil) [some (webD .s n ts)] = some (en .o (rows n ts)) := fn_l (lc1 rfl) (by rw [fz]; exact near_spec hn hl hp) (Enc.noF _)
  have e0 : D.n (.lst .o) (rgD 0 (n : Int)) = en .o (allI n) := by
    rw [en_list, allI, List.map_map]
    unfold rgD
    rw [show ((n : Int) - 0).toNat = n by omega]
    congr 1
    apply List.map_congr_left
    intro i _
    simp
  have q2 : mRg (rg1 (mItem (mVar 0) (mC (.int 0)))) [some (webD .s n ts)] = some (en .o (allI n)) := by
    have r : rg1 (mItem (mVar 0) (mC (.int 0))) [some (webD .s n ts)] = some (0, (n : Int)) := rfl
    unfold mRg
    rw [r, Option.bind_some, if_pos (decide_eq_true (RgOk.of_le (Int.le_refl 0) (by show (n : Int) ≤ _; omega) (by show (0 : Int) ≤ 16777216; decide) (by show 0 ≤ (n : Int); omega)))]
    exact congrArg some e0
  have fz2 : frzD [(en .o (rows n ts) : D), en .o (allI n)] = [en .s (rows n ts), en .s (allI n)] := by simp [Enc.frz]
  refine runP_rt (e' := [some (webD .s n ts)]) ?_
  exact ret_p (fn_l (lc2 q1 q2) (by rw [fz2]; exact groups_spec hn hp M) (Enc.noF _))
theorem marks_at {n : Nat} {m : Int → Int} {x : Int} (h0 : 0 ≤ x) (h1 : x < n) : ((allI n).map m)[x.toNat]? = some (m x) := by
  unfold allI
  rw [List.getElem?_map, List.getElem?_map, List.getElem?_range (by omega), Option.map_some, Option.map_some, show ((x.toNat : Nat) : Int) = x by omega]
theorem parts_law {n : Nat} {ts : List Tie} (hn : n ≤ 12) (hl : ts.length ≤ 144) (hp : inP n ts) : ∃ m, MI ts m ∧ ff__law_parts [.s (.int n), en .s ts] = some (en .o (prtK n m n)) := by
  have i0 : initD 11 [.s (.int n), (en .s ts : D)] = [some (.s (.int n)), some (en .s ts), none, none, none, none, none, none, none, none, none] := rfl
  have s2 : sSet 2 (lift (mRg (rg1 (mVar 0)))) [some (.s (.int n)), some (en .s ts), none, none, none, none, none, none, none, none, none] = some (.nx, [some (.s (.int n)), some (en .s ts), some (en .o ((allI n).map fun x => x)), none, none, none, none, none, none, none, none]) := set_p (by
    have e0 : D.n (.lst .o) (rgD 0 (n : Int)) = en .o ((allI n).map fun x => x) := by
      rw [List.map_id', en_list, allI, List.map_map]
      unfold rgD
      rw [show ((n : Int) - 0).toNat = n by omega]
      congr 1
      apply List.map_congr_left
      intro i _
      simp
    have r : rg1 (mVar 0) [some (.s (.int n)), some (en .s ts), none, none, none, none, none, none, none, none, none] = some (0, (n : Int)) := rfl
    unfold mRg
    rw [r, Option.bind_some, if_pos (decide_eq_true (RgOk.of_le (Int.le_refl 0) (by show (n : Int) ≤ _; omega) (by show (0 : Int) ≤ 16777216; decide) (by show 0 ≤ (n : Int); omega)))]
    exact congrArg some e0)
  have pu : (en .s ts : D).pure = true := Enc.pureS .s _ (by decide)
  obtain ⟨e', g1, m, x3, x4, x5, x6, he, M⟩ := forL_inv (mi := wL (mPure (mVar 1))) (g := .tp [(.nm 3), (.nm 4)]) (mb := (sSeq (sSet 5 (lift (mCall fMin2 (lCons (mItem (mVar 2) (mVar 3)) (lCons (mItem (mVar 2) (mVar 4)) lNil))))) (sSeq (sSet 6 (lift (mCall fMax2 (lCons (mItem (mVar 2) (mVar 3)) (lCons (mItem (mVar 2) (mVar 4)) lNil))))) (sSet 2 (lift (mLc (wL (mVar 2)) (.nm 9) bYes (mIf (mB (mOp2 fEq (mVar 9) (mVar 6))) (mPure (mVar 5)) (mPure (mVar 9))) [9])))))) (env := [some (.s (.int n)), some (en .s ts), some (en .o ((allI n).map fun x => x)), none, none, none, none, none, none, none, none]) (o := .s) (xs := ts) (by
      unfold wL mPure
      show Option.bind (Option.bind (some (en .s ts : D)) _) _ = _
      rw [Option.bind_some, if_pos pu, Option.bind_some, asL_en]) (pureL_map (by decide) _)
    (fun pre e => ∃ (m : Int → Int) (x3 x4 x5 x6 : Option D), e = [some (.s (.int n)), some (en .s ts), some (en .o ((allI n).map m)), x3, x4, x5, x6, none, none, none, none] ∧ MI pre m) ⟨_, _, _, _, _, rfl, MI.nil⟩ (fun pre t post e hx ⟨m, x3, x4, x5, x6, he, M⟩ => by
      subst he
      obtain ⟨a, b⟩ := t
      have ht := hp (a, b) (by rw [hx]; simp)
      dsimp only at ht
      have ia : fItem (en .o ((allI n).map m)) (.s (.int a)) = some (.s (.int (m a))) := item_at .o _ ht.1 (marks_at ht.1 (by omega))
      have ib : fItem (en .o ((allI n).map m)) (.s (.int b)) = some (.s (.int (m b))) := item_at .o _ (by omega) (marks_at (by omega) ht.2.2)
      have b5 : sSet 5 (lift (mCall fMin2 (lCons (mItem (mVar 2) (mVar 3)) (lCons (mItem (mVar 2) (mVar 4)) lNil)))) [some (.s (.int n)), some (en .s ts), some (en .o ((allI n).map m)), some (.s (.int a)), some (.s (.int b)), x5, x6, none, none, none, none] = some (.nx, [some (.s (.int n)), some (en .s ts), some (en .o ((allI n).map m)), some (.s (.int a)), some (.s (.int b)), some (.s (.int (min (m a) (m b)))), x6, none, none, none, none]) := set_p (by
        rw [call_l (lc2 ia ib) fMin2_c0, show (if m b < m a then m b else m a) = min (m a) (m b) by split <;> omega]; rfl)
      have b6 : sSet 6 (lift (mCall fMax2 (lCons (mItem (mVar 2) (mVar 3)) (lCons (mItem (mVar 2) (mVar 4)) lNil)))) [some (.s (.int n)), some (en .s ts), some (en .o ((allI n).map m)), some (.s (.int a)), some (.s (.int b)), some (.s (.int (min (m a) (m b)))), x6, none, none, none, none] = some (.nx, [some (.s (.int n)), some (en .s ts), some (en .o ((allI n).map m)), some (.s (.int a)), some (.s (.int b)), some (.s (.int (min (m a) (m b)))), some (.s (.int (max (m a) (m b)))), none, none, none, none]) := set_p (by
        rw [call_l (lc2 ia ib) fMax2_c0, show (if m b > m a then m b else m a) = max (m a) (m b) by split <;> omega]; rfl)
      have b7 : sSet 2 (lift (mLc (wL (mVar 2)) (.nm 9) bYes (mIf (mB (mOp2 fEq (mVar 9) (mVar 6))) (mPure (mVar 5)) (mPure (mVar 9))) [9])) [some (.s (.int n)), some (en .s ts), some (en .o ((allI n).map m)), some (.s (.int a)), some (.s (.int b)), some (.s (.int (min (m a) (m b)))), some (.s (.int (max (m a) (m b)))), none, none, none, none] = some (.nx, [some (.s (.int n)), some (en .s ts), some (en .o ((allI n).map (mst m (a, b)))), some (.s (.int a)), some (.s (.int b)), some (.s (.int (min (m a) (m b)))), some (.s (.int (max (m a) (m b)))), none, none, none, none]) := set_p (by
        have k := lc_all (mi := wL (mVar 2)) (g := .nm 9) (me := mIf (mB (mOp2 fEq (mVar 9) (mVar 6))) (mPure (mVar 5)) (mPure (mVar 9))) (vs := [9]) (en := en .o) (f := fun x : Int => D.s (.int (if x = max (m a) (m b) then min (m a) (m b) else x))) (e := [some (.s (.int n)), some (en .s ts), some (en .o ((allI n).map m)), some (.s (.int a)), some (.s (.int b)), some (.s (.int (min (m a) (m b)))), some (.s (.int (max (m a) (m b)))), none, none, none, none]) (e1 := fun x : Int => [some (.s (.int n)), some (en .s ts), some (en .o ((allI n).map m)), some (.s (.int a)), some (.s (.int b)), some (.s (.int (min (m a) (m b)))), some (.s (.int (max (m a) (m b)))), none, none, some (.s (.int x)), none]) ((allI n).map m) rfl (by rw [List.length_map, allI_len]; omega) (fun _ _ => bD_nm _ _ _) (fun x _ => by
          have c : mB (mOp2 fEq (mVar 9) (mVar 6)) [some (.s (.int n)), some (en .s ts), some (en .o ((allI n).map m)), some (.s (.int a)), some (.s (.int b)), some (.s (.int (min (m a) (m b)))), some (.s (.int (max (m a) (m b)))), none, none, some (.s (.int x)), none] = some (decide (x = max (m a) (m b))) := tB (op2_i rfl rfl (eq_int _ _))
          unfold mIf
          rw [c, Option.bind_some]
          by_cases z : x = max (m a) (m b)
          · rw [decide_eq_true z, if_pos rfl, if_pos z]; rfl
          · rw [decide_eq_false z, if_neg Bool.false_ne_true, if_neg z]; rfl)
        rw [k]
        refine congrArg some ?_
        rw [en_list, List.map_map, List.map_map]
        rfl)
      exact ⟨_, _, .nx, bD_tp2 _ _ _ _ _, (seq_nx b5).trans ((seq_nx b6).trans b7), .inl rfl, mst m (a, b), _, _, _, _, rfl, M.step ⟨ht.1, by show 0 ≤ b; omega⟩⟩)
  subst he
  refine ⟨m, M, ?_⟩
  have s7 : sSet 7 (lift (mk (.lst .o) lNil)) [some (.s (.int n)), some (en .s ts), some (en .o ((allI n).map m)), x3, x4, x5, x6, none, none, none, none] = some (.nx, [some (.s (.int n)), some (en .s ts), some (en .o ((allI n).map m)), x3, x4, x5, x6, some (en .o ([] : List (List Int))), none, none, none]) := rfl
  obtain ⟨e2, g2, x8, he2⟩ := forR_inv (m := rg1 (mVar 0)) (j := 8) (mb := (sIf (liftT (mB (mOp2 fEq (mItem (mVar 2) (mVar 8)) (mVar 8)))) (sApp 7 (plName 7) (lift (mLc (wR (rg1 (mVar 0))) (.nm 10) (mB (mOp2 fEq (mItem (mVar 2) (mVar 10)) (mVar 8))) (mPure (mVar 10)) [10]))) sNx)) (env := [some (.s (.int n)), some (en .s ts), some (en .o ((allI n).map m)), x3, x4, x5, x6, some (en .o ([] : List (List Int))), none, none, none]) (lo := 0) (hi := n) (n := n) rfl (by omega) (by omega) (by omega) (by omega) (by omega)
    (fun k e => ∃ x8 : Option D, e = [some (.s (.int n)), some (en .s ts), some (en .o ((allI n).map m)), x3, x4, x5, x6, some (en .o (prtK n m k)), x8, none, none]) ⟨none, rfl⟩ (fun k e hk ⟨x8, he⟩ => by
      subst he
      have hz : (0 : Int) + (k : Int) = k := by omega
      rw [hz]
      have ik : fItem (en .o ((allI n).map m)) (.s (.int k)) = some (.s (.int (m k))) := item_at .o _ (by omega) (marks_at (by omega) (by omega))
      have c : mB (mOp2 fEq (mItem (mVar 2) (mVar 8)) (mVar 8)) [some (.s (.int n)), some (en .s ts), some (en .o ((allI n).map m)), x3, x4, x5, x6, some (en .o (prtK n m k)), some (.s (.int k)), none, none] = some (decide (m k = k)) := tB (op2_i ik rfl (eq_int _ _))
      have lk : (prtK n m k).length ≤ k := by
        unfold prtK
        rw [List.length_map]
        exact Nat.le_trans (List.length_filter_le ..) (Nat.le_of_eq (allI_len k))
      by_cases q : m k = k
      · rw [decide_eq_true q] at c
        have l := lc_map (mi := wR (rg1 (mVar 0))) (g := .nm 10) (mt := mB (mOp2 fEq (mItem (mVar 2) (mVar 10)) (mVar 8))) (me := mPure (mVar 10)) (vs := [10]) (en := fun (i : Nat) => D.s (.int (0 + (i : Int)))) (p := fun (i : Nat) => decide (m (0 + (i : Int)) = k)) (f := fun (i : Nat) => D.s (.int (0 + (i : Int)))) (e := [some (.s (.int n)), some (en .s ts), some (en .o ((allI n).map m)), x3, x4, x5, x6, some (en .o (prtK n m k)), some (.s (.int k)), none, none]) (e1 := fun (i : Nat) => [some (.s (.int n)), some (en .s ts), some (en .o ((allI n).map m)), x3, x4, x5, x6, some (en .o (prtK n m k)), some (.s (.int k)), none, some (.s (.int (0 + (i : Int))))]) (List.range n) (by rw [wR_ok (lo := 0) (hi := n) rfl (by decide) (by decide) (by omega) (by omega), rgDn_eq, show ((n : Int) - 0).toNat = n by omega]) (by rw [List.length_range]; omega) (fun _ _ => bD_nm _ _ _) (fun i hi => by
          have hi' := List.mem_range.mp hi
          have ii : fItem (en .o ((allI n).map m)) (.s (.int (0 + (i : Int)))) = some (.s (.int (m (0 + (i : Int))))) := item_at .o _ (by omega) (marks_at (by omega) (by omega))
          exact tB (op2_i ii rfl (eq_int _ _))) (fun _ _ _ => rfl)
        have le : D.n (.lst .o) (((List.range n).filter fun (i : Nat) => decide (m (0 + (i : Int)) = k)).map fun (i : Nat) => D.s (.int (0 + (i : Int)))) = en .o (cls n m k) := by
          unfold cls allI
          rw [List.filter_map, en_list, List.map_map]
          refine congrArg (D.n (.lst .o)) ?_
          have : (List.range n).filter (fun (i : Nat) => decide (m (0 + (i : Int)) = k)) = (List.range n).filter ((fun x => decide (m x = (k : Int))) ∘ fun (i : Nat) => (i : Int)) := by
            apply List.filter_congr
            intro i _
            simp
          rw [this]
          apply List.map_congr_left
          intro i _
          simp
        rw [le] at l
        have ap := appQ (i := 7) (xs := prtK n m k) l rfl (by omega)
        refine ⟨_, .nx, (if_t (lT c)).trans ap, .inl rfl, some (.s (.int k)), ?_⟩
        rw [prtK_t q]; rfl
      · rw [decide_eq_false q] at c
        refine ⟨_, .nx, (if_f (lT c)).trans rfl, .inl rfl, some (.s (.int k)), ?_⟩
        rw [prtK_f q]
        try rfl)
  subst he2
  refine runP_rt (e' := [some (.s (.int n)), some (en .s ts), some (en .o ((allI n).map m)), x3, x4, x5, x6, none, x8, none, none]) ?_
  unfold bb__law_parts
  rw [i0, seq_nx s2, seq_nx g1, seq_nx s7, seq_nx g2]
  rfl
/-! ### the law -/
abbrev EJ (a0 a1 a2 a3 a4 a5 a6 a7 a8 a9 : Option D) : Ow.Env := [a0, a1, a2, a3, a4, a5, a6, a7, a8, a9]
theorem frzL2 {α β : Type} [Enc α] [Enc β] (xs : α) (ys : β) : frzD [(en .o xs : D), en .o ys] = [en .s xs, en .s ys] := by simp [Enc.frz]
theorem app_map (xs : List (List Int)) (v : Int) : (xs.map fun r => (en .o (r ++ [v]) : D)) = (xs.map (· ++ [v])).map (en .o) := by
  rw [List.map_map]; rfl
theorem callM_mv1 {f : FMu} {m : PM} {a0 a2 a3 a4 a5 a6 a7 a8 a9 : Option D} {x v r z : D} (h1 : m (EJ a0 (some x) a2 a3 a4 a5 a6 a7 a8 a9) = some v) (h2 : f [x, v.frz] = some (r, [z])) (h3 : r.noF = true) (h4 : z.noF = true) :
    eCallM f [.mv 1, .ev (lift m)] (EJ a0 (some x) a2 a3 a4 a5 a6 a7 a8 a9) = some (r, EJ a0 (some z) a2 a3 a4 a5 a6 a7 a8 a9) := by
  unfold eCallM
  simp [h1, h2, h3, h4]
theorem callM_mb2 {f : FMu} {M : EM} {a0 a3 a4 a5 a6 a7 a8 a9 : Option D} {x x' y v r z : D} (h1 : M (EJ a0 (some x) (some y) a3 a4 a5 a6 a7 a8 a9) = some (v, EJ a0 (some x') (some y) a3 a4 a5 a6 a7 a8 a9)) (h2 : f [x', y.frz, v.frz] = some (r, [z])) (h3 : r.noF = true) (h4 : z.noF = true) :
    eCallM f [.mv 1, .bor 2, .ev M] (EJ a0 (some x) (some y) a3 a4 a5 a6 a7 a8 a9) = some (r, EJ a0 (some z) (some y) a3 a4 a5 a6 a7 a8 a9) := by
  unfold eCallM
  simp [h1, h2, h3, h4]
theorem callM_mb8 {f : FMu} {M : EM} {a0 a2 a3 a4 a5 a6 a7 a9 : Option D} {x x' y v r z : D} (h1 : M (EJ a0 (some x) a2 a3 a4 a5 a6 a7 (some y) a9) = some (v, EJ a0 (some x') a2 a3 a4 a5 a6 a7 (some y) a9)) (h2 : f [x', y.frz, v.frz] = some (r, [z])) (h3 : r.noF = true) (h4 : z.noF = true) :
    eCallM f [.mv 1, .bor 8, .ev M] (EJ a0 (some x) a2 a3 a4 a5 a6 a7 (some y) a9) = some (r, EJ a0 (some z) a2 a3 a4 a5 a6 a7 (some y) a9) := by
  unfold eCallM
  simp [h1, h2, h3, h4]
theorem drawn_ties {a0 a2 a3 a4 a5 a6 a7 a8 a9 : Option D} {a b : Int} : ∃ r a' : Int, eOp2 fAdd (lift (mC (.int 1))) (eCallM ff__law_take [.mv 1, .ev (lift (mC (.int 14)))]) (EJ a0 (some (boxD a (0 + 1) b)) a2 a3 a4 a5 a6 a7 a8 a9) = some (.s (.int (1 + r)), EJ a0 (some (boxD a' (0 + 1 + 1) b)) a2 a3 a4 a5 a6 a7 a8 a9) ∧ 0 ≤ r ∧ r < 14 := by
  obtain ⟨r, a', ht, t0, t1⟩ := take_spec a (0 + 1) b 14 (by decide) (by decide) (by decide) (by omega)
  refine ⟨r, a', ?_, t0, t1⟩
  have c := callM_mv1 (m := mC (.int 14)) (a0 := a0) (a2 := a2) (a3 := a3) (a4 := a4) (a5 := a5) (a6 := a6) (a7 := a7) (a8 := a8) (a9 := a9) rfl ht rfl rfl
  unfold eOp2 lift
  show Option.bind (eCallM ff__law_take [.mv 1, .ev (lift (mC (.int 14)))] (EJ a0 (some (boxD a (0 + 1) b)) a2 a3 a4 a5 a6 a7 a8 a9)) _ = _
  rw [c]; rfl
theorem prt_len (n : Nat) (m : Int → Int) (k : Nat) : (prtK n m k).length ≤ k := by
  unfold prtK
  rw [List.length_map]
  exact Nat.le_trans (List.length_filter_le ..) (Nat.le_of_eq (allI_len k))
theorem prt_row {n : Nat} {m : Int → Int} {k : Nat} : ∀ r ∈ prtK n m k, r.length ≤ n := fun r hr => by
  obtain ⟨p, _, rfl⟩ := List.mem_map.mp hr
  exact Nat.le_trans (List.length_filter_le ..) (Nat.le_of_eq (allI_len n))
theorem alike_prt {n : Nat} {m : Int → Int} (hn : n ≤ 12) : ff__law_rows_alike (frzD [(en .o (prtK n m n) : D), en .o (prtK n m n)]) = some (.s (.bl true)) := by
  rw [frzL2]
  exact rows_alike _ (by have := prt_len n m n; omega) (fun r hr => by have := prt_row r hr; omega)
theorem law_true (ns : List Int) (h : ns.length ≤ 63) : ff_law [scriptD ns] = some (.s (.bl true)) := by
  obtain ⟨a0, b0, hb⟩ := box_spec ns 0 (by decide) (by decide)
  obtain ⟨r2, a2, hm, m0, m1⟩ := take_spec a0 0 b0 13 (by decide) (by decide) (by decide) (by omega)
  obtain ⟨n, rfl⟩ := Int.eq_ofNat_of_zero_le m0
  have hn : n ≤ 12 := by omega
  obtain ⟨c0, d0, hc⟩ := box_spec ns 1 (by decide) (by decide)
  obtain ⟨r3, c2, hm2, p0, p1⟩ := take_spec c0 0 d0 13 (by decide) (by decide) (by decide) (by omega)
  obtain ⟨n2, rfl⟩ := Int.eq_ofNat_of_zero_le p0
  have hn2 : n2 ≤ 12 := by omega
  have fs : ∀ k : Int, frzD [scriptD ns, .s (.int k)] = [scriptD ns, .s (.int k)] := fun k => by
    show [(scriptD ns).frz, _] = _
    rw [script_frz]; rfl
  have s1 : sSet 1 (lift (mFn ff__law_box (lCons (mVar 0) (lCons (mC (.int 0)) lNil)))) (initD 10 [scriptD ns]) = some (.nx, EJ (some (scriptD ns)) (some (boxD a0 0 b0)) none none none none none none none none) := set_p (fn_l (lc2 rfl rfl) (by rw [fs]; exact hb) rfl)
  have s2 : sSet 2 (eCallM ff__law_take [.mv 1, .ev (lift (mC (.int 13)))]) (EJ (some (scriptD ns)) (some (boxD a0 0 b0)) none none none none none none none none) = some (.nx, EJ (some (scriptD ns)) (some (boxD a2 (0 + 1) b0)) (some (.s (.int n))) none none none none none none none) := by
    unfold sSet
    rw [callM_mv1 rfl hm rfl rfl]; rfl
  obtain ⟨r4, a4, q3, t0, t1⟩ := drawn_ties (a0 := some (scriptD ns)) (a2 := some (.s (.int n))) (a3 := none) (a4 := none) (a5 := none) (a6 := none) (a7 := none) (a8 := none) (a9 := none) (a := a2) (b := b0)
  obtain ⟨a5, n5, ts, hts, _, _, srt, inp, tl⟩ := ties_spec (a := a4) (n := 0 + 1 + 1) (b := b0) (th := 1 + r4) (m := n) hn (by decide) (by decide) (by omega) (by omega)
  have s3 : sSet 3 (eCallM ff__law_ties [.mv 1, .bor 2, .ev (eOp2 fAdd (lift (mC (.int 1))) (eCallM ff__law_take [.mv 1, .ev (lift (mC (.int 14)))]))]) (EJ (some (scriptD ns)) (some (boxD a2 (0 + 1) b0)) (some (.s (.int n))) none none none none none none none) = some (.nx, EJ (some (scriptD ns)) (some (boxD a5 n5 b0)) (some (.s (.int n))) (some (en .o ts)) none none none none none none) := by
    unfold sSet
    rw [callM_mb2 q3 hts (Enc.noF _) rfl]; rfl
  have f3 : frzAt 3 (EJ (some (scriptD ns)) (some (boxD a5 n5 b0)) (some (.s (.int n))) (some (en .o ts)) none none none none none none) = EJ (some (scriptD ns)) (some (boxD a5 n5 b0)) (some (.s (.int n))) (some (en .s ts)) none none none none none none := by
    show (EJ (some (scriptD ns)) (some (boxD a5 n5 b0)) (some (.s (.int n))) (some (en .o ts)) none none none none none none).set 3 (some ((en .o ts : D).frz)) = _
    rw [Enc.frz]; rfl
  have fz : ∀ (k : Nat) (us : List Tie), frzD [webD .o k us] = [webD .s k us] := fun k us => by simp [webD, Enc.frz]
  have fzt : ∀ (o : Fl) (ho : o ≠ .w) (k : Nat) (us : List Tie), frzD [D.s (.int k), (en o us : D)] = [.s (.int k), en .s us] := fun o ho k us => by
    cases o with
    | o => simp [Enc.frz]
    | s => simp [Enc.frz]
    | w => exact absurd rfl ho
  obtain ⟨m, M, hpl⟩ := parts_law hn tl inp
  have s4 : sSet 4 (lift (mFn ff__law_parts (lCons (mVar 2) (lCons (mVar 3) lNil)))) (EJ (some (scriptD ns)) (some (boxD a5 n5 b0)) (some (.s (.int n))) (some (en .s ts)) none none none none none none) = some (.nx, EJ (some (scriptD ns)) (some (boxD a5 n5 b0)) (some (.s (.int n))) (some (en .s ts)) (some (en .o (prtK n m n))) none none none none none) := set_p (fn_l (lc2 rfl rfl) (by rw [fzt .s (by decide)]; exact hpl) (Enc.noF _))
  have s5 : sSet 5 (lift (mk .tup (lCons (mPure (mVar 2)) (lCons (mCallL fList (lCons (mVar 3) lNil)) lNil)))) (EJ (some (scriptD ns)) (some (boxD a5 n5 b0)) (some (.s (.int n))) (some (en .s ts)) (some (en .o (prtK n m n))) none none none none none) = some (.nx, EJ (some (scriptD ns)) (some (boxD a5 n5 b0)) (some (.s (.int n))) (some (en .s ts)) (some (en .o (prtK n m n))) (some (webD .o n ts)) none none none none) := set_p (by
    have l : mCallL fList (lCons (mVar 3) lNil) (EJ (some (scriptD ns)) (some (boxD a5 n5 b0)) (some (.s (.int n))) (some (en .s ts)) (some (en .o (prtK n m n))) none none none none none) = some (en .o ts) := by
      have p := ties_pure .s ts
      unfold mCallL
      rw [lc1 (d := (en .s ts : D)) rfl, Option.bind_some]
      show Option.bind (some (ts.map (en .s))) _ = _
      rw [Option.bind_some, if_pos p]; rfl
    unfold Ow.mk
    rw [lc2 (d := .s (.int n)) rfl l]; rfl)
  have wp : ff_web_parts (frzD [webD .o n ts]) = some (en .o (prtK n m n)) := by rw [fz]; exact web_parts_spec hn tl inp M
  have s6 : sSet 6 (lift (mFn ff_web_parts (lCons (mVar 5) lNil))) (EJ (some (scriptD ns)) (some (boxD a5 n5 b0)) (some (.s (.int n))) (some (en .s ts)) (some (en .o (prtK n m n))) (some (webD .o n ts)) none none none none) = some (.nx, EJ (some (scriptD ns)) (some (boxD a5 n5 b0)) (some (.s (.int n))) (some (en .s ts)) (some (en .o (prtK n m n))) (some (webD .o n ts)) (some (en .o (prtK n m n))) none none none) := set_p (fn_l (lc1 rfl) wp (Enc.noF _))
  have c7 : mOr (mNotT (mTru (mFn ff__law_rows_alike (lCons (mVar 6) (lCons (mVar 4) lNil))))) (mB (mOp2 fNe (mVar 5) (mk .tup (lCons (mPure (mVar 2)) (lCons (mPure (mVar 3)) lNil))))) (EJ (some (scriptD ns)) (some (boxD a5 n5 b0)) (some (.s (.int n))) (some (en .s ts)) (some (en .o (prtK n m n))) (some (webD .o n ts)) (some (en .o (prtK n m n))) none none none) = some false := by
    have p : (en .s ts : D).pure = true := Enc.pureS .s ts (by decide)
    have l : mPure (mVar 3) (EJ (some (scriptD ns)) (some (boxD a5 n5 b0)) (some (.s (.int n))) (some (en .s ts)) (some (en .o (prtK n m n))) (some (webD .o n ts)) (some (en .o (prtK n m n))) none none none) = some (en .s ts) := by
      show Option.bind (some (en .s ts : D)) _ = _
      rw [Option.bind_some, if_pos p]
    have l2 : mk .tup (lCons (mPure (mVar 2)) (lCons (mPure (mVar 3)) lNil)) (EJ (some (scriptD ns)) (some (boxD a5 n5 b0)) (some (.s (.int n))) (some (en .s ts)) (some (en .o (prtK n m n))) (some (webD .o n ts)) (some (en .o (prtK n m n))) none none none) = some (webD .s n ts) := by
      unfold Ow.mk
      rw [lc2 (d := .s (.int n)) rfl l]; rfl
    have q := ne_en (α := Int × List Tie) (by decide) .o .s ((n : Int), ts) ((n : Int), ts)
    exact tOr_f (tNot (b := true) (tTru (fn_l (lc2 rfl rfl) (alike_prt hn) rfl))) (tB ((op2_i rfl l2 q).trans (by simp)))
  have s8 : sForM 6 7 (sApp 7 (plName 7) (lift (mC (.int 0)))) (EJ (some (scriptD ns)) (some (boxD a5 n5 b0)) (some (.s (.int n))) (some (en .s ts)) (some (en .o (prtK n m n))) (some (webD .o n ts)) (some (en .o (prtK n m n))) none none none) = some (.nx, EJ (some (scriptD ns)) (some (boxD a5 n5 b0)) (some (.s (.int n))) (some (en .s ts)) (some (en .o (prtK n m n))) (some (webD .o n ts)) (some (en .o ((prtK n m n).map (· ++ [(0 : Int)])))) none none none) := by
    have k := forM_app (e := EJ (some (scriptD ns)) (some (boxD a5 n5 b0)) (some (.s (.int n))) (some (en .s ts)) (some (en .o (prtK n m n))) (some (webD .o n ts)) none none none none) (j := 7) (mb := sApp 7 (plName 7) (lift (mC (.int 0)))) (f := (· ++ [(0 : Int)])) (fun xs hx => ⟨_, app1 (v := (0 : Int)) rfl rfl (by omega), rfl, rfl⟩) (prtK n m n) [] (fun r hr => by have := prt_row r hr; omega)
    show Option.map _ (forMD 7 _ [] ((prtK n m n).map (en .o)) _) = _
    erw [k]
    rw [List.nil_append]
    show some (O.nx, EJ _ _ _ _ _ _ (some (D.n (.lst .o) ((prtK n m n).map fun r : List Int => (en .o (r ++ [(0 : Int)]) : D)))) _ _ _) = _
    rw [app_map]
    rfl
  have s9 : sSet 1 (lift (mFn ff__law_box (lCons (mVar 0) (lCons (mC (.int 1)) lNil)))) (EJ (some (scriptD ns)) (some (boxD a5 n5 b0)) (some (.s (.int n))) (some (en .s ts)) (some (en .o (prtK n m n))) (some (webD .o n ts)) (some (en .o ((prtK n m n).map (· ++ [(0 : Int)])))) none none none) = some (.nx, EJ (some (scriptD ns)) (some (boxD c0 0 d0)) (some (.s (.int n))) (some (en .s ts)) (some (en .o (prtK n m n))) (some (webD .o n ts)) (some (en .o ((prtK n m n).map (· ++ [(0 : Int)])))) none none none) := set_p (fn_l (lc2 rfl rfl) (by rw [fs]; exact hc) rfl)
  have s10 : sSet 8 (eCallM ff__law_take [.mv 1, .ev (lift (mC (.int 13)))]) (EJ (some (scriptD ns)) (some (boxD c0 0 d0)) (some (.s (.int n))) (some (en .s ts)) (some (en .o (prtK n m n))) (some (webD .o n ts)) (some (en .o ((prtK n m n).map (· ++ [(0 : Int)])))) none none none) = some (.nx, EJ (some (scriptD ns)) (some (boxD c2 (0 + 1) d0)) (some (.s (.int n))) (some (en .s ts)) (some (en .o (prtK n m n))) (some (webD .o n ts)) (some (en .o ((prtK n m n).map (· ++ [(0 : Int)])))) none (some (.s (.int n2))) none) := by
    unfold sSet
    rw [callM_mv1 rfl hm2 rfl rfl]; rfl
  obtain ⟨r6, c4, q6, u0, u1⟩ := drawn_ties (a0 := some (scriptD ns)) (a2 := some (.s (.int n))) (a3 := some (en .s ts)) (a4 := some (en .o (prtK n m n))) (a5 := some (webD .o n ts)) (a6 := some (en .o ((prtK n m n).map (· ++ [(0 : Int)])))) (a7 := none) (a8 := some (.s (.int n2))) (a9 := none) (a := c2) (b := d0)
  obtain ⟨c5, n6, us, hus, _, _, srt2, inp2, ul⟩ := ties_spec (a := c4) (n := 0 + 1 + 1) (b := d0) (th := 1 + r6) (m := n2) hn2 (by decide) (by decide) (by omega) (by omega)
  have s11 : sSet 9 (eTup2 (lift (mPure (mVar 8))) (eCallM ff__law_ties [.mv 1, .bor 8, .ev (eOp2 fAdd (lift (mC (.int 1))) (eCallM ff__law_take [.mv 1, .ev (lift (mC (.int 14)))]))])) (EJ (some (scriptD ns)) (some (boxD c2 (0 + 1) d0)) (some (.s (.int n))) (some (en .s ts)) (some (en .o (prtK n m n))) (some (webD .o n ts)) (some (en .o ((prtK n m n).map (· ++ [(0 : Int)])))) none (some (.s (.int n2))) none) = some (.nx, EJ (some (scriptD ns)) (some (boxD c5 n6 d0)) (some (.s (.int n))) (some (en .s ts)) (some (en .o (prtK n m n))) (some (webD .o n ts)) (some (en .o ((prtK n m n).map (· ++ [(0 : Int)])))) none (some (.s (.int n2))) (some (webD .o n2 us))) := by
    have c := callM_mb8 q6 hus (Enc.noF _) rfl
    unfold sSet eTup2
    have l : lift (mPure (mVar 8)) (EJ (some (scriptD ns)) (some (boxD c2 (0 + 1) d0)) (some (.s (.int n))) (some (en .s ts)) (some (en .o (prtK n m n))) (some (webD .o n ts)) (some (en .o ((prtK n m n).map (· ++ [(0 : Int)])))) none (some (.s (.int n2))) none) = some (.s (.int n2), EJ (some (scriptD ns)) (some (boxD c2 (0 + 1) d0)) (some (.s (.int n))) (some (en .s ts)) (some (en .o (prtK n m n))) (some (webD .o n ts)) (some (en .o ((prtK n m n).map (· ++ [(0 : Int)])))) none (some (.s (.int n2))) none) := rfl
    rw [l, Option.bind_some]
    dsimp only
    rw [c]; rfl
  obtain ⟨m2, M2, hpl2⟩ := parts_law hn2 ul inp2
  have c12 : mNotT (mTru (mFn ff__law_rows_alike (lCons (mFn ff_web_parts (lCons (mVar 9) lNil)) (lCons (mFn ff__law_parts (lCons (mVar 8) (lCons (mItem (mVar 9) (mC (.int 1))) lNil))) lNil)))) (EJ (some (scriptD ns)) (some (boxD c5 n6 d0)) (some (.s (.int n))) (some (en .s ts)) (some (en .o (prtK n m n))) (some (webD .o n ts)) (some (en .o ((prtK n m n).map (· ++ [(0 : Int)])))) none (some (.s (.int n2))) (some (webD .o n2 us))) = some false :=
    tNot (b := true) (tTru (fn_l (lc2 (fn_l (lc1 rfl) (by rw [fz]; exact web_parts_spec hn2 ul inp2 M2) (Enc.noF _)) (fn_l (lc2 (d2 := en .o us) rfl rfl) (by rw [fzt .o (by decide)]; exact hpl2) (Enc.noF _))) (alike_prt hn2) rfl))
  have fin : mAndV (mFn ff__law_rows_alike (lCons (mFn ff_web_parts (lCons (mVar 5) lNil)) (lCons (mVar 4) lNil))) (mOp2 fEq (mVar 6) (mLc (wL (mVar 4)) (.nm 7) bYes (mCat (mVar 7) (mk (.lst .o) (lCons (mC (.int 0)) lNil))) [7])) (EJ (some (scriptD ns)) (some (boxD c5 n6 d0)) (some (.s (.int n))) (some (en .s ts)) (some (en .o (prtK n m n))) (some (webD .o n ts)) (some (en .o ((prtK n m n).map (· ++ [(0 : Int)])))) none (some (.s (.int n2))) (some (webD .o n2 us))) = some (.s (.bl true)) := by
    have k := lc_all (mi := wL (mVar 4)) (g := .nm 7) (me := mCat (mVar 7) (mk (.lst .o) (lCons (mC (.int 0)) lNil))) (vs := [7]) (en := en .o) (f := fun r : List Int => en .o (r ++ [(0 : Int)])) (e := EJ (some (scriptD ns)) (some (boxD c5 n6 d0)) (some (.s (.int n))) (some (en .s ts)) (some (en .o (prtK n m n))) (some (webD .o n ts)) (some (en .o ((prtK n m n).map (· ++ [(0 : Int)])))) none (some (.s (.int n2))) (some (webD .o n2 us))) (e1 := fun r => EJ (some (scriptD ns)) (some (boxD c5 n6 d0)) (some (.s (.int n))) (some (en .s ts)) (some (en .o (prtK n m n))) (some (webD .o n ts)) (some (en .o ((prtK n m n).map (· ++ [(0 : Int)])))) (some (en .o r)) (some (.s (.int n2))) (some (webD .o n2 us))) (prtK n m n) rfl (by have := prt_len n m n; omega) (fun _ _ => bD_nm _ _ _) (fun r hr => cat_ints rfl (ys := [0]) rfl (by have := prt_row r hr; simp; omega))
    have e0 : D.n (.lst .o) ((prtK n m n).map fun r : List Int => (en .o (r ++ [(0 : Int)]) : D)) = en .o ((prtK n m n).map (· ++ [(0 : Int)])) := by
      rw [app_map]; rfl
    rw [e0] at k
    have q2 := eq_en (α := List (List Int)) (by decide) .o .o ((prtK n m n).map (· ++ [(0 : Int)])) ((prtK n m n).map (· ++ [(0 : Int)]))
    rw [decide_eq_true rfl] at q2
    exact andV_t (fn_l (lc2 (fn_l (lc1 rfl) wp (Enc.noF _)) rfl) (alike_prt hn) rfl) (op2_i rfl k q2)
  unfold ff_law
  refine runP_rt (e' := EJ (some (scriptD ns)) (some (boxD c5 n6 d0)) (some (.s (.int n))) (some (en .s ts)) (some (en .o (prtK n m n))) (some (webD .o n ts)) (some (en .o ((prtK n m n).map (· ++ [(0 : Int)])))) none (some (.s (.int n2))) (some (webD .o n2 us))) ?_
  unfold bb_law
  rw [seq_nx s1, seq_nx s2, seq_nx s3, f3, seq_nx s4, seq_nx s5, seq_nx s6, seq_nx (if_pass c7), seq_nx s8, seq_nx s9, seq_nx s10, seq_nx s11, seq_nx (if_pass c12)]
  exact ret_p fin
end Lw

namespace Lw
open PySem L2 Ow
theorem all_mk {l : PySem.W.OpenLaw} {w : World} {K : PySem.W.Frag} {h : Heap} {mg : PySem.Str → Option Value} {fa a0 a1 a2 a3 a4 a5 a6 a7 a8 a9 a10 a11 a12 : Addr} (X : K.In h) (G : h.Ns mainGlobals mg) (hfa : mg "law" = some (.ref fa))
    {od0 an0 od1 an1 od2 an2 od3 an3 od4 an4 od5 an5 od6 an6 od7 an7 od8 an8 od9 an9 od10 an10 od11 an11 od12 an12 : Option Addr} {sl0 sl1 sl2 sl3 sl4 sl5 sl6 sl7 sl8 sl9 sl10 sl11 sl12 : Array (Option Value)} {oc0 kV0 dc0 pm0 cd0 ct0 oc1 kV1 dc1 pm1 cd1 ct1 oc2 kV2 dc2 pm2 cd2 ct2 oc3 kV3 dc3 pm3 cd3 ct3 oc4 kV4 dc4 pm4 cd4 ct4 oc5 kV5 dc5 pm5 cd5 ct5 oc6 kV6 dc6 pm6 cd6 ct6 oc7 kV7 dc7 pm7 cd7 ct7 oc8 kV8 dc8 pm8 cd8 ct8 oc9 kV9 dc9 pm9 cd9 ct9 oc10 kV10 dc10 pm10 cd10 ct10 oc11 kV11 dc11 pm11 cd11 ct11 oc12 kV12 dc12 pm12 cd12 ct12 : Value}
    (q0 : PySem.W.nsIn K mainGlobals "near_places" = some (some (.ref a0))) (l0 : K.lookup a0 = some ⟨oc0, od0, .func (PySem.W.fnOf "near_places" "near_places" (defArgs (topS 1)) (defBody (topS 1)) (defScope (topS 1)) .none kV0 dc0 pm0 an0 cd0 ct0), sl0⟩) (c0 : PySem.W.codeIn K cd0 "near_places" = true) (k0 : PySem.W.keepIn K (.ref a0) = true)
    (q1 : PySem.W.nsIn K mainGlobals "web_parts" = some (some (.ref a1))) (l1 : K.lookup a1 = some ⟨oc1, od1, .func (PySem.W.fnOf "web_parts" "web_parts" (defArgs (topS 3)) (defBody (topS 3)) (defScope (topS 3)) .none kV1 dc1 pm1 an1 cd1 ct1), sl1⟩) (c1 : PySem.W.codeIn K cd1 "web_parts" = true) (k1 : PySem.W.keepIn K (.ref a1) = true)
    (q2 : PySem.W.nsIn K mainGlobals "groups" = some (some (.ref a2))) (l2 : K.lookup a2 = some ⟨oc2, od2, .func (PySem.W.fnOf "groups" "groups" (defArgs (topS 4)) (defBody (topS 4)) (defScope (topS 4)) .none kV2 dc2 pm2 an2 cd2 ct2), sl2⟩) (c2 : PySem.W.codeIn K cd2 "groups" = true) (k2 : PySem.W.keepIn K (.ref a2) = true)
    (q3 : PySem.W.nsIn K mainGlobals "drain" = some (some (.ref a3))) (l3 : K.lookup a3 = some ⟨oc3, od3, .func (PySem.W.fnOf "drain" "drain" (defArgs (topS 5)) (defBody (topS 5)) (defScope (topS 5)) .none kV3 dc3 pm3 an3 cd3 ct3), sl3⟩) (c3 : PySem.W.codeIn K cd3 "drain" = true) (k3 : PySem.W.keepIn K (.ref a3) = true)
    (q4 : PySem.W.nsIn K mainGlobals "_law_mixed" = some (some (.ref a4))) (l4 : K.lookup a4 = some ⟨oc4, od4, .func (PySem.W.fnOf "_law_mixed" "_law_mixed" (defArgs (topS 7)) (defBody (topS 7)) (defScope (topS 7)) .none kV4 dc4 pm4 an4 cd4 ct4), sl4⟩) (c4 : PySem.W.codeIn K cd4 "_law_mixed" = true) (k4 : PySem.W.keepIn K (.ref a4) = true)
    (q5 : PySem.W.nsIn K mainGlobals "_law_box" = some (some (.ref a5))) (l5 : K.lookup a5 = some ⟨oc5, od5, .func (PySem.W.fnOf "_law_box" "_law_box" (defArgs (topS 8)) (defBody (topS 8)) (defScope (topS 8)) .none kV5 dc5 pm5 an5 cd5 ct5), sl5⟩) (c5 : PySem.W.codeIn K cd5 "_law_box" = true) (k5 : PySem.W.keepIn K (.ref a5) = true)
    (q6 : PySem.W.nsIn K mainGlobals "_law_take" = some (some (.ref a6))) (l6 : K.lookup a6 = some ⟨oc6, od6, .func (PySem.W.fnOf "_law_take" "_law_take" (defArgs (topS 9)) (defBody (topS 9)) (defScope (topS 9)) .none kV6 dc6 pm6 an6 cd6 ct6), sl6⟩) (c6 : PySem.W.codeIn K cd6 "_law_take" = true) (k6 : PySem.W.keepIn K (.ref a6) = true)
    (q7 : PySem.W.nsIn K mainGlobals "_law_whole" = some (some (.ref a7))) (l7 : K.lookup a7 = some ⟨oc7, od7, .func (PySem.W.fnOf "_law_whole" "_law_whole" (defArgs (topS 10)) (defBody (topS 10)) (defScope (topS 10)) .none kV7 dc7 pm7 an7 cd7 ct7), sl7⟩) (c7 : PySem.W.codeIn K cd7 "_law_whole" = true) (k7 : PySem.W.keepIn K (.ref a7) = true)
    (q8 : PySem.W.nsIn K mainGlobals "_law_ties" = some (some (.ref a8))) (l8 : K.lookup a8 = some ⟨oc8, od8, .func (PySem.W.fnOf "_law_ties" "_law_ties" (defArgs (topS 11)) (defBody (topS 11)) (defScope (topS 11)) .none kV8 dc8 pm8 an8 cd8 ct8), sl8⟩) (c8 : PySem.W.codeIn K cd8 "_law_ties" = true) (k8 : PySem.W.keepIn K (.ref a8) = true)
    (q9 : PySem.W.nsIn K mainGlobals "_law_row_alike" = some (some (.ref a9))) (l9 : K.lookup a9 = some ⟨oc9, od9, .func (PySem.W.fnOf "_law_row_alike" "_law_row_alike" (defArgs (topS 12)) (defBody (topS 12)) (defScope (topS 12)) .none kV9 dc9 pm9 an9 cd9 ct9), sl9⟩) (c9 : PySem.W.codeIn K cd9 "_law_row_alike" = true) (k9 : PySem.W.keepIn K (.ref a9) = true)
    (q10 : PySem.W.nsIn K mainGlobals "_law_rows_alike" = some (some (.ref a10))) (l10 : K.lookup a10 = some ⟨oc10, od10, .func (PySem.W.fnOf "_law_rows_alike" "_law_rows_alike" (defArgs (topS 13)) (defBody (topS 13)) (defScope (topS 13)) .none kV10 dc10 pm10 an10 cd10 ct10), sl10⟩) (c10 : PySem.W.codeIn K cd10 "_law_rows_alike" = true) (k10 : PySem.W.keepIn K (.ref a10) = true)
    (q11 : PySem.W.nsIn K mainGlobals "_law_parts" = some (some (.ref a11))) (l11 : K.lookup a11 = some ⟨oc11, od11, .func (PySem.W.fnOf "_law_parts" "_law_parts" (defArgs (topS 14)) (defBody (topS 14)) (defScope (topS 14)) .none kV11 dc11 pm11 an11 cd11 ct11), sl11⟩) (c11 : PySem.W.codeIn K cd11 "_law_parts" = true) (k11 : PySem.W.keepIn K (.ref a11) = true)
    (q12 : PySem.W.nsIn K mainGlobals "law" = some (some (.ref a12))) (l12 : K.lookup a12 = some ⟨oc12, od12, .func (PySem.W.fnOf "law" "law" (defArgs (topS 15)) (defBody (topS 15)) (defScope (topS 15)) .none kV12 dc12 pm12 an12 cd12 ct12), sl12⟩) (c12 : PySem.W.codeIn K cd12 "law" = true) (k12 : PySem.W.keepIn K (.ref a12) = true)
    (z0 : PySem.W.nsIn K mainGlobals "all" = some none)
    (z1 : PySem.W.nsIn K mainGlobals "bool" = some none)
    (z2 : PySem.W.nsIn K mainGlobals "int" = some none)
    (z3 : PySem.W.nsIn K mainGlobals "isinstance" = some none)
    (z4 : PySem.W.nsIn K mainGlobals "len" = some none)
    (z5 : PySem.W.nsIn K mainGlobals "list" = some none)
    (z6 : PySem.W.nsIn K mainGlobals "max" = some none)
    (z7 : PySem.W.nsIn K mainGlobals "min" = some none)
    (z8 : PySem.W.nsIn K mainGlobals "range" = some none)
    (z9 : PySem.W.nsIn K mainGlobals "sorted" = some none)
    (z10 : PySem.W.nsIn K mainGlobals "zip" = some none) :
    ∃ fd : FuncData, (∀ (s : Shared) (v : Value), BindsTo s fd ⟨[v], []⟩ [("_law_script", v)]) ∧ ∀ base : Heap, K.In base → base.Ns mainGlobals mg → FnOk l.prog w K mg base CX0 4 fa fd ["_law_script"] (spLaw K ff_law) := by
  have e := hfa.symm.trans (PySem.W.mg_of X G q12)
  cases e
  have T : Tx K mg ⟨a0, a1, a2, a3, a4, a5, a6, a7, a8, a9, a10, a11, fa⟩ ⟨PySem.W.fnOf "near_places" "near_places" (defArgs (topS 1)) (defBody (topS 1)) (defScope (topS 1)) .none kV0 dc0 pm0 an0 cd0 ct0, PySem.W.fnOf "web_parts" "web_parts" (defArgs (topS 3)) (defBody (topS 3)) (defScope (topS 3)) .none kV1 dc1 pm1 an1 cd1 ct1, PySem.W.fnOf "groups" "groups" (defArgs (topS 4)) (defBody (topS 4)) (defScope (topS 4)) .none kV2 dc2 pm2 an2 cd2 ct2, PySem.W.fnOf "drain" "drain" (defArgs (topS 5)) (defBody (topS 5)) (defScope (topS 5)) .none kV3 dc3 pm3 an3 cd3 ct3, PySem.W.fnOf "_law_mixed" "_law_mixed" (defArgs (topS 7)) (defBody (topS 7)) (defScope (topS 7)) .none kV4 dc4 pm4 an4 cd4 ct4, PySem.W.fnOf "_law_box" "_law_box" (defArgs (topS 8)) (defBody (topS 8)) (defScope (topS 8)) .none kV5 dc5 pm5 an5 cd5 ct5, PySem.W.fnOf "_law_take" "_law_take" (defArgs (topS 9)) (defBody (topS 9)) (defScope (topS 9)) .none kV6 dc6 pm6 an6 cd6 ct6, PySem.W.fnOf "_law_whole" "_law_whole" (defArgs (topS 10)) (defBody (topS 10)) (defScope (topS 10)) .none kV7 dc7 pm7 an7 cd7 ct7, PySem.W.fnOf "_law_ties" "_law_ties" (defArgs (topS 11)) (defBody (topS 11)) (defScope (topS 11)) .none kV8 dc8 pm8 an8 cd8 ct8, PySem.W.fnOf "_law_row_alike" "_law_row_alike" (defArgs (topS 12)) (defBody (topS 12)) (defScope (topS 12)) .none kV9 dc9 pm9 an9 cd9 ct9, PySem.W.fnOf "_law_rows_alike" "_law_rows_alike" (defArgs (topS 13)) (defBody (topS 13)) (defScope (topS 13)) .none kV10 dc10 pm10 an10 cd10 ct10, PySem.W.fnOf "_law_parts" "_law_parts" (defArgs (topS 14)) (defBody (topS 14)) (defScope (topS 14)) .none kV11 dc11 pm11 an11 cd11 ct11, PySem.W.fnOf "law" "law" (defArgs (topS 15)) (defBody (topS 15)) (defScope (topS 15)) .none kV12 dc12 pm12 an12 cd12 ct12⟩ := { F_near_places := fun_mk (st := topS 1) l0 c0 k0, g_near_places := PySem.W.mg_of X G q0, b_near_places := (fun_mk (st := topS 1) l0 c0 k0).binds (ps := ["web"]) fun _ _ _ _ _ _ us hl => match us, hl with | [_], _ => rfl, F_web_parts := fun_mk (st := topS 3) l1 c1 k1, g_web_parts := PySem.W.mg_of X G q1, b_web_parts := (fun_mk (st := topS 3) l1 c1 k1).binds (ps := ["web"]) fun _ _ _ _ _ _ us hl => match us, hl with | [_], _ => rfl, F_groups := fun_mk (st := topS 4) l2 c2 k2, g_groups := PySem.W.mg_of X G q2, b_groups := (fun_mk (st := topS 4) l2 c2 k2).binds (ps := ["near", "places"]) fun _ _ _ _ _ _ us hl => match us, hl with | [_, _], _ => rfl, F_drain := fun_mk (st := topS 5) l3 c3 k3, g_drain := PySem.W.mg_of X G q3, b_drain := (fun_mk (st := topS 5) l3 c3 k3).binds (ps := ["near", "waiting", "start"]) fun _ _ _ _ _ _ us hl => match us, hl with | [_, _, _], _ => rfl, F__law_mixed := fun_mk (st := topS 7) l4 c4 k4, g__law_mixed := PySem.W.mg_of X G q4, b__law_mixed := (fun_mk (st := topS 7) l4 c4 k4).binds (ps := ["_law_cell", "_law_k"]) fun _ _ _ _ _ _ us hl => match us, hl with | [_, _], _ => rfl, F__law_box := fun_mk (st := topS 8) l5 c5 k5, g__law_box := PySem.W.mg_of X G q5, b__law_box := (fun_mk (st := topS 8) l5 c5 k5).binds (ps := ["_law_script", "_law_k"]) fun _ _ _ _ _ _ us hl => match us, hl with | [_, _], _ => rfl, F__law_take := fun_mk (st := topS 9) l6 c6 k6, g__law_take := PySem.W.mg_of X G q6, b__law_take := (fun_mk (st := topS 9) l6 c6 k6).binds (ps := ["_law_box_here", "_law_size"]) fun _ _ _ _ _ _ us hl => match us, hl with | [_, _], _ => rfl, F__law_whole := fun_mk (st := topS 10) l7 c7 k7, g__law_whole := PySem.W.mg_of X G q7, b__law_whole := (fun_mk (st := topS 10) l7 c7 k7).binds (ps := ["_law_found"]) fun _ _ _ _ _ _ us hl => match us, hl with | [_], _ => rfl, F__law_ties := fun_mk (st := topS 11) l8 c8 k8, g__law_ties := PySem.W.mg_of X G q8, b__law_ties := (fun_mk (st := topS 11) l8 c8 k8).binds (ps := ["_law_box_here", "_law_many", "_law_thin"]) fun _ _ _ _ _ _ us hl => match us, hl with | [_, _, _], _ => rfl, F__law_row_alike := fun_mk (st := topS 12) l9 c9 k9, g__law_row_alike := PySem.W.mg_of X G q9, b__law_row_alike := (fun_mk (st := topS 12) l9 c9 k9).binds (ps := ["_law_told", "_law_due"]) fun _ _ _ _ _ _ us hl => match us, hl with | [_, _], _ => rfl, F__law_rows_alike := fun_mk (st := topS 13) l10 c10 k10, g__law_rows_alike := PySem.W.mg_of X G q10, b__law_rows_alike := (fun_mk (st := topS 13) l10 c10 k10).binds (ps := ["_law_told", "_law_due"]) fun _ _ _ _ _ _ us hl => match us, hl with | [_, _], _ => rfl, F__law_parts := fun_mk (st := topS 14) l11 c11 k11, g__law_parts := PySem.W.mg_of X G q11, b__law_parts := (fun_mk (st := topS 14) l11 c11 k11).binds (ps := ["_law_many", "_law_ties_here"]) fun _ _ _ _ _ _ us hl => match us, hl with | [_, _], _ => rfl, F_law := fun_mk (st := topS 15) l12 c12 k12, g_law := PySem.W.mg_of X G q12, b_law := (fun_mk (st := topS 15) l12 c12 k12).binds (ps := ["_law_script"]) fun _ _ _ _ _ _ us hl => match us, hl with | [_], _ => rfl, m_all := PySem.W.mg_none_of X G z0, m_bool := PySem.W.mg_none_of X G z1, m_int := PySem.W.mg_none_of X G z2, m_isinstance := PySem.W.mg_none_of X G z3, m_len := PySem.W.mg_none_of X G z4, m_list := PySem.W.mg_none_of X G z5, m_max := PySem.W.mg_none_of X G z6, m_min := PySem.W.mg_none_of X G z7, m_range := PySem.W.mg_none_of X G z8, m_sorted := PySem.W.mg_none_of X G z9, m_zip := PySem.W.mg_none_of X G z10 }
  exact ⟨_, fun s v => .of_eq rfl, fun base _ _ => law_end (ok_law T)⟩
end Lw
open PySem PySem.W PyProof.Rows
set_option maxHeartbeats 0 in
theorem PySem.Challenge.cw_ringfloor_k03_parts_holds : PySem.Challenge.rw_ringfloor_k03_parts.Holds := by
  w_on; o_law; k_head; (case hw => w_witness2)
  k_fill
  refine L2.walk_of (l := PySem.Challenge.rw_ringfloor_k03_parts) (n := 63) (k := 4) (x := "_law_script") (CX := fun _ => L2.CX0) (sp := fun w => Ow.spLaw _ Lw.ff_law) rfl (by decide) rfl ⟨rfl, by decide, by decide⟩ (fun w h Y => PySem.W.kIn_of Y) ?F (fun w H a ns hl ho hS => ⟨a, ns, rfl, ho, hS, Lw.law_true ns hl, fun _ => rfl⟩) (fun _ _ _ _ _ h => h)
  case F =>
    intro w mg fa h KX G hmg
    refine' Lw.all_mk KX G hmg ?q0 ?l0 ?c0 ?k0 ?q1 ?l1 ?c1 ?k1 ?q2 ?l2 ?c2 ?k2 ?q3 ?l3 ?c3 ?k3 ?q4 ?l4 ?c4 ?k4 ?q5 ?l5 ?c5 ?k5 ?q6 ?l6 ?c6 ?k6 ?q7 ?l7 ?c7 ?k7 ?q8 ?l8 ?c8 ?k8 ?q9 ?l9 ?c9 ?k9 ?q10 ?l10 ?c10 ?k10 ?q11 ?l11 ?c11 ?k11 ?q12 ?l12 ?c12 ?k12 ?z0 ?z1 ?z2 ?z3 ?z4 ?z5 ?z6 ?z7 ?z8 ?z9 ?z10
    (case q0 => k_is); (case l0 => k_is); (case c0 => k_is); (case k0 => k_is)
    (case q1 => k_is); (case l1 => k_is); (case c1 => k_is); (case k1 => k_is)
    (case q2 => k_is); (case l2 => k_is); (case c2 => k_is); (case k2 => k_is)
    (case q3 => k_is); (case l3 => k_is); (case c3 => k_is); (case k3 => k_is)
    (case q4 => k_is); (case l4 => k_is); (case c4 => k_is); (case k4 => k_is)
    (case q5 => k_is); (case l5 => k_is); (case c5 => k_is); (case k5 => k_is)
    (case q6 => k_is); (case l6 => k_is); (case c6 => k_is); (case k6 => k_is)
    (case q7 => k_is); (case l7 => k_is); (case c7 => k_is); (case k7 => k_is)
    (case q8 => k_is); (case l8 => k_is); (case c8 => k_is); (case k8 => k_is)
    (case q9 => k_is); (case l9 => k_is); (case c9 => k_is); (case k9 => k_is)
    (case q10 => k_is); (case l10 => k_is); (case c10 => k_is); (case k10 => k_is)
    (case q11 => k_is); (case l11 => k_is); (case c11 => k_is); (case k11 => k_is)
    (case q12 => k_is); (case l12 => k_is); (case c12 => k_is); (case k12 => k_is)
    (case z0 => k_is)
    (case z1 => k_is)
    (case z2 => k_is)
    (case z3 => k_is)
    (case z4 => k_is)
    (case z5 => k_is)
    (case z6 => k_is)
    (case z7 => k_is)
    (case z8 => k_is)
    (case z9 => k_is)
    (case z10 => k_is)

