import PyProof.Rows.All
import Wide.All
import OpenK.AllK
import Wide.FinOn
import HandS.ForMost
import HandS.Evl
import HandS.Wide
import HandS.WideBits
import HandS.IsInst
import HandS.Conv
import HandS.Deep
import HandS.More
import HandS.Style
import HandS.SortInts
import HandS.SortRule
import HandS.TupSets
import HandS.DictTup
import HandS.ExcIs
import HandS.Flow
import HandS.Exc
import HandS.TryOnly
import HandS.ExcOwn
import HandS.WordsExc
import HandS.DictComp
import HandS.WordsDict
import PyProof.SetRoads
import PyProof.Rows.SetFrom
import PyProof.Rows.SortShellAny
import HandS.SetFor
import HandS.TryMany
import HandS.FStr
import HandS.RaiseMore
import PySem.Challenge.RW_ringfloor_k35_fours_made
import KE.BitLaws
import HandS.EndBits
set_option Elab.async false
set_option linter.all false
set_option maxRecDepth 100000
namespace Ow
open PySem L2

/-! ### data, trees -/
/-- owned, shared (never changed), written (of the module, or known to the object) -/
inductive Fl where
  | o | s | w
  deriving DecidableEq
inductive Kd where
  | lst (o : Fl) | tup | dic (o : Fl) (ks : List Key) | dct (o : Fl) (ks : List (List Key))
@[simp] def Kd.own : Kd → Bool
  | .lst o => decide (o = .o)
  | .tup => false
  | .dic o _ => decide (o = .o)
  | .dct o _ => decide (o = .o)
@[simp] def Fl.frz : Fl → Fl
  | .w => .w
  | _ => .s
@[simp] def Kd.frz : Kd → Kd
  | .lst o => .lst o.frz
  | .tup => .tup
  | .dic o ks => .dic o.frz ks
  | .dct o ks => .dct o.frz ks
@[simp] def Kd.wri : Kd → Kd
  | .lst _ => .lst .w
  | .tup => .tup
  | .dic _ ks => .dic .w ks
  | .dct _ ks => .dct .w ks
def Kd.ho : Kd → List V → HO
  | .lst _, vs => .lst vs
  | .tup, vs => .tup vs
  | .dic _ ks, vs => .dK (ks.zip vs)
  | .dct _ ks, vs => .dT (ks.zip vs)
inductive T where
  | s (v : V)
  | n (k : Kd) (a : Addr) (ts : List T)
  | w (z : Bool) (k : Kd) (a : Addr) (ts : List T)
inductive D where
  | s (v : V)
  | n (k : Kd) (ds : List D)
abbrev Env := List (Option D)
abbrev TEnv := List (Option T)
def T.val : T → V
  | .s v => v
  | .n _ a _ => .ref a
  | .w _ _ a _ => .ref a
abbrev vals (ts : List T) : List V := ts.map T.val
/-- scalars are seen, references are not -/
@[simp] def scl : V → Bool
  | .non => true
  | .bl _ => true
  | .int _ => true
  | .str _ => true
  | _ => false
def hid (v : V) : V := if scl v = true then v else .byt #[]
theorem hid_scl {v : V} (h : scl v = true) : hid v = v := if_pos h
mutual
def T.er : T → D
  | .s v => .s (hid v)
  | .n k _ ts => .n k (erL ts)
  | .w _ k _ ts => .n k.wri (erL ts)
def erL : List T → List D
  | [] => []
  | t :: ts => t.er :: erL ts
end
mutual
def T.co (a : Addr) : T → Nat
  | .s _ => 0
  | .n k b ts => (if k.own = true ∧ b = a then 1 else 0) + coL a ts
  | .w _ _ _ ts => coL a ts
def coL (a : Addr) : List T → Nat
  | [] => 0
  | t :: ts => t.co a + coL a ts
end
mutual
def T.cu (a : Addr) : T → Nat
  | .s _ => 0
  | .n k b ts => (if k.own = false ∧ b = a then 1 else 0) + cuL a ts
  | .w z _ b ts => (if z = false ∧ b = a then 1 else 0) + cuL a ts
def cuL (a : Addr) : List T → Nat
  | [] => 0
  | t :: ts => t.cu a + cuL a ts
end
@[simp] def Kd.isw : Kd → Bool
  | .lst o => decide (o = .w)
  | .tup => false
  | .dic o _ => decide (o = .w)
  | .dct o _ => decide (o = .w)
def NodeOk (H : Hp) (k : Kd) (a : Addr) (vs : List V) : Prop := H a = some (k.ho vs) ∧ k.isw = false
/-- of the module (z), or known to the object -/
def WrOk (K : PySem.W.Frag) (H : Hp) (z : Bool) (k : Kd) (a : Addr) (vs : List V) : Prop := match z, k with
  | true, .lst _ => SqL K (fun _ => none) a vs
  | true, .tup => SqT K (fun _ => none) a vs
  | true, _ => False
  | false, k => ∃ o, H a = some (.frz o (k.ho vs))
mutual
def T.sat (K : PySem.W.Frag) (H : Hp) : T → Prop
  | .s _ => True
  | .n k a ts => NodeOk H k a (vals ts) ∧ satL K H ts
  | .w z k a ts => WrOk K H z k a (vals ts) ∧ satL K H ts
def satL (K : PySem.W.Frag) (H : Hp) : List T → Prop
  | [] => True
  | t :: ts => t.sat K H ∧ satL K H ts
end
section
variable {K : PySem.W.Frag} {H H' H0 H1 : Hp} {a : Addr} {t : T} {ts F : List T} {σ σ' : L2.St} {env env' : TEnv}

theorem erL_map : ∀ ts : List T, erL ts = ts.map T.er
  | [] => rfl
  | t :: ts => by rw [erL, erL_map ts, List.map_cons]
theorem erL_length (ts : List T) : (erL ts).length = ts.length := by rw [erL_map, List.length_map]
theorem satL_iff : ∀ {ts : List T}, satL K H ts ↔ ∀ t ∈ ts, t.sat K H
  | [] => by simp [satL]
  | t :: ts => by
    rw [satL, satL_iff (ts := ts)]
    simp
theorem coL_mem : ∀ {ts : List T} {t : T}, t ∈ ts → t.co a ≤ coL a ts
  | x :: ts, t, h => by
    rw [coL]
    rcases List.mem_cons.mp h with h | h
    · subst h; omega
    · have := coL_mem h; omega
theorem cuL_mem : ∀ {ts : List T} {t : T}, t ∈ ts → t.cu a ≤ cuL a ts
  | x :: ts, t, h => by
    rw [cuL]
    rcases List.mem_cons.mp h with h | h
    · subst h; omega
    · have := cuL_mem h; omega
theorem coL_append : ∀ {ts us : List T}, coL a (ts ++ us) = coL a ts + coL a us
  | [], us => by simp [coL]
  | t :: ts, us => by rw [List.cons_append, coL, coL, coL_append (ts := ts)]; omega
theorem cuL_append : ∀ {ts us : List T}, cuL a (ts ++ us) = cuL a ts + cuL a us
  | [], us => by simp [cuL]
  | t :: ts, us => by rw [List.cons_append, cuL, cuL, cuL_append (ts := ts)]; omega
theorem satL_append {us : List T} : satL K H (ts ++ us) ↔ satL K H ts ∧ satL K H us := by
  rw [satL_iff, satL_iff, satL_iff]
  constructor
  · intro h
    exact ⟨fun t ht => h t (List.mem_append.mpr (.inl ht)), fun t ht => h t (List.mem_append.mpr (.inr ht))⟩
  · rintro ⟨h1, h2⟩ t ht
    rcases List.mem_append.mp ht with h | h
    · exact h1 t h
    · exact h2 t h
/-- what a tree rests on stays -/
def Keeps (H H' : Hp) (c u : Addr → Nat) : Prop := ∀ a o, 0 < c a + u a → H a = some o → H' a = some o
theorem rd_keep {u : HO} (h : ∀ o, H a = some o → H' a = some o) (r : Rd H a u) : Rd H' a u := by
  rcases r with r | ⟨o, r⟩
  · exact .inl (h _ r)
  · exact .inr ⟨o, h _ r⟩
mutual
theorem sat_keep : ∀ (t : T), (∀ a o, 0 < t.co a + t.cu a → H a = some o → H' a = some o) → t.sat K H → t.sat K H'
  | .s _, _, _ => trivial
  | .n k a ts, hk, h => by
    obtain ⟨h1, h3⟩ := h
    have ha : ∀ o, H a = some o → H' a = some o := fun o => hk a o (by
      rw [T.co, T.cu]
      cases k.own <;> simp <;> omega)
    refine ⟨⟨ha _ h1.1, h1.2⟩, satL_keep ts (fun b o hb => hk b o ?_) h3⟩
    rw [T.co, T.cu]; omega
  | .w z k a ts, hk, h => by
    obtain ⟨h1, h3⟩ := h
    refine ⟨?_, satL_keep ts (fun b o hb => hk b o (by rw [T.co, T.cu]; omega)) h3⟩
    cases z with
    | true => cases k <;> exact h1
    | false =>
      obtain ⟨o, h1⟩ := h1
      exact ⟨o, hk a _ (by rw [T.co, T.cu]; simp; omega) h1⟩
theorem satL_keep : ∀ (ts : List T), (∀ a o, 0 < coL a ts + cuL a ts → H a = some o → H' a = some o) → satL K H ts → satL K H' ts
  | [], _, _ => trivial
  | t :: ts, hk, h => ⟨sat_keep t (fun a o q => hk a o (by rw [coL, cuL]; omega)) h.1, satL_keep ts (fun a o q => hk a o (by rw [coL, cuL]; omega)) h.2⟩
end

mutual
theorem co_some : ∀ (t : T), t.sat K H → 0 < t.co a → H a ≠ none
  | .s _, _, h => by rw [T.co] at h; omega
  | .n k b ts, h, hc => by
    obtain ⟨h1, h3⟩ := h
    rw [T.co] at hc
    by_cases q : k.own = true ∧ b = a
    · obtain ⟨q1, q2⟩ := q
      subst q2
      have h1 : H b = some _ := h1.1
      rw [h1]
      exact fun z => by cases z
    · rw [if_neg q] at hc
      exact coL_some ts h3 (by omega)
  | .w z k b ts, h, hc => by
    rw [T.co] at hc
    exact coL_some ts h.2 hc
theorem coL_some : ∀ (ts : List T), satL K H ts → 0 < coL a ts → H a ≠ none
  | [], _, h => by rw [coL] at h; omega
  | t :: ts, h, hc => by
    rw [coL] at hc
    by_cases q : 0 < t.co a
    · exact co_some t h.1 q
    · exact coL_some ts h.2 (by omega)
end
mutual
theorem cu_some : ∀ (t : T), t.sat K H → 0 < t.cu a → H a ≠ none
  | .s _, _, h => by rw [T.cu] at h; omega
  | .n k b ts, h, hc => by
    obtain ⟨h1, h3⟩ := h
    rw [T.cu] at hc
    by_cases q : k.own = false ∧ b = a
    · obtain ⟨q1, q2⟩ := q
      subst q2
      have h1 : H b = some _ := h1.1
      rw [h1]
      exact fun z => by cases z
    · rw [if_neg q] at hc
      exact cuL_some ts h3 (by omega)
  | .w z k b ts, h, hc => by
    obtain ⟨h1, h3⟩ := h
    rw [T.cu] at hc
    by_cases q : z = false ∧ b = a
    · obtain ⟨q1, q2⟩ := q
      subst q1 q2
      obtain ⟨o, h1⟩ := h1
      rw [h1]
      exact fun z => by cases z
    · rw [if_neg q] at hc
      exact cuL_some ts h3 (by omega)
theorem cuL_some : ∀ (ts : List T), satL K H ts → 0 < cuL a ts → H a ≠ none
  | [], _, h => by rw [cuL] at h; omega
  | t :: ts, h, hc => by
    rw [cuL] at hc
    by_cases q : 0 < t.cu a
    · exact cu_some t h.1 q
    · exact cuL_some ts h.2 (by omega)
end

/-! ### environments -/
def oT (f : T → Nat) : Option T → Nat
  | none => 0
  | some t => f t
def coE (a : Addr) : TEnv → Nat
  | [] => 0
  | o :: r => oT (T.co a) o + coE a r
def cuE (a : Addr) : TEnv → Nat
  | [] => 0
  | o :: r => oT (T.cu a) o + cuE a r
def SatE (K : PySem.W.Frag) (H : Hp) (env : TEnv) : Prop := ∀ t, some t ∈ env → t.sat K H
def Rel (σ : L2.St) (env : TEnv) : Prop := env.length = σ.length ∧ ∀ (i : Nat) (t : T), env[i]? = some (some t) → σ[i]? = some (some t.val)
def erE (env : TEnv) : Env := env.map (Option.map T.er)
def Wf (c u : Addr → Nat) : Prop := ∀ a, c a ≤ 1 ∧ (c a = 0 ∨ u a = 0)
abbrev Ex := Evl.Ex
theorem coE_set : ∀ {env : TEnv} {i : Nat} {x : Option T} (o : Option T), env[i]? = some x → coE a (env.set i o) + oT (T.co a) x = coE a env + oT (T.co a) o
  | [], i, x, o, h => by simp at h
  | y :: r, 0, x, o, h => by
    have e : y = x := Option.some.inj h
    subst e
    rw [List.set_cons_zero, coE, coE]; omega
  | y :: r, i + 1, x, o, h => by
    have e := coE_set (env := r) (i := i) (x := x) o h
    rw [List.set_cons_succ, coE, coE]; omega
theorem cuE_set : ∀ {env : TEnv} {i : Nat} {x : Option T} (o : Option T), env[i]? = some x → cuE a (env.set i o) + oT (T.cu a) x = cuE a env + oT (T.cu a) o
  | [], i, x, o, h => by simp at h
  | y :: r, 0, x, o, h => by
    have e : y = x := Option.some.inj h
    subst e
    rw [List.set_cons_zero, cuE, cuE]; omega
  | y :: r, i + 1, x, o, h => by
    have e := cuE_set (env := r) (i := i) (x := x) o h
    rw [List.set_cons_succ, cuE, cuE]; omega
theorem coE_get {i : Nat} (h : env[i]? = some (some t)) : t.co a ≤ coE a env := by
  have := coE_set (a := a) none h
  simp only [oT] at this; omega
theorem cuE_get {i : Nat} (h : env[i]? = some (some t)) : t.cu a ≤ cuE a env := by
  have := cuE_set (a := a) none h
  simp only [oT] at this; omega
theorem SatE.get {i : Nat} (h : SatE K H env) (g : env[i]? = some (some t)) : t.sat K H := h t (List.mem_of_getElem? g)
theorem SatE.set {i : Nat} {o : Option T} (h : SatE K H env) (g : ∀ t, o = some t → t.sat K H) : SatE K H (env.set i o) := fun t ht => by
  rcases List.mem_or_eq_of_mem_set ht with q | q
  · exact h t q
  · exact g t q.symm
theorem coE_some : ∀ {env : TEnv}, SatE K H env → 0 < coE a env → H a ≠ none
  | [], _, h => by rw [coE] at h; omega
  | none :: r, h, hc => by
    rw [coE, oT] at hc
    exact coE_some (env := r) (fun t ht => h t (List.mem_cons_of_mem _ ht)) (by omega)
  | some t :: r, h, hc => by
    rw [coE, oT] at hc
    by_cases q : 0 < t.co a
    · exact co_some t (h t (List.mem_cons_self ..)) q
    · exact coE_some (env := r) (fun t ht => h t (List.mem_cons_of_mem _ ht)) (by omega)
theorem cuE_some : ∀ {env : TEnv}, SatE K H env → 0 < cuE a env → H a ≠ none
  | [], _, h => by rw [cuE] at h; omega
  | none :: r, h, hc => by
    rw [cuE, oT] at hc
    exact cuE_some (env := r) (fun t ht => h t (List.mem_cons_of_mem _ ht)) (by omega)
  | some t :: r, h, hc => by
    rw [cuE, oT] at hc
    by_cases q : 0 < t.cu a
    · exact cu_some t (h t (List.mem_cons_self ..)) q
    · exact cuE_some (env := r) (fun t ht => h t (List.mem_cons_of_mem _ ht)) (by omega)
theorem satE_keep : ∀ {env : TEnv}, (∀ a o, 0 < coE a env + cuE a env → H a = some o → H' a = some o) → SatE K H env → SatE K H' env
  | [], _, _ => fun t ht => by cases ht
  | none :: r, hk, h => fun t ht => by
    rcases List.mem_cons.mp ht with q | q
    · cases q
    · exact satE_keep (env := r) (fun a o hc => hk a o (by rw [coE, cuE, oT, oT]; omega)) (fun t ht => h t (List.mem_cons_of_mem _ ht)) t q
  | some x :: r, hk, h => fun t ht => by
    rcases List.mem_cons.mp ht with q | q
    · cases q
      exact sat_keep x (fun a o hc => hk a o (by rw [coE, cuE, oT, oT]; omega)) (h x (List.mem_cons_self ..))
    · exact satE_keep (env := r) (fun a o hc => hk a o (by rw [coE, cuE, oT, oT]; omega)) (fun t ht => h t (List.mem_cons_of_mem _ ht)) t q
theorem sat_ex (e : Ex H H') (h : t.sat K H) : t.sat K H' := sat_keep t (fun a o _ q => e a o q) h
theorem satL_ex (e : Ex H H') (h : satL K H ts) : satL K H' ts := satL_keep ts (fun a o _ q => e a o q) h
theorem SatE.ex (e : Ex H H') (h : SatE K H env) : SatE K H' env := fun t ht => sat_ex e (h t ht)
theorem erE_get {i : Nat} {d : D} (h : (erE env)[i]? = some (some d)) : ∃ t, env[i]? = some (some t) ∧ t.er = d := by
  rw [erE, List.getElem?_map] at h
  cases e : env[i]? with
  | none => rw [e] at h; cases h
  | some o =>
    rw [e] at h
    cases o with
    | none => cases h
    | some t => exact ⟨t, rfl, Option.some.inj (Option.some.inj h)⟩
theorem erE_set {i : Nat} {o : Option T} : erE (env.set i o) = (erE env).set i (o.map T.er) := by
  rw [erE, erE, List.map_set]
theorem erE_length : (erE env).length = env.length := by rw [erE, List.length_map]
theorem Rel.set {i : Nat} {t : T} (r : Rel σ env) : Rel (σ.set i (some t.val)) (env.set i (some t)) := by
  refine ⟨by rw [List.length_set, List.length_set, r.1], fun j u h => ?_⟩
  by_cases e : i = j
  · subst e
    rw [List.getElem?_set] at h
    rw [List.getElem?_set]
    by_cases l : i < env.length
    · rw [if_pos rfl, if_pos l] at h
      rw [if_pos rfl, if_pos (by rw [← r.1]; exact l)]
      cases h
      rfl
    · rw [if_pos rfl, if_neg l] at h
      cases h
  · rw [List.getElem?_set, if_neg e] at h
    rw [List.getElem?_set, if_neg e]
    exact r.2 j u h
theorem Rel.drop {i : Nat} (r : Rel σ env) : Rel σ (env.set i none) := by
  refine ⟨by rw [List.length_set, r.1], fun j u h => ?_⟩
  by_cases e : i = j
  · subst e
    rw [List.getElem?_set] at h
    by_cases l : i < env.length
    · rw [if_pos rfl, if_pos l] at h
      cases h
    · rw [if_pos rfl, if_neg l] at h
      cases h
  · rw [List.getElem?_set, if_neg e] at h
    exact r.2 j u h
/-- a slot's tree made another one of the same value -/
theorem Rel.swap {i : Nat} {t u : T} (r : Rel σ env) (h : env[i]? = some (some t)) (e : u.val = t.val) : Rel σ (env.set i (some u)) := by
  refine ⟨by rw [List.length_set, r.1], fun j x g => ?_⟩
  by_cases q : i = j
  · subst q
    rw [List.getElem?_set, if_pos rfl] at g
    by_cases l : i < env.length
    · rw [if_pos l] at g
      cases g
      rw [e]
      exact r.2 i t h
    · rw [if_neg l] at g
      cases g
  · rw [List.getElem?_set, if_neg q] at g
    exact r.2 j x g

/-! ### steps -/
def Stp (H : Hp) (c u : Addr → Nat) (H' : Hp) (c' u' : Addr → Nat) : Prop :=
  (∀ a o, H a = some o → c a = 0 → H' a = some o) ∧ (∀ a, H' a = none → H a = none) ∧ ∀ a, (0 < c' a → 0 < c a ∨ H a = none) ∧ (0 < u' a → 0 < c a ∨ 0 < u a ∨ H a = none)
theorem Stp.refl {c u : Addr → Nat} : Stp H c u H c u := ⟨fun _ _ h _ => h, fun _ h => h, fun a => ⟨fun h => .inl h, fun h => .inr (.inl h)⟩⟩
theorem Stp.trans {c u c1 u1 c2 u2 : Addr → Nat} (x : Stp H c u H1 c1 u1) (y : Stp H1 c1 u1 H' c2 u2) : Stp H c u H' c2 u2 := by
  refine ⟨fun a o h hc => ?_, fun a h => x.2.1 a (y.2.1 a h), fun a => ⟨fun h => ?_, fun h => ?_⟩⟩
  · have h1 := x.1 a o h hc
    by_cases q : c1 a = 0
    · exact y.1 a o h1 q
    · rcases (x.2.2 a).1 (by omega) with z | z
      · omega
      · rw [h] at z; cases z
  · rcases (y.2.2 a).1 h with z | z
    · exact (x.2.2 a).1 z
    · exact .inr (x.2.1 a z)
  · rcases (y.2.2 a).2 h with z | z | z
    · rcases (x.2.2 a).1 z with z | z
      · exact .inl z
      · exact .inr (.inr z)
    · exact (x.2.2 a).2 z
    · exact .inr (.inr (x.2.1 a z))
end
end Ow

namespace Ow
open PySem L2

/-! ### what a part of the text comes to -/
def Own (H : Hp) (env : TEnv) (t : T) : Prop := ∀ a, (t.co a ≤ 1 ∧ (t.co a = 0 ∨ t.cu a = 0)) ∧ (0 < t.co a → H a = none) ∧ (0 < t.cu a → 0 < cuE a env ∨ H a = none)
def Bor (H : Hp) (env : TEnv) (t : T) : Prop := ∀ a, (0 < t.co a → 0 < coE a env ∨ H a = none) ∧ (0 < t.cu a → 0 < cuE a env ∨ H a = none)
abbrev PM := Env → Option D
abbrev EM := Env → Option (D × Env)
abbrev BM := Env → Option Bool
def trP (K : PySem.W.Frag) (m : PM) : TE := fun σ H Q => ∃ env d, m (erE env) = some d ∧ Rel σ env ∧ SatE K H env ∧ ∀ t H', t.er = d → Ex H H' → t.sat K H' → Own H env t → Q t.val H'
def trB (K : PySem.W.Frag) (m : PM) : TE := fun σ H Q => ∃ env d, m (erE env) = some d ∧ Rel σ env ∧ SatE K H env ∧ ∀ t H', t.er = d → Ex H H' → t.sat K H' → Bor H env t → Q t.val H'
def trT (K : PySem.W.Frag) (m : BM) : TT := fun σ H Q => ∃ env b, m (erE env) = some b ∧ Rel σ env ∧ SatE K H env ∧ ∀ H', Ex H H' → Q b H'
def SP (X : Cx) (e : Expr) (m : PM) : Prop := PE X e (trP X.K m)
def SB (X : Cx) (e : Expr) (m : PM) : Prop := PE X e (trB X.K m)
def ST (X : Cx) (e : Expr) (m : BM) : Prop := PT X e (trT X.K m)
def SW (X : Cx) (e : Expr) (m : BM) : Prop := PW X e (trT X.K m)
theorem Own.bor {H : Hp} {env : TEnv} {t : T} (h : Own H env t) : Bor H env t := fun a => ⟨fun z => .inr ((h a).2.1 z), (h a).2.2⟩
theorem Own.back {H H1 : Hp} {env : TEnv} {t : T} (e : Ex H H1) (h : Own H1 env t) : Own H env t := fun a =>
  ⟨(h a).1, fun z => Evl.fresh_back e ((h a).2.1 z), fun z => ((h a).2.2 z).imp id (Evl.fresh_back e)⟩
theorem Bor.back {H H1 : Hp} {env : TEnv} {t : T} (e : Ex H H1) (h : Bor H1 env t) : Bor H env t := fun a =>
  ⟨fun z => ((h a).1 z).imp id (Evl.fresh_back e), fun z => ((h a).2 z).imp id (Evl.fresh_back e)⟩
theorem own_s {H : Hp} {env : TEnv} {v : V} : Own H env (.s v) := fun a => by
  simp [T.co, T.cu]
theorem PE.weak {X : Cx} {e : Expr} {t u : TE} (h : PE X e t) (w : ∀ σ H Q, u σ H Q → t σ H Q) : PE X e u := ⟨fun pins s σ H Q I z => h.run pins s σ H Q I (w σ H Q z)⟩
theorem PT.weak {X : Cx} {e : Expr} {t u : TT} (h : PT X e t) (w : ∀ σ H Q, u σ H Q → t σ H Q) : PT X e u := ⟨fun pins s σ H Q I z => h.run pins s σ H Q I (w σ H Q z)⟩
theorem PW.weak {X : Cx} {e : Expr} {t u : TT} (h : PW X e t) (w : ∀ σ H Q, u σ H Q → t σ H Q) : PW X e u := ⟨fun wh pins s σ H Q I z => h.run wh pins s σ H Q I (w σ H Q z)⟩
/-! no owned node -/
mutual
@[simp] def D.pure : D → Bool
  | .s _ => true
  | .n k ds => !k.own && pureL ds
@[simp] def pureL : List D → Bool
  | [] => true
  | d :: ds => d.pure && pureL ds
end
mutual
theorem pure_co {a : Addr} : ∀ (t : T), t.er.pure = true → t.co a = 0
  | .s _, _ => rfl
  | .n k b ts, h => by
    rw [T.er, D.pure, Bool.and_eq_true] at h
    have q : k.own = false := by simpa using h.1
    rw [T.co, pureL_co ts h.2, q]
    simp
  | .w z k b ts, h => by
    rw [T.er, D.pure, Bool.and_eq_true] at h
    rw [T.co, pureL_co ts h.2]
theorem pureL_co {a : Addr} : ∀ (ts : List T), pureL (erL ts) = true → coL a ts = 0
  | [], _ => rfl
  | t :: ts, h => by
    rw [erL, pureL, Bool.and_eq_true] at h
    rw [coL, pure_co t h.1, pureL_co ts h.2]
end

section
variable {X : Cx} {m ma mb : PM} {e a b : Expr} {pos : Pos} {σ : L2.St} {H H1 H' : Hp} {env : TEnv} {K : PySem.W.Frag}
theorem SP.sb (h : SP X e m) : SB X e m := PE.weak h fun σ H Q ⟨env, d, hm, r, s, k⟩ => ⟨env, d, hm, r, s, fun t H' e1 e2 e3 o => k t H' e1 e2 e3 o.bor⟩
/-! ### names, constants -/
@[simp] def mVar (i : Nat) : PM := fun env => env[i]?.join
def mCopy (i : Nat) : PM := fun env => match env[i]?.join with
  | some d => if d.pure = true then some d else none
  | none => none
@[simp] def mC (v : V) : PM := fun _ => some (.s v)
theorem join_get {i : Nat} {d : D} (h : (erE env)[i]?.join = some d) : ∃ t, env[i]? = some (some t) ∧ t.er = d := by
  refine erE_get (i := i) ?_
  cases e : (erE env)[i]? with
  | none => rw [e] at h; cases h
  | some o =>
    rw [e] at h
    cases o with
    | none => cases h
    | some d' =>
      have h' : d' = d := Option.some.inj h
      rw [h']
theorem sb_var {x : Str} (i : Nat) (hN : X.N[i]? = some x := by rfl) (hv : Vis X.env.scope x := by first | exact .inl rfl | exact .inr (.inl rfl) | exact .inr (.inr rfl)) (hd : (x == ("__debug__" : Str)) = false := by decide) (hcd : (x == ("__classdict__" : Str)) = false := by decide) : SB X (.Name x pos) (mVar i) := PE.weak (pe_var (i := i) hN hv hd hcd) fun σ H Q ⟨env, d, hm, r, s, k⟩ => by
  obtain ⟨t, h1, h2⟩ := join_get hm
  exact ⟨t.val, r.2 i t h1, k t H h2 (Evl.Ex.refl H) (s.get h1) fun a => ⟨fun z => .inl (Nat.lt_of_lt_of_le z (coE_get h1)), fun z => .inl (Nat.lt_of_lt_of_le z (cuE_get h1))⟩⟩
theorem sp_var {x : Str} (i : Nat) (hN : X.N[i]? = some x := by rfl) (hv : Vis X.env.scope x := by first | exact .inl rfl | exact .inr (.inl rfl) | exact .inr (.inr rfl)) (hd : (x == ("__debug__" : Str)) = false := by decide) (hcd : (x == ("__classdict__" : Str)) = false := by decide) : SP X (.Name x pos) (mCopy i) := PE.weak (pe_var (i := i) hN hv hd hcd) fun σ H Q ⟨env, d, hm, r, s, k⟩ => by
  unfold mCopy at hm
  split at hm
  · rename_i d' hd
    split at hm
    · rename_i hp
      cases hm
      obtain ⟨t, h1, h2⟩ := join_get hd
      rw [← h2] at hp
      refine ⟨t.val, r.2 i t h1, k t H h2 (Evl.Ex.refl H) (s.get h1) fun a => ?_⟩
      rw [pure_co t hp]
      exact ⟨⟨Nat.zero_le _, .inl rfl⟩, fun z => absurd z (Nat.lt_irrefl _), fun z => .inl (Nat.lt_of_lt_of_le z (cuE_get h1))⟩
    · cases hm
  · cases hm
theorem sp_c {v : V} (h : PE X e (tC v)) (hv : scl v = true) : SP X e (mC v) := PE.weak h fun σ H Q ⟨env, d, hm, r, s, k⟩ => by
  cases hm
  exact k (.s v) H (by rw [T.er, hid_scl hv]) (Evl.Ex.refl H) trivial own_s
theorem sp_int {i : Int} {j : Nat} : SP X (.Constant (.int i) j pos) (mC (.int i)) := sp_c pe_int rfl
theorem sp_bl {c : Bool} {j : Nat} : SP X (.Constant (.bool c) j pos) (mC (.bl c)) := sp_c pe_bl rfl
theorem sp_non {j : Nat} : SP X (.Constant .none j pos) (mC .non) := sp_c pe_non rfl
theorem sp_str {x : Str} {j : Nat} : SP X (.Constant (.str x) j pos) (mC (.str x)) := sp_c pe_str rfl
/-- a scalar constant of the module -/
theorem sp_glob {x : Str} {v : V} {u : Value} (hg : Gl X x) (hm : X.mg x = some u) (r : RelV v u) (hv : scl v = true) (hd : (x == ("__debug__" : Str)) = false := by decide) : SP X (.Name x pos) (mC v) := sp_c (pe_glob hg hm r hd) hv

/-! ### operators that give scalars -/
/-- a two-place operation on values: f tells its outcome by the data -/
def Op2 (K : PySem.W.Frag) (r : R2) (f : D → D → Option V) : Prop := ∀ (t u : T) (v : V) (H : Hp) (Q : VK), t.sat K H → u.sat K H → f t.er u.er = some v → Q v H → r t.val u.val H Q
def Op1 (K : PySem.W.Frag) (r : V → Hp → VK → Prop) (f : D → Option V) : Prop := ∀ (t : T) (v : V) (H : Hp) (Q : VK), t.sat K H → f t.er = some v → Q v H → r t.val H Q
@[simp] def sv (v : V) : Option D := if scl v = true then some (.s v) else none
@[simp] def mOp2 (f : D → D → Option V) (ma mb : PM) : PM := fun env => (ma env).bind fun x => (mb env).bind fun y => (f x y).bind sv
@[simp] def mOp1 (f : D → Option V) (ma : PM) : PM := fun env => (ma env).bind fun x => (f x).bind sv
theorem bind_some {α β : Type} {o : Option α} {f : α → Option β} {z : β} (h : o.bind f = some z) : ∃ x, o = some x ∧ f x = some z := by
  cases o with
  | none => cases h
  | some x => exact ⟨x, rfl, h⟩
theorem sv_some {v : V} {d : D} (h : sv v = some d) : scl v = true ∧ d = .s v := by
  unfold sv at h
  split at h
  · cases h
    exact ⟨by assumption, rfl⟩
  · cases h
/-- both parts are read, then what follows -/
theorem rd2 {ta tb : TE} {r : R2} {f : D → D → Option V} {Q : VK} (ho : Op2 K r f) (h : trP K (mOp2 f ma mb) σ H Q) : tOp r (trB K ma) (trB K mb) σ H Q := by
  obtain ⟨env, d, hm, hr, hs, k⟩ := h
  obtain ⟨x, hx, hm⟩ := bind_some hm
  obtain ⟨y, hy, hm⟩ := bind_some hm
  obtain ⟨v, hv, hm⟩ := bind_some hm
  obtain ⟨s1, rfl⟩ := sv_some hm
  refine ⟨env, x, hx, hr, hs, fun t H1 e1 x1 s2 _ => ⟨env, y, hy, hr, hs.ex x1, fun u H2 e2 x2 s3 _ => ?_⟩⟩
  subst e1 e2
  exact ho t u v H2 Q (sat_ex x2 s2) s3 hv (k (.s v) H2 (by rw [T.er, hid_scl s1]) (x1.trans x2) trivial own_s)
theorem sp_op {op : Operator} {r : R2} {f : D → D → Option V} (ho : OpR X (binaryOp op) r) (hf : Op2 X.K r f) (ha : SB X a ma) (hb : SB X b mb) : SP X (.BinOp a op b pos) (mOp2 f ma mb) :=
  PE.weak (pe_op ho ha hb) fun σ H Q h => rd2 (ta := trB X.K ma) (tb := trB X.K mb) hf h
theorem sp_cmp {op : CmpOp} {r : R2} {f : D → D → Option V} (ho : OpR X (compareOp op) r) (hf : Op2 X.K r f) (ha : SB X a ma) (hb : SB X b mb) (hm : behindInMarks op b = false := by rfl) : SP X (.Compare a [op] [b] pos) (mOp2 f ma mb) :=
  PE.weak (pe_cmpR ho ha hb hm) fun σ H Q h => rd2 (ta := trB X.K ma) (tb := trB X.K mb) hf h
theorem sp_un {op : UnaryOp} {r : V → Hp → VK → Prop} {f : D → Option V} (ho : UnR X (unaryOp op) r) (hf : Op1 X.K r f) (ha : SB X a ma) (hn : True := trivial) (h : PE X (.UnaryOp op a pos) (tUn r (trB X.K ma))) : SP X (.UnaryOp op a pos) (mOp1 f ma) :=
  PE.weak h fun σ H Q ⟨env, d, hm, hr, hs, k⟩ => by
    obtain ⟨x, hx, hm⟩ := bind_some hm
    obtain ⟨v, hv, hm⟩ := bind_some hm
    obtain ⟨s1, rfl⟩ := sv_some hm
    refine ⟨env, x, hx, hr, hs, fun t H1 e1 x1 s2 _ => ?_⟩
    subst e1
    exact hf t v H1 Q s2 hv (k (.s v) H1 (by rw [T.er, hid_scl s1]) x1 trivial own_s)

/-! the operations -/
def fI (C : Int → Int → Bool) (g : Int → Int → V) : D → D → Option V
  | .s (.int i), .s (.int j) => if C i j = true then some (g i j) else none
  | _, _ => none
@[simp] def okI (_ _ : Int) : Bool := true
theorem er_int {t : T} {i : Int} (h : t.er = .s (.int i)) : t = .s (.int i) := by
  cases t with
  | n k a ts => rw [T.er] at h; cases h
  | w z k a ts => rw [T.er] at h; cases h
  | s v =>
    rw [T.er] at h
    unfold hid at h
    split at h
    · cases h; rfl
    · cases h
theorem er_scl {t : T} {v : V} (h : t.er = .s v) (hv : scl v = true) : t = .s v := by
  cases t with
  | n k a ts => rw [T.er] at h; cases h
  | w z k a ts => rw [T.er] at h; cases h
  | s u =>
    rw [T.er] at h
    unfold hid at h
    split at h
    · cases h; rfl
    · cases h; cases hv
theorem fI_some {C : Int → Int → Bool} {g : Int → Int → V} {x y : D} {v : V} (h : fI C g x y = some v) : ∃ i j, x = .s (.int i) ∧ y = .s (.int j) ∧ C i j = true ∧ v = g i j := by
  unfold fI at h
  split at h
  · split at h
    · cases h
      exact ⟨_, _, rfl, rfl, by assumption, rfl⟩
    · cases h
  · cases h
theorem op2_I0 {g : Int → Int → V} : Op2 K (rI0 g) (fI okI g) := fun t u v H Q _ _ h q => by
  obtain ⟨i, j, e1, e2, _, rfl⟩ := fI_some h
  rw [er_int e1, er_int e2]
  exact ⟨i, j, rfl, rfl, q⟩
theorem op2_I {C : Int → Int → Prop} {Cb : Int → Int → Bool} {g : Int → Int → V} (hC : ∀ i j, Cb i j = true → C i j) : Op2 K (rI C g) (fI Cb g) := fun t u v H Q _ _ h q => by
  obtain ⟨i, j, e1, e2, hc, rfl⟩ := fI_some h
  rw [er_int e1, er_int e2]
  exact ⟨i, j, rfl, rfl, hC i j hc, q⟩
/-- factors of together less than a hundred million bits -/
def CMulB (i j : Int) : Prop := i.natAbs.log2 + j.natAbs.log2 < 100000000
theorem bits_le (x : Int) : PySem.Builtin.Int.intBits x ≤ x.natAbs.log2 + 1 := by
  unfold PySem.Builtin.Int.intBits
  split
  · omega
  · omega
theorem CMulB.ok {i j : Int} (h : CMulB i j) : PySem.IntMulOk i j := fun z => by
  have l : PySem.bitsLine = 134217728 := by decide
  have z2 := (Bool.and_eq_true _ _ ▸ z).2
  unfold PySem.Builtin.Int.intTooBig at z2
  have z3 := of_decide_eq_true z2
  rw [l] at z3
  have := bits_le i
  have := bits_le j
  unfold CMulB at h
  omega
theorem op_mulB {X : Cx} : OpR X (binaryOp .Mult) (rI CMulB fun i j => .int (i * j)) := opI fun i j H Q A E s hc q => PyProof.Rows.mul_int q (CMulB.ok hc)
theorem wide_mulB {i j : Int} (h1 : i.natAbs.log2 < 2000000) (h2 : j.natAbs.log2 < 2000000) : CMulB i j := by
  unfold CMulB
  omega
instance {i j : Int} : Decidable (CMulB i j) := by unfold CMulB; infer_instance
def fAdd := fI okI fun i j => .int (i + j)
def fSub := fI okI fun i j => .int (i - j)
def fMul := fI (fun i j => decide (CMulB i j)) fun i j => .int (i * j)
def fDiv := fI (fun i j => decide (0 < j ∧ j.natAbs.log2 < 9000)) fun i j => .int (i / j)
def fMod := fI (fun _ j => decide (0 < j)) fun i j => .int (i % j)
def fPow := fI (fun i j => decide (0 ≤ j ∧ j ≤ 1000000 ∧ i.natAbs < 2 ^ 64)) fun i j => .int (i ^ j.toNat)
def fLt := fI okI fun i j => .bl (decide (i < j))
def fLe := fI okI fun i j => .bl (decide (i ≤ j))
def fGt := fI okI fun i j => .bl (decide (j < i))
def fGe := fI okI fun i j => .bl (decide (j ≤ i))
end
section
variable {X : Cx} {ma mb : PM} {e a b : Expr} {pos : Pos}
theorem sp_add (ha : SB X a ma) (hb : SB X b mb) : SP X (.BinOp a .Add b pos) (mOp2 fAdd ma mb) := sp_op op_add op2_I0 ha hb
theorem sp_sub (ha : SB X a ma) (hb : SB X b mb) : SP X (.BinOp a .Sub b pos) (mOp2 fSub ma mb) := sp_op op_sub op2_I0 ha hb
theorem sp_mul (ha : SB X a ma) (hb : SB X b mb) : SP X (.BinOp a .Mult b pos) (mOp2 fMul ma mb) := sp_op op_mulB (op2_I fun _ _ h => of_decide_eq_true h) ha hb
theorem sp_div (ha : SB X a ma) (hb : SB X b mb) : SP X (.BinOp a .FloorDiv b pos) (mOp2 fDiv ma mb) := sp_op op_fdivW (op2_I fun i j h => (of_decide_eq_true h : 0 < j ∧ j.natAbs.log2 < 9000)) ha hb
theorem sp_mod (ha : SB X a ma) (hb : SB X b mb) : SP X (.BinOp a .Mod b pos) (mOp2 fMod ma mb) := sp_op op_mod (op2_I fun _ _ h => of_decide_eq_true h) ha hb
theorem sp_pow (ha : SB X a ma) (hb : SB X b mb) : SP X (.BinOp a .Pow b pos) (mOp2 fPow ma mb) := sp_op op_pow (op2_I fun i j h => (of_decide_eq_true h : 0 ≤ j ∧ j ≤ 1000000 ∧ i.natAbs < 2 ^ 64)) ha hb
theorem sp_lt (ha : SB X a ma) (hb : SB X b mb) : SP X (.Compare a [.Lt] [b] pos) (mOp2 fLt ma mb) := sp_cmp op_lt op2_I0 ha hb (nomark _)
theorem sp_le (ha : SB X a ma) (hb : SB X b mb) : SP X (.Compare a [.LtE] [b] pos) (mOp2 fLe ma mb) := sp_cmp op_le op2_I0 ha hb (nomark _)
theorem sp_gt (ha : SB X a ma) (hb : SB X b mb) : SP X (.Compare a [.Gt] [b] pos) (mOp2 fGt ma mb) := sp_cmp op_gt op2_I0 ha hb (nomark _)
theorem sp_ge (ha : SB X a ma) (hb : SB X b mb) : SP X (.Compare a [.GtE] [b] pos) (mOp2 fGe ma mb) := sp_cmp op_ge op2_I0 ha hb (nomark _)
end
end Ow

namespace Ow
open PySem L2

/-! ### reading trees -/
section
variable {K : PySem.W.Frag} {H H1 H' : Hp} {t : T} {ds : List D} {o : Fl} {env : TEnv} {σ : L2.St}
theorem sql_up {a : Addr} {vs : List V} (h : SqL K (fun _ => none) a vs) : SqL K H a vs := by
  rcases h with (h | ⟨_, h⟩) | h
  · cases h
  · cases h
  · exact .inr h
theorem sqt_up {a : Addr} {vs : List V} (h : SqT K (fun _ => none) a vs) : SqT K H a vs := by
  rcases h with (h | ⟨_, h⟩) | h
  · cases h
  · cases h
  · exact .inr h
theorem rdL (hs : t.sat K H) (he : t.er = .n (.lst o) ds) : ∃ a ts, t.val = .ref a ∧ erL ts = ds ∧ SqL K H a (vals ts) ∧ satL K H ts ∧ (∀ b, coL b ts ≤ t.co b) ∧ (∀ b, cuL b ts ≤ t.cu b) := by
  cases t with
  | s v => rw [T.er] at he; cases he
  | n k a ts =>
    rw [T.er] at he
    cases he
    exact ⟨a, ts, rfl, rfl, .inl (.inl hs.1.1), hs.2, fun b => by rw [T.co]; omega, fun b => by rw [T.cu]; omega⟩
  | w z k a ts =>
    rw [T.er] at he
    cases k with
    | lst o' =>
      cases he
      refine ⟨a, ts, rfl, rfl, ?_, hs.2, fun b => by rw [T.co]; omega, fun b => by rw [T.cu]; omega⟩
      cases z with
      | true => exact sql_up hs.1
      | false => exact .inl (.inr hs.1)
    | tup => cases he
    | dic _ _ => cases he
    | dct _ _ => cases he
theorem rdT (hs : t.sat K H) (he : t.er = .n .tup ds) : ∃ a ts, t.val = .ref a ∧ erL ts = ds ∧ SqT K H a (vals ts) ∧ satL K H ts ∧ (∀ b, coL b ts ≤ t.co b) ∧ (∀ b, cuL b ts ≤ t.cu b) := by
  cases t with
  | s v => rw [T.er] at he; cases he
  | n k a ts =>
    rw [T.er] at he
    cases he
    exact ⟨a, ts, rfl, rfl, .inl (.inl hs.1.1), hs.2, fun b => by rw [T.co]; omega, fun b => by rw [T.cu]; omega⟩
  | w z k a ts =>
    rw [T.er] at he
    cases k with
    | tup =>
      cases he
      refine ⟨a, ts, rfl, rfl, ?_, hs.2, fun b => by rw [T.co]; omega, fun b => by rw [T.cu]; omega⟩
      cases z with
      | true => exact sqt_up hs.1
      | false => exact .inl (.inr hs.1)
    | lst _ => cases he
    | dic _ _ => cases he
    | dct _ _ => cases he
/-- a tracked node -/
theorem rdN {k : Kd} (hs : t.sat K H) (he : t.er = .n k ds) (hk : k.isw = false) (hT : k ≠ .tup) : ∃ a ts, t = .n k a ts ∧ erL ts = ds ∧ H a = some (k.ho (vals ts)) ∧ satL K H ts := by
  cases t with
  | s v => rw [T.er] at he; cases he
  | n k' a ts =>
    rw [T.er] at he
    cases he
    exact ⟨a, ts, rfl, rfl, hs.1.1, hs.2⟩
  | w z k' a ts =>
    rw [T.er] at he
    cases he
    cases k' <;> first | exact absurd rfl hT | (exact absurd hk (by simp [Kd.wri, Kd.isw]))

/-! ### data that is compared -/
mutual
def D.dat : D → Option PyData
  | .s .non => some .none
  | .s (.bl b) => some (.bool b)
  | .s (.int i) => some (.int i)
  | .s (.str x) => some (.str x)
  | .s _ => none
  | .n (.lst _) ds => (datL ds).map .list
  | .n .tup ds => (datL ds).map .tuple
  | .n _ _ => none
def datL : List D → Option (List PyData)
  | [] => some []
  | d :: ds => d.dat.bind fun p => (datL ds).map (p :: ·)
end
theorem map_some {α β : Type} {o : Option α} {f : α → β} {z : β} (h : o.map f = some z) : ∃ x, o = some x ∧ f x = z := by
  cases o with
  | none => cases h
  | some x => exact ⟨x, rfl, Option.some.inj h⟩
mutual
theorem dp_of : ∀ (t : T) (p : PyData), t.sat K H → t.er.dat = some p → Dp K H t.val p
  | .s v, p, hs, h => by
    rw [T.er] at h
    unfold hid at h
    cases v with
    | non => cases h; exact .non
    | bl b => cases h; exact .bl b
    | int i => cases h; exact .int i
    | str x => cases h; exact .str x
    | byt _ => cases h
    | flt _ => cases h
    | ref _ => cases h
    | ty _ => cases h
  | .n k a ts, p, hs, h => by
    rw [T.er] at h
    cases k with
    | lst o =>
      rw [D.dat] at h
      obtain ⟨ps, h1, rfl⟩ := map_some h
      exact .lst (.inl (.inl hs.1.1)) (dp_ofL ts ps hs.2 h1)
    | tup =>
      rw [D.dat] at h
      obtain ⟨ps, h1, rfl⟩ := map_some h
      exact .tup (.inl (.inl hs.1.1)) (dp_ofL ts ps hs.2 h1)
    | dic o ks => simp [D.dat] at h
    | dct o ks => simp [D.dat] at h
  | .w z k a ts, p, hs, h => by
    rw [T.er] at h
    cases k with
    | lst o =>
      rw [Kd.wri, D.dat] at h
      obtain ⟨ps, h1, rfl⟩ := map_some h
      refine .lst ?_ (dp_ofL ts ps hs.2 h1)
      cases z with
      | true => exact sql_up hs.1
      | false => exact .inl (.inr hs.1)
    | tup =>
      rw [Kd.wri, D.dat] at h
      obtain ⟨ps, h1, rfl⟩ := map_some h
      refine .tup ?_ (dp_ofL ts ps hs.2 h1)
      cases z with
      | true => exact sqt_up hs.1
      | false => exact .inl (.inr hs.1)
    | dic o ks => simp [Kd.wri, D.dat] at h
    | dct o ks => simp [Kd.wri, D.dat] at h
theorem dp_ofL : ∀ (ts : List T) (ps : List PyData), satL K H ts → datL (erL ts) = some ps → DpAll K H (vals ts) ps
  | [], ps, _, h => by
    rw [erL, datL] at h
    cases h
    exact .nil
  | t :: ts, ps, hs, h => by
    rw [erL, datL] at h
    obtain ⟨p, h1, h⟩ := bind_some h
    obtain ⟨qs, h2, rfl⟩ := map_some h
    exact .cons (dp_of t p hs.1 h1) (dp_ofL ts qs hs.2 h2)
end
def fEqB (x y : D) : Option Bool := x.dat.bind fun p => y.dat.bind fun q => if (SeqAt.shaped p && SeqAt.shaped q) = true then some (PyData.eqv p q) else none
def fEq (x y : D) : Option V := (fEqB x y).map .bl
def fNe (x y : D) : Option V := (fEqB x y).map fun b => .bl (!b)
def fIn (x y : D) : Option V := x.dat.bind fun p => match y with
  | .n (.lst _) ds => (datL ds).bind fun qs => if (SeqAt.shaped p && SeqAt.shaped (.list qs)) = true then some (.bl (qs.any fun z => PyData.eqv z p)) else none
  | _ => none
def fNotIn (x y : D) : Option V := (fIn x y).bind fun v => match v with
  | .bl b => some (.bl (!b))
  | _ => none
theorem fEqB_some {x y : D} {b : Bool} (h : fEqB x y = some b) : ∃ p q, x.dat = some p ∧ y.dat = some q ∧ SeqAt.shaped p = true ∧ SeqAt.shaped q = true ∧ b = PyData.eqv p q := by
  obtain ⟨p, h1, h⟩ := bind_some h
  obtain ⟨q, h2, h⟩ := bind_some h
  split at h
  · rename_i hh
    rw [Bool.and_eq_true] at hh
    cases h
    exact ⟨p, q, h1, h2, hh.1, hh.2, rfl⟩
  · cases h
theorem op2_eq : Op2 K (rEqD K) fEq := fun t u v H Q h1 h2 h q => by
  obtain ⟨b, h', rfl⟩ := map_some h
  obtain ⟨x, y, e1, e2, s1, s2, rfl⟩ := fEqB_some h'
  exact ⟨x, y, dp_of t x h1 e1, dp_of u y h2 e2, s1, s2, q⟩
theorem op2_ne : Op2 K (rNeD K) fNe := fun t u v H Q h1 h2 h q => by
  obtain ⟨b, h', rfl⟩ := map_some h
  obtain ⟨x, y, e1, e2, s1, s2, rfl⟩ := fEqB_some h'
  exact ⟨x, y, dp_of t x h1 e1, dp_of u y h2 e2, s1, s2, q⟩
theorem fIn_some {x y : D} {v : V} (h : fIn x y = some v) : ∃ p qs o ds, x.dat = some p ∧ y = .n (.lst o) ds ∧ datL ds = some qs ∧ SeqAt.shaped p = true ∧ SeqAt.shaped (.list qs) = true ∧ v = .bl (qs.any fun z => PyData.eqv z p) := by
  obtain ⟨p, h1, h⟩ := bind_some h
  cases y with
  | s _ => cases h
  | n k ds =>
    cases k with
    | lst o =>
      obtain ⟨qs, h2, h⟩ := bind_some h
      split at h
      · rename_i hh
        rw [Bool.and_eq_true] at hh
        cases h
        exact ⟨p, qs, o, ds, h1, rfl, h2, hh.1, hh.2, rfl⟩
      · cases h
    | tup => cases h
    | dic _ _ => cases h
    | dct _ _ => cases h
theorem op2_in : Op2 K (rInD K) fIn := fun t u v H Q h1 h2 h q => by
  obtain ⟨p, qs, o, ds, e1, e2, e3, s1, s2, rfl⟩ := fIn_some h
  exact ⟨p, qs, dp_of t p h1 e1, dp_of u (.list qs) h2 (by rw [e2, D.dat, e3]; rfl), s1, s2, q⟩
theorem op2_notIn : Op2 K (rNotInD K) fNotIn := fun t u v H Q h1 h2 h q => by
  obtain ⟨v', h, h'⟩ := bind_some h
  obtain ⟨p, qs, o, ds, e1, e2, e3, s1, s2, rfl⟩ := fIn_some h
  cases h'
  exact ⟨p, qs, dp_of t p h1 e1, dp_of u (.list qs) h2 (by rw [e2, D.dat, e3]; rfl), s1, s2, q⟩
def isNon : D → Bool
  | .s .non => true
  | _ => false
@[simp] theorem isNon_c0  : isNon (.s .non) = true := rfl
@[simp] theorem isNon_c1 {i : Int} : isNon (.s (.int i)) = false := rfl
@[simp] theorem isNon_c2 {b : Bool} : isNon (.s (.bl b)) = false := rfl
@[simp] theorem isNon_c3 {z : PySem.Str} : isNon (.s (.str z)) = false := rfl
@[simp] theorem isNon_c4 {k : Kd} {ds : List D} : isNon (.n k ds) = false := rfl
theorem er_non {t : T} : isNon t.er = decide (t.val = .non) := by
  cases t with
  | n k a ts => rw [T.er, T.val]; rfl
  | w z k a ts => rw [T.er, T.val]; rfl
  | s v =>
    rw [T.er, T.val]
    cases v <;> rfl
def fIsN (x y : D) : Option V := match y with
  | .s .non => some (.bl (isNon x))
  | _ => none
@[simp] theorem fIsN_c0 {x : D} : fIsN x (.s .non) = some (.bl (isNon x)) := rfl
def fNotN (x y : D) : Option V := match y with
  | .s .non => some (.bl (!isNon x))
  | _ => none
@[simp] theorem fNotN_c0 {x : D} : fNotN x (.s .non) = some (.bl (!isNon x)) := rfl
theorem op2_isN : Op2 K (fun x y H Q => y = .non ∧ Q (.bl (decide (x = .non))) H) fIsN := fun t u v H Q h1 h2 h q => by
  unfold fIsN at h
  split at h
  · rename_i e
    cases h
    rw [er_scl e rfl]
    rw [er_non] at q
    exact ⟨rfl, q⟩
  · cases h
theorem op2_notN : Op2 K (fun x y H Q => y = .non ∧ Q (.bl (!decide (x = .non))) H) fNotN := fun t u v H Q h1 h2 h q => by
  unfold fNotN at h
  split at h
  · rename_i e
    cases h
    rw [er_scl e rfl]
    rw [er_non] at q
    exact ⟨rfl, q⟩
  · cases h
end
theorem hu64 {A : Around} {k : Nat} (hr : Room k A) : A.units + 64 < cLine := by have := hr.un; omega
theorem hu65 {A : Around} {k : Nat} (hr : Room k A) : A.units + 65 < cLine := by have := hr.un; omega
section
variable {X : Cx} {m ma mb : PM} {e a b : Expr} {pos : Pos} {k : Nat} {rest : List Expr}
theorem sp_eq (hr : Room k X.A) (ha : SB X a ma) (hb : SB X b mb) : SP X (.Compare a [.Eq] [b] pos) (mOp2 fEq ma mb) := sp_cmp (op_eqD (hu64 hr)) op2_eq ha hb (nomark _)
theorem sp_ne (hr : Room k X.A) (ha : SB X a ma) (hb : SB X b mb) : SP X (.Compare a [.NotEq] [b] pos) (mOp2 fNe ma mb) := sp_cmp (op_neD (hu64 hr)) op2_ne ha hb (nomark _)
theorem sp_in (hr : Room k X.A) (ha : SB X a ma) (hb : SB X b mb) (hm : behindInMarks .In b = false := by with_unfolding_all rfl) : SP X (.Compare a [.In] [b] pos) (mOp2 fIn ma mb) := sp_cmp (op_inD (hu65 hr)) op2_in ha hb hm
theorem sp_notIn (hr : Room k X.A) (ha : SB X a ma) (hb : SB X b mb) (hm : behindInMarks .NotIn b = false := by with_unfolding_all rfl) : SP X (.Compare a [.NotIn] [b] pos) (mOp2 fNotIn ma mb) := sp_cmp (op_notInD (hu65 hr)) op2_notIn ha hb hm
theorem sp_isN (ha : SB X a ma) (hb : SB X b mb) : SP X (.Compare a [.Is] [b] pos) (mOp2 fIsN ma mb) := sp_cmp op_isN op2_isN ha hb (nomark _)
theorem sp_notN (ha : SB X a ma) (hb : SB X b mb) : SP X (.Compare a [.IsNot] [b] pos) (mOp2 fNotN ma mb) := sp_cmp op_notN op2_notN ha hb (nomark _)

/-! ### tests -/
def toB : D → Option Bool
  | .s (.bl b) => some b
  | _ => none
@[simp] theorem toB_c0 {b : Bool} : toB (.s (.bl b)) = some b := rfl
@[simp] def mB (m : PM) : BM := fun env => (m env).bind toB
@[simp] def mNotT (m : BM) : BM := fun env => (m env).map (!·)
@[simp] def mAnd (m n : BM) : BM := fun env => (m env).bind fun b => if b = true then n env else some false
@[simp] def mOr (m n : BM) : BM := fun env => (m env).bind fun b => if b = true then some true else n env
theorem toB_some {d : D} {b : Bool} (h : toB d = some b) : d = .s (.bl b) := by
  unfold toB at h
  split at h
  · cases h; rfl
  · cases h
theorem st_val (h : SB X e m) (he : ∀ whole, isTrue e X.env whole = (do let v ← whole; standAt e.pos; holding [v] (truthy v)) := by intro _; rfl) : ST X e (mB m) := PT.weak (pt_val h he) fun σ H Q ⟨env, b, hm, r, s, k⟩ => by
  obtain ⟨d, hd, hb⟩ := bind_some hm
  refine ⟨env, d, hd, r, s, fun t H' e1 x1 s1 _ => ?_⟩
  subst e1
  rw [er_scl (toB_some hb) rfl]
  exact ⟨b, rfl, k H' x1⟩
theorem st_not {mt : BM} (h : ST X a mt) : ST X (.UnaryOp .Not a pos) (mNotT mt) := PT.weak (pt_not h) fun σ H Q ⟨env, b, hm, r, s, k⟩ => by
  obtain ⟨c, hc, rfl⟩ := map_some hm
  exact ⟨env, c, hc, r, s, fun H' x1 => k H' x1⟩
theorem sw_and1 {mt : BM} (h : ST X a mt) : SW X (.BoolOp .And [a] pos) mt := pw_and1 h
theorem sw_or1 {mt : BM} (h : ST X a mt) : SW X (.BoolOp .Or [a] pos) mt := pw_or1 h
theorem sw_and {mt mu : BM} (h : ST X a mt) (h2 : SW X (.BoolOp .And (b :: rest) pos) mu) : SW X (.BoolOp .And (a :: b :: rest) pos) (mAnd mt mu) := PW.weak (pw_and h h2) fun σ H Q ⟨env, c, hm, r, s, k⟩ => by
  obtain ⟨x, hx, hm⟩ := bind_some hm
  refine ⟨env, x, hx, r, s, fun H' x1 => ?_⟩
  cases x with
  | true =>
    rw [if_pos rfl] at hm ⊢
    exact ⟨env, c, hm, r, s.ex x1, fun H2 x2 => k H2 (x1.trans x2)⟩
  | false =>
    rw [if_neg Bool.false_ne_true] at hm ⊢
    cases hm
    exact k H' x1
theorem sw_or {mt mu : BM} (h : ST X a mt) (h2 : SW X (.BoolOp .Or (b :: rest) pos) mu) : SW X (.BoolOp .Or (a :: b :: rest) pos) (mOr mt mu) := PW.weak (pw_or h h2) fun σ H Q ⟨env, c, hm, r, s, k⟩ => by
  obtain ⟨x, hx, hm⟩ := bind_some hm
  refine ⟨env, x, hx, r, s, fun H' x1 => ?_⟩
  cases x with
  | false =>
    rw [if_neg Bool.false_ne_true] at hm ⊢
    exact ⟨env, c, hm, r, s.ex x1, fun H2 x2 => k H2 (x1.trans x2)⟩
  | true =>
    rw [if_pos rfl] at hm ⊢
    cases hm
    exact k H' x1
theorem st_w {mt : BM} (h : SW X e mt) : ST X e mt := h.pt
/-- truth of a list, a tuple, an int -/
def tru : D → Option Bool
  | .s .non => some false
  | .s (.bl b) => some b
  | .s (.int i) => some (i != 0)
  | .n (.lst _) ds => some (!ds.isEmpty)
  | .n .tup ds => some (!ds.isEmpty)
  | _ => none
@[simp] theorem tru_c0  : tru (.s .non) = some false := rfl
@[simp] theorem tru_c1 {b : Bool} : tru (.s (.bl b)) = some b := rfl
@[simp] theorem tru_c2 {i : Int} : tru (.s (.int i)) = some (i != 0) := rfl
@[simp] theorem tru_c3 {ds : List D} {o : Fl} : tru (.n (.lst o) ds) = some (!ds.isEmpty) := rfl
@[simp] theorem tru_c4 {ds : List D} : tru (.n .tup ds) = some (!ds.isEmpty) := rfl
@[simp] def mTru (m : PM) : BM := fun env => (m env).bind tru
theorem isEmpty_er {ts : List T} : (vals ts).isEmpty = (erL ts).isEmpty := by
  cases ts <;> rfl
theorem st_tru (h : SB X e m) (he : ∀ whole, isTrue e X.env whole = (do let v ← whole; standAt e.pos; holding [v] (truthy v)) := by intro _; rfl) : ST X e (mTru m) := PT.weak (pt_truth h he) fun σ H Q ⟨env, b, hm, r, s, k⟩ => by
  obtain ⟨d, hd, hb⟩ := bind_some hm
  refine ⟨env, d, hd, r, s, fun t H' e1 x1 s1 _ => ?_⟩
  subst e1
  refine ⟨b, ?_, k H' x1⟩
  unfold tru at hb
  split at hb
  · rename_i e; rw [er_scl e rfl]; cases hb; rfl
  · rename_i e; rw [er_scl e rfl]; cases hb; rfl
  · rename_i e; rw [er_scl e rfl]; cases hb; rfl
  · rename_i e
    obtain ⟨a, ts, e1, e2, e3, _⟩ := rdL s1 e
    cases hb
    rw [e1]
    exact .inl ⟨_, e3, by rw [isEmpty_er, e2]⟩
  · rename_i e
    obtain ⟨a, ts, e1, e2, e3, _⟩ := rdT s1 e
    cases hb
    rw [e1]
    exact .inr (.inl ⟨_, e3, by rw [isEmpty_er, e2]⟩)
  · cases hb
/-! and, or, not as values; a if c else b -/
@[simp] def mAndV (m n : PM) : PM := fun env => ((m env).bind toB).bind fun b => if b = true then ((n env).bind toB).map fun c => .s (.bl c) else some (.s (.bl false))
@[simp] def mOrV (m n : PM) : PM := fun env => ((m env).bind toB).bind fun b => if b = true then some (.s (.bl true)) else ((n env).bind toB).map fun c => .s (.bl c)
@[simp] def mNotV (m : PM) : PM := fun env => ((m env).bind toB).map fun c => .s (.bl (!c))
@[simp] def mIf (c : BM) (m n : PM) : PM := fun env => (c env).bind fun b => if b = true then m env else n env
theorem sp_one {op : BoolOp} (h : SP X a m) : SP X (.BoolOp op [a] pos) m := pe_one h
theorem sp_and (ha : SP X a ma) (hb : SP X (.BoolOp .And (b :: rest) pos) mb) : SP X (.BoolOp .And (a :: b :: rest) pos) (mAndV ma mb) := PE.weak (pe_and ha hb) fun σ H Q ⟨env, d, hm, r, s, k⟩ => by
  obtain ⟨x, hx, hm⟩ := bind_some hm
  obtain ⟨dx, hdx, hx⟩ := bind_some hx
  refine ⟨env, dx, hdx, r, s, fun t H' e1 x1 s1 _ => ?_⟩
  subst e1
  rw [er_scl (toB_some hx) rfl]
  refine ⟨x, rfl, ?_⟩
  cases x with
  | true =>
    rw [if_pos rfl] at hm ⊢
    obtain ⟨c, hc, rfl⟩ := map_some hm
    obtain ⟨dy, hdy, hy⟩ := bind_some hc
    refine ⟨env, dy, hdy, r, s.ex x1, fun t2 H2 e2 x2 s2 o => ?_⟩
    subst e2
    have e3 := er_scl (toB_some hy) rfl
    exact k t2 H2 (toB_some hy) (x1.trans x2) s2 (o.back x1)
  | false =>
    rw [if_neg Bool.false_ne_true] at hm ⊢
    cases hm
    exact k (.s (.bl false)) H' rfl x1 trivial own_s
theorem sp_or (ha : SP X a ma) (hb : SP X (.BoolOp .Or (b :: rest) pos) mb) : SP X (.BoolOp .Or (a :: b :: rest) pos) (mOrV ma mb) := PE.weak (pe_or ha hb) fun σ H Q ⟨env, d, hm, r, s, k⟩ => by
  obtain ⟨x, hx, hm⟩ := bind_some hm
  obtain ⟨dx, hdx, hx⟩ := bind_some hx
  refine ⟨env, dx, hdx, r, s, fun t H' e1 x1 s1 _ => ?_⟩
  subst e1
  rw [er_scl (toB_some hx) rfl]
  refine ⟨x, rfl, ?_⟩
  cases x with
  | false =>
    rw [if_neg Bool.false_ne_true] at hm ⊢
    obtain ⟨c, hc, rfl⟩ := map_some hm
    obtain ⟨dy, hdy, hy⟩ := bind_some hc
    refine ⟨env, dy, hdy, r, s.ex x1, fun t2 H2 e2 x2 s2 o => ?_⟩
    subst e2
    exact k t2 H2 (toB_some hy) (x1.trans x2) s2 (o.back x1)
  | true =>
    rw [if_pos rfl] at hm ⊢
    cases hm
    exact k (.s (.bl true)) H' rfl x1 trivial own_s
theorem sp_not (ha : SP X a ma) : SP X (.UnaryOp .Not a pos) (mNotV ma) := PE.weak (pe_not ha) fun σ H Q ⟨env, d, hm, r, s, k⟩ => by
  obtain ⟨x, hx, rfl⟩ := map_some hm
  obtain ⟨dx, hdx, hx⟩ := bind_some hx
  refine ⟨env, dx, hdx, r, s, fun t H' e1 x1 s1 _ => ?_⟩
  subst e1
  rw [er_scl (toB_some hx) rfl]
  exact ⟨x, rfl, k (.s (.bl (!x))) H' rfl x1 trivial own_s⟩
theorem sp_if {c : Expr} {mc : BM} (hc : ST X c mc) (ha : SP X a ma) (hb : SP X b mb) : SP X (.IfExp c a b pos) (mIf mc ma mb) := PE.weak (pe_ifExp hc ha hb) fun σ H Q ⟨env, d, hm, r, s, k⟩ => by
  obtain ⟨x, hx, hm⟩ := bind_some hm
  refine ⟨env, x, hx, r, s, fun H' x1 => ?_⟩
  cases x with
  | true =>
    rw [if_pos rfl] at hm ⊢
    exact ⟨env, d, hm, r, s.ex x1, fun t H2 e2 x2 s2 o => k t H2 e2 (x1.trans x2) s2 (o.back x1)⟩
  | false =>
    rw [if_neg Bool.false_ne_true] at hm ⊢
    exact ⟨env, d, hm, r, s.ex x1, fun t H2 e2 x2 s2 o => k t H2 e2 (x1.trans x2) s2 (o.back x1)⟩
end
end Ow

namespace Ow
open PySem L2

/-! ### argument lists -/
def OwnL (H : Hp) (env : TEnv) (ts : List T) : Prop := ∀ a, (coL a ts ≤ 1 ∧ (coL a ts = 0 ∨ cuL a ts = 0)) ∧ (0 < coL a ts → H a = none) ∧ (0 < cuL a ts → 0 < cuE a env ∨ H a = none)
def BorL (H : Hp) (env : TEnv) (ts : List T) : Prop := ∀ a, (0 < coL a ts → 0 < coE a env ∨ H a = none) ∧ (0 < cuL a ts → 0 < cuE a env ∨ H a = none)
abbrev LM := Env → Option (List D)
def trBA (K : PySem.W.Frag) (m : LM) : TA := fun σ H Q => ∃ env ds, m (erE env) = some ds ∧ Rel σ env ∧ SatE K H env ∧ ∀ ts H', erL ts = ds → Ex H H' → satL K H' ts → BorL H env ts → Q (vals ts) H'
def trPA (K : PySem.W.Frag) (m : LM) : TA := fun σ H Q => ∃ env ds, m (erE env) = some ds ∧ Rel σ env ∧ SatE K H env ∧ ∀ ts H', erL ts = ds → Ex H H' → satL K H' ts → OwnL H env ts → Q (vals ts) H'
def SBA (X : Cx) (es : List Expr) (m : LM) : Prop := PA X es (trBA X.K m)
def SPA (X : Cx) (es : List Expr) (m : LM) : Prop := PA X es (trPA X.K m)
theorem PA.weak {X : Cx} {es : List Expr} {t u : TA} (h : PA X es t) (w : ∀ σ H Q, u σ H Q → t σ H Q) : PA X es u := ⟨fun p pins s σ H Q I z => h.run p pins s σ H Q I (w σ H Q z)⟩
@[simp] def lNil : LM := fun _ => some []
@[simp] def lCons (m : PM) (n : LM) : LM := fun env => (m env).bind fun d => (n env).map (d :: ·)
section
variable {K : PySem.W.Frag} {H H1 H' : Hp} {env : TEnv} {ts us : List T} {p : Addr}
theorem OwnL.back (e : Ex H H1) (h : OwnL H1 env ts) : OwnL H env ts := fun a =>
  ⟨(h a).1, fun z => Evl.fresh_back e ((h a).2.1 z), fun z => ((h a).2.2 z).imp id (Evl.fresh_back e)⟩
theorem BorL.back (e : Ex H H1) (h : BorL H1 env ts) : BorL H env ts := fun a =>
  ⟨fun z => ((h a).1 z).imp id (Evl.fresh_back e), fun z => ((h a).2 z).imp id (Evl.fresh_back e)⟩
theorem OwnL.bor (h : OwnL H env ts) : BorL H env ts := fun a => ⟨fun z => .inr ((h a).2.1 z), (h a).2.2⟩
theorem BorL.own (h : BorL H env ts) (hp : pureL (erL ts) = true) : OwnL H env ts := fun a => by
  rw [pureL_co ts hp]
  exact ⟨⟨Nat.zero_le _, .inl rfl⟩, fun z => absurd z (Nat.lt_irrefl _), (h a).2⟩
theorem Bor.own {t : T} (h : Bor H env t) (hp : t.er.pure = true) : Own H env t := fun a => by
  rw [pure_co t hp]
  exact ⟨⟨Nat.zero_le _, .inl rfl⟩, fun z => absurd z (Nat.lt_irrefl _), (h a).2⟩
theorem Bor.sub {t : T} (h : Bor H env t) (h1 : ∀ b, coL b ts ≤ t.co b) (h2 : ∀ b, cuL b ts ≤ t.cu b) : BorL H env ts := fun a =>
  ⟨fun z => (h a).1 (Nat.lt_of_lt_of_le z (h1 a)), fun z => (h a).2 (Nat.lt_of_lt_of_le z (h2 a))⟩
theorem BorL.mem {t : T} (h : BorL H env ts) (ht : t ∈ ts) : Bor H env t := fun a =>
  ⟨fun z => (h a).1 (Nat.lt_of_lt_of_le z (coL_mem ht)), fun z => (h a).2 (Nat.lt_of_lt_of_le z (cuL_mem ht))⟩
theorem BorL.subset : ∀ {us : List T}, BorL H env ts → (∀ u ∈ us, u ∈ ts) → BorL H env us
  | [], _, _ => fun a => ⟨fun z => absurd z (by rw [coL]; omega), fun z => absurd z (by rw [cuL]; omega)⟩
  | u :: us, h, hs => fun a => by
    have h1 := (h.mem (hs u (List.mem_cons_self ..))) a
    have h2 := (BorL.subset (us := us) h fun v hv => hs v (List.mem_cons_of_mem _ hv)) a
    rw [coL, cuL]
    refine ⟨fun z => ?_, fun z => ?_⟩
    · by_cases q : 0 < u.co a
      · exact h1.1 q
      · exact h2.1 (by omega)
    · by_cases q : 0 < u.cu a
      · exact h1.2 q
      · exact h2.2 (by omega)
theorem ownL_nil : OwnL H env [] := fun a => by
  rw [coL, cuL]
  exact ⟨⟨Nat.zero_le _, .inl rfl⟩, fun z => absurd z (Nat.lt_irrefl _), fun z => absurd z (Nat.lt_irrefl _)⟩
theorem OwnL.cons {t : T} (x1 : Ex H H1) (hs : SatE K H env) (s1 : t.sat K H1) (o1 : Own H env t) (o2 : OwnL H1 env ts) : OwnL H env (t :: ts) := fun a => by
  have h1 := o1 a
  have h2 := o2 a
  have c1 : 0 < t.co a → H1 a ≠ none := fun z => co_some t s1 z
  have c2 : 0 < t.cu a → H1 a ≠ none := fun z => cu_some t s1 z
  have c3 : 0 < cuE a env → H a ≠ none := fun z => cuE_some hs z
  have c4 : H1 a = none → H a = none := Evl.fresh_back x1
  rw [coL, cuL]
  by_cases q1 : H a = none
  · have n3 : cuE a env = 0 := by
      rcases Nat.eq_zero_or_pos (cuE a env) with z | z
      · exact z
      · exact absurd q1 (c3 z)
    by_cases q2 : H1 a = none
    · have n1 : t.co a = 0 := by
        rcases Nat.eq_zero_or_pos (t.co a) with z | z
        · exact z
        · exact absurd q2 (c1 z)
      have n2 : t.cu a = 0 := by
        rcases Nat.eq_zero_or_pos (t.cu a) with z | z
        · exact z
        · exact absurd q2 (c2 z)
      rw [n1, n2, Nat.zero_add, Nat.zero_add]
      exact ⟨h2.1, fun _ => q1, fun _ => .inr q1⟩
    · have n1 : coL a ts = 0 := by
        rcases Nat.eq_zero_or_pos (coL a ts) with z | z
        · exact z
        · exact absurd (h2.2.1 z) q2
      have n2 : cuL a ts = 0 := by
        rcases Nat.eq_zero_or_pos (cuL a ts) with z | z
        · exact z
        · rcases h2.2.2 z with z | z
          · omega
          · exact absurd z q2
      rw [n1, n2, Nat.add_zero, Nat.add_zero]
      exact ⟨h1.1, fun _ => q1, fun _ => .inr q1⟩
  · have n1 : t.co a = 0 := by
      rcases Nat.eq_zero_or_pos (t.co a) with z | z
      · exact z
      · exact absurd (h1.2.1 z) q1
    have n2 : coL a ts = 0 := by
      rcases Nat.eq_zero_or_pos (coL a ts) with z | z
      · exact z
      · exact absurd (c4 (h2.2.1 z)) q1
    rw [n1, n2]
    refine ⟨⟨by omega, .inl rfl⟩, fun z => absurd z (by omega), fun z => ?_⟩
    by_cases q : 0 < t.cu a
    · exact h1.2.2 q
    · rcases h2.2.2 (by omega) with z | z
      · exact .inl z
      · exact .inr (c4 z)
/-- a new node over what is at hand -/
theorem new_node {k : Kd} (hk : k.isw = false) (x1 : Ex H H1) (hs : SatE K H env) (s1 : satL K H1 us) (o : OwnL H env us) (hp : H1 p = none) :
    Ex H1 (upd H1 p (k.ho (vals us))) ∧ (T.n k p us).sat K (upd H1 p (k.ho (vals us))) ∧ Own H env (.n k p us) := by
  have e := Evl.Ex.new (o := k.ho (vals us)) hp
  refine ⟨e, ⟨⟨upd_same, hk⟩, satL_ex e s1⟩, fun a => ?_⟩
  have h := o a
  have c1 : 0 < coL a us → H1 a ≠ none := fun z => coL_some us s1 z
  have c2 : 0 < cuL a us → H1 a ≠ none := fun z => cuL_some us s1 z
  have c4 : H1 a = none → H a = none := Evl.fresh_back x1
  rw [T.co, T.cu]
  by_cases q : p = a
  · subst q
    have n1 : coL p us = 0 := by
      rcases Nat.eq_zero_or_pos (coL p us) with z | z
      · exact z
      · exact absurd hp (c1 z)
    have n2 : cuL p us = 0 := by
      rcases Nat.eq_zero_or_pos (cuL p us) with z | z
      · exact z
      · exact absurd hp (c2 z)
    rw [n1, n2]
    refine ⟨?_, fun _ => c4 hp, fun _ => .inr (c4 hp)⟩
    cases k.own <;> simp
  · rw [if_neg (fun z => q z.2), if_neg (fun z => q z.2), Nat.zero_add, Nat.zero_add]
    exact h
end
section
variable {X : Cx} {m ma mb : PM} {ml : LM} {e a b : Expr} {es : List Expr} {pos : Pos}
theorem sba_nil : SBA X [] lNil := PA.weak pa_nil fun σ H Q ⟨env, d, hm, r, s, k⟩ => by
  cases hm
  exact k [] H rfl (Evl.Ex.refl H) trivial ownL_nil.bor
theorem spa_nil : SPA X [] lNil := PA.weak pa_nil fun σ H Q ⟨env, d, hm, r, s, k⟩ => by
  cases hm
  exact k [] H rfl (Evl.Ex.refl H) trivial ownL_nil
theorem sba_cons (ha : SB X e m) (hr : SBA X es ml) (hs : starEach (e :: es) X.env = (false, eval e X.env) :: starEach es X.env := by rfl) : SBA X (e :: es) (lCons m ml) := PA.weak (pa_cons ha hr hs) fun σ H Q ⟨env, d, hm, r, s, k⟩ => by
  obtain ⟨x, hx, hm⟩ := bind_some hm
  obtain ⟨ys, hy, rfl⟩ := map_some hm
  refine ⟨env, x, hx, r, s, fun t H1 e1 x1 s1 b1 => ⟨env, ys, hy, r, s.ex x1, fun ts H2 e2 x2 s2 b2 => ?_⟩⟩
  refine k (t :: ts) H2 (by rw [erL, e1, e2]) (x1.trans x2) ⟨sat_ex x2 s1, s2⟩ fun a => ?_
  have h1 := b1 a
  have h2 := (b2.back x1) a
  rw [coL, cuL]
  refine ⟨fun z => ?_, fun z => ?_⟩
  · by_cases q : 0 < t.co a
    · exact h1.1 q
    · exact h2.1 (by omega)
  · by_cases q : 0 < t.cu a
    · exact h1.2 q
    · exact h2.2 (by omega)
theorem spa_cons (ha : SP X e m) (hr : SPA X es ml) (hs : starEach (e :: es) X.env = (false, eval e X.env) :: starEach es X.env := by rfl) : SPA X (e :: es) (lCons m ml) := PA.weak (pa_cons ha hr hs) fun σ H Q ⟨env, d, hm, r, s, k⟩ => by
  obtain ⟨x, hx, hm⟩ := bind_some hm
  obtain ⟨ys, hy, rfl⟩ := map_some hm
  refine ⟨env, x, hx, r, s, fun t H1 e1 x1 s1 b1 => ⟨env, ys, hy, r, s.ex x1, fun ts H2 e2 x2 s2 b2 => ?_⟩⟩
  exact k (t :: ts) H2 (by rw [erL, e1, e2]) (x1.trans x2) ⟨sat_ex x2 s1, s2⟩ (OwnL.cons x1 s s1 b1 b2)

/-! ### displays -/
@[simp] def mk (k : Kd) (m : LM) : PM := fun env => (m env).bind fun ds => if ds.length ≤ 16777216 then some (.n k ds) else none
theorem len_er {ts : List T} {ds : List D} (h : erL ts = ds) : ts.length = ds.length := by rw [← h, erL_length]
theorem sizeLine_le {n : Nat} (h : n ≤ 16777216) : n ≤ sizeLine := by rw [sizeLine_eq]; exact h
theorem mk_some {k : Kd} {m : LM} {env : Env} {d : D} (h : mk k m env = some d) : ∃ ds, m env = some ds ∧ ds.length ≤ 16777216 ∧ d = .n k ds := by
  obtain ⟨ds, h1, h⟩ := bind_some h
  split at h
  · cases h
    exact ⟨ds, h1, by assumption, rfl⟩
  · cases h
theorem sp_lst (h : SPA X es ml) : SP X (.List es pos) (mk (.lst .o) ml) := PE.weak (pe_lst h) fun σ H Q ⟨env, d, hm, r, s, k⟩ => by
  obtain ⟨ds, h1, h2, rfl⟩ := mk_some hm
  refine ⟨env, ds, h1, r, s, fun ts H1 e1 x1 s1 o1 => ⟨sizeLine_le (by rw [List.length_map, len_er e1]; exact h2), fun p hp => ?_⟩⟩
  obtain ⟨x2, s2, o2⟩ := new_node (k := .lst .o) rfl x1 s s1 o1 hp
  exact k (.n (.lst .o) p ts) _ (by rw [T.er, e1]) (x1.trans x2) s2 o2
theorem sp_tup {x1} (h : SPA X es ml) : SP X (.Tuple es x1 pos) (mk .tup ml) := PE.weak (pe_tup h) fun σ H Q ⟨env, d, hm, r, s, k⟩ => by
  obtain ⟨ds, h1, h2, rfl⟩ := mk_some hm
  refine ⟨env, ds, h1, r, s, fun ts H1 e1 x1 s1 o1 => ⟨sizeLine_le (by rw [List.length_map, len_er e1]; exact h2), fun p hp => ?_⟩⟩
  obtain ⟨x2, s2, o2⟩ := new_node (k := .tup) rfl x1 s s1 o1 hp
  exact k (.n .tup p ts) _ (by rw [T.er, e1]) (x1.trans x2) s2 o2

/-! ### calls of built-ins that give scalars, lists -/
def OpN (K : PySem.W.Frag) (r : List V → Hp → VK → Prop) (f : List D → Option V) : Prop := ∀ (ts : List T) (v : V) (H : Hp) (Q : VK), satL K H ts → f (erL ts) = some v → Q v H → r (vals ts) H Q
@[simp] def mCall (f : List D → Option V) (m : LM) : PM := fun env => (m env).bind fun ds => (f ds).bind sv
theorem rdN1 {ta : TA} {r : List V → Hp → VK → Prop} {f : List D → Option V} {K : PySem.W.Frag} {σ : L2.St} {H : Hp} {Q : VK} (ho : OpN K r f) (h : trP K (mCall f ml) σ H Q) : tCB r (trBA K ml) σ H Q := by
  obtain ⟨env, d, hm, hr, hs, k⟩ := h
  obtain ⟨xs, hx, hm⟩ := bind_some hm
  obtain ⟨v, hv, hm⟩ := bind_some hm
  obtain ⟨s1, rfl⟩ := sv_some hm
  refine ⟨env, xs, hx, hr, hs, fun ts H1 e1 x1 s2 _ => ?_⟩
  subst e1
  exact ho ts v H1 Q s2 hv (k (.s v) H1 (by rw [T.er, hid_scl s1]) x1 trivial own_s)
/-- a call that gives a new list: of the arguments' parts -/
def OpNL (K : PySem.W.Frag) (r : List V → Hp → VK → Prop) (f : List D → Option (List D)) : Prop := ∀ (ts : List T) (ds : List D) (H : Hp) (Q : VK), satL K H ts → f (erL ts) = some ds →
  (∀ us p, erL us = ds → satL K H us → (∀ a, 0 < coL a us → 0 < coL a ts) → (∀ a, 0 < cuL a us → 0 < cuL a ts) → H p = none → Q (.ref p) (upd H p (.lst (vals us)))) → r (vals ts) H Q
@[simp] def mCallL (f : List D → Option (List D)) (m : LM) : PM := fun env => (m env).bind fun ds => (f ds).bind fun rs => if pureL rs = true then some (.n (.lst .o) rs) else none
theorem rdNL {r : List V → Hp → VK → Prop} {f : List D → Option (List D)} {K : PySem.W.Frag} {σ : L2.St} {H : Hp} {Q : VK} (ho : OpNL K r f) (h : trP K (mCallL f ml) σ H Q) : tCB r (trBA K ml) σ H Q := by
  obtain ⟨env, d, hm, hr, hs, k⟩ := h
  obtain ⟨xs, hx, hm⟩ := bind_some hm
  obtain ⟨rs, hv, hm⟩ := bind_some hm
  split at hm
  · rename_i hp
    cases hm
    refine ⟨env, xs, hx, hr, hs, fun ts H1 e1 x1 s2 b1 => ?_⟩
    subst e1
    refine ho ts rs H1 Q s2 hv fun us p e2 s3 c1 c2 hn => ?_
    have b2 : BorL H env us := fun a => ⟨fun z => (b1 a).1 (c1 a z), fun z => (b1 a).2 (c2 a z)⟩
    obtain ⟨x2, s4, o2⟩ := new_node (k := .lst .o) rfl x1 hs s3 (b2.own (by rw [e2]; exact hp)) hn
    exact k (.n (.lst .o) p us) _ (by rw [T.er, e2]) (x1.trans x2) s4 o2
  · cases hm
theorem sp_callB {x : Str} {p : Pos} {id : String} {r : List V → Hp → VK → Prop} {f : List D → Option V} (hc : CallR X (.builtin id) r) (hf : OpN X.K r f) (hv : bootBuiltins x = some (.builtin id)) (hm : X.mg x = none) (ha : SBA X (e :: es) ml) (hg : Gl X x := by rfl)
    (hn : x ≠ "__name__" := by decide) (hdb : (x == ("__debug__" : Str)) = false := by decide) (he : starEach (e :: es) X.env = (false, eval e X.env) :: starEach es X.env := by rfl) (hpl : (backTo pos (starEach es X.env)).any (·.1) = false := by rfl) :
    SP X (.Call (.Name x p) (e :: es) [] pos) (mCall f ml) := PE.weak (pe_callB hc hg hm hv ha hn hdb he hpl) fun σ H Q h => rdN1 (ta := trBA X.K ml) hf h
theorem sp_callTy {x : Str} {p : Pos} {id : String} {r : List V → Hp → VK → Prop} {f : List D → Option V} (hc : CallR X (.type id) r) (hf : OpN X.K r f) (hv : bootBuiltins x = some (.type id)) (hm : X.mg x = none) (ha : SBA X (e :: es) ml) (hg : Gl X x := by rfl)
    (hn : x ≠ "__name__" := by decide) (hdb : (x == ("__debug__" : Str)) = false := by decide) (he : starEach (e :: es) X.env = (false, eval e X.env) :: starEach es X.env := by rfl) (hpl : (backTo pos (starEach es X.env)).any (·.1) = false := by rfl) :
    SP X (.Call (.Name x p) (e :: es) [] pos) (mCall f ml) := PE.weak (pe_callTy hc hg hm hv ha hn hdb he hpl) fun σ H Q h => rdN1 (ta := trBA X.K ml) hf h
theorem sp_callBL {x : Str} {p : Pos} {id : String} {r : List V → Hp → VK → Prop} {f : List D → Option (List D)} (hc : CallR X (.builtin id) r) (hf : OpNL X.K r f) (hv : bootBuiltins x = some (.builtin id)) (hm : X.mg x = none) (ha : SBA X (e :: es) ml) (hg : Gl X x := by rfl)
    (hn : x ≠ "__name__" := by decide) (hdb : (x == ("__debug__" : Str)) = false := by decide) (he : starEach (e :: es) X.env = (false, eval e X.env) :: starEach es X.env := by rfl) (hpl : (backTo pos (starEach es X.env)).any (·.1) = false := by rfl) :
    SP X (.Call (.Name x p) (e :: es) [] pos) (mCallL f ml) := PE.weak (pe_callB hc hg hm hv ha hn hdb he hpl) fun σ H Q h => rdNL hf h
theorem sp_callTyL {x : Str} {p : Pos} {id : String} {r : List V → Hp → VK → Prop} {f : List D → Option (List D)} (hc : CallR X (.type id) r) (hf : OpNL X.K r f) (hv : bootBuiltins x = some (.type id)) (hm : X.mg x = none) (ha : SBA X (e :: es) ml) (hg : Gl X x := by rfl)
    (hn : x ≠ "__name__" := by decide) (hdb : (x == ("__debug__" : Str)) = false := by decide) (he : starEach (e :: es) X.env = (false, eval e X.env) :: starEach es X.env := by rfl) (hpl : (backTo pos (starEach es X.env)).any (·.1) = false := by rfl) :
    SP X (.Call (.Name x p) (e :: es) [] pos) (mCallL f ml) := PE.weak (pe_callTy hc hg hm hv ha hn hdb he hpl) fun σ H Q h => rdNL hf h

/-! the built-ins -/
@[simp] def intsD : List D → Option (List Int)
  | [] => some []
  | .s (.int i) :: ds => (intsD ds).map (i :: ·)
  | _ => none
@[simp] def boolsD : List D → Option (List Bool)
  | [] => some []
  | .s (.bl i) :: ds => (boolsD ds).map (i :: ·)
  | _ => none
theorem intsD_of : ∀ {ts : List T} {ns : List Int}, intsD (erL ts) = some ns → ts = ns.map fun i => T.s (.int i)
  | [], ns, h => by
    rw [erL, intsD] at h
    cases h; rfl
  | t :: ts, ns, h => by
    rw [erL] at h
    unfold intsD at h
    split at h
    · rename_i e; cases e
    · rename_i i ds e
      injection e with e1 e2
      subst e2
      obtain ⟨ms, h1, rfl⟩ := map_some h
      rw [List.map_cons, ← intsD_of h1, ← er_int e1]
    · cases h
theorem boolsD_of : ∀ {ts : List T} {ns : List Bool}, boolsD (erL ts) = some ns → ts = ns.map fun i => T.s (.bl i)
  | [], ns, h => by
    rw [erL, boolsD] at h
    cases h; rfl
  | t :: ts, ns, h => by
    rw [erL] at h
    unfold boolsD at h
    split at h
    · rename_i e; cases e
    · rename_i i ds e
      injection e with e1 e2
      subst e2
      obtain ⟨ms, h1, rfl⟩ := map_some h
      rw [List.map_cons, ← boolsD_of h1, ← er_scl e1 rfl]
    · cases h
theorem vals_ints (ns : List Int) : vals (ns.map fun i => T.s (.int i)) = ns.map V.int := by
  rw [vals, List.map_map]
  rfl
theorem vals_bools (ns : List Bool) : vals (ns.map fun i => T.s (.bl i)) = ns.map V.bl := by
  rw [vals, List.map_map]
  rfl
theorem one_er {ts : List T} {d : D} (h : erL ts = [d]) : ∃ t, ts = [t] ∧ t.er = d := by
  match ts, h with
  | [t], h =>
    rw [erL, erL] at h
    cases h
    exact ⟨t, rfl, rfl⟩
theorem two_er {ts : List T} {d c : D} (h : erL ts = [d, c]) : ∃ t u, ts = [t, u] ∧ t.er = d ∧ u.er = c := by
  match ts, h with
  | [t, u], h =>
    rw [erL, erL, erL] at h
    cases h
    exact ⟨t, u, rfl, rfl, rfl⟩
/-- the intsD of a list argument -/
def li : List D → Option (List Int)
  | [.n (.lst _) ds] => intsD ds
  | _ => none
@[simp] theorem li_c0 {ds : List D} {o : Fl} : li [.n (.lst o) ds] = intsD ds := rfl
def lb : List D → Option (List Bool)
  | [.n (.lst _) ds] => boolsD ds
  | _ => none
@[simp] theorem lb_c0 {ds : List D} {o : Fl} : lb [.n (.lst o) ds] = boolsD ds := rfl
theorem li_of {K : PySem.W.Frag} {H : Hp} {ts : List T} {ns : List Int} (hs : satL K H ts) (h : li (erL ts) = some ns) : ∃ a, vals ts = [.ref a] ∧ SqL K H a (ns.map V.int) := by
  unfold li at h
  split at h
  · rename_i o ds e
    obtain ⟨t, rfl, e1⟩ := one_er e
    obtain ⟨a, us, e2, e3, e4, _⟩ := rdL hs.1 e1
    rw [← e3] at h
    refine ⟨a, by rw [vals, List.map_cons, e2]; rfl, ?_⟩
    rw [intsD_of h, vals_ints] at e4
    exact e4
  · cases h
theorem lb_of {K : PySem.W.Frag} {H : Hp} {ts : List T} {ns : List Bool} (hs : satL K H ts) (h : lb (erL ts) = some ns) : ∃ a, vals ts = [.ref a] ∧ SqL K H a (ns.map V.bl) := by
  unfold lb at h
  split at h
  · rename_i o ds e
    obtain ⟨t, rfl, e1⟩ := one_er e
    obtain ⟨a, us, e2, e3, e4, _⟩ := rdL hs.1 e1
    rw [← e3] at h
    refine ⟨a, by rw [vals, List.map_cons, e2]; rfl, ?_⟩
    rw [boolsD_of h, vals_bools] at e4
    exact e4
  · cases h
def fLen : List D → Option V
  | [.n (.lst _) ds] => some (.int ds.length)
  | [.n .tup ds] => some (.int ds.length)
  | _ => none
@[simp] theorem fLen_c0 {ds : List D} {o : Fl} : fLen [.n (.lst o) ds] = some (.int ds.length) := rfl
@[simp] theorem fLen_c1 {ds : List D} : fLen [.n .tup ds] = some (.int ds.length) := rfl
@[simp] def fSum (ds : List D) : Option V := (li ds).map fun ns => .int ns.sum
@[simp] def fMaxL (ds : List D) : Option V := (li ds).bind fun ns => ns.max?.map .int
@[simp] def fMinL (ds : List D) : Option V := (li ds).bind fun ns => ns.min?.map .int
@[simp] def fAny (ds : List D) : Option V := (lb ds).map fun ns => .bl (ns.any id)
@[simp] def fAll (ds : List D) : Option V := (lb ds).map fun ns => .bl (ns.all id)
def fAbs : List D → Option V
  | [.s (.int i)] => some (.int (if i < 0 then -i else i))
  | _ => none
@[simp] theorem fAbs_c0 {i : Int} : fAbs [.s (.int i)] = some (.int (if i < 0 then -i else i)) := rfl
def fMax2 : List D → Option V
  | [.s (.int i), .s (.int j)] => some (.int (if j > i then j else i))
  | _ => none
@[simp] theorem fMax2_c0 {i : Int} {j : Int} : fMax2 [.s (.int i), .s (.int j)] = some (.int (if j > i then j else i)) := rfl
def fMin2 : List D → Option V
  | [.s (.int i), .s (.int j)] => some (.int (if j < i then j else i))
  | _ => none
@[simp] theorem fMin2_c0 {i : Int} {j : Int} : fMin2 [.s (.int i), .s (.int j)] = some (.int (if j < i then j else i)) := rfl
def fInt1 : List D → Option V
  | [.s (.int i)] => some (.int i)
  | [.s (.bl b)] => some (.int (if b then 1 else 0))
  | _ => none
@[simp] theorem fInt1_c0 {i : Int} : fInt1 [.s (.int i)] = some (.int i) := rfl
@[simp] theorem fInt1_c1 {b : Bool} : fInt1 [.s (.bl b)] = some (.int (if b then 1 else 0)) := rfl
def fStr1 : List D → Option V
  | [.s (.int i)] => if i.natAbs.log2 < 1920 then some (.str (toString i)) else none
  | _ => none
section
variable {K : PySem.W.Frag}
theorem opn_len : OpN K (fun xs H Q => ∃ p ys, xs = [.ref p] ∧ (SqL K H p ys ∨ SqT K H p ys) ∧ Q (.int ys.length) H) fLen := fun ts v H Q hs h q => by
  unfold fLen at h
  split at h
  · rename_i o ds e
    cases h
    obtain ⟨t, rfl, e1⟩ := one_er e
    obtain ⟨a, us, e2, e3, e4, _⟩ := rdL hs.1 e1
    refine ⟨a, _, by rw [vals, List.map_cons, e2]; rfl, .inl e4, ?_⟩
    rw [List.length_map, len_er e3]
    exact q
  · rename_i ds e
    cases h
    obtain ⟨t, rfl, e1⟩ := one_er e
    obtain ⟨a, us, e2, e3, e4, _⟩ := rdT hs.1 e1
    refine ⟨a, _, by rw [vals, List.map_cons, e2]; rfl, .inr e4, ?_⟩
    rw [List.length_map, len_er e3]
    exact q
  · cases h
theorem opn_sum : OpN K (rSum K) fSum := fun ts v H Q hs h q => by
  obtain ⟨ns, h1, rfl⟩ := map_some h
  obtain ⟨a, e1, e2⟩ := li_of hs h1
  exact ⟨a, ns, e1, e2, q⟩
theorem opn_max : OpN K (rMax K) fMaxL := fun ts v H Q hs h q => by
  obtain ⟨ns, h1, h⟩ := bind_some h
  obtain ⟨z, h2, rfl⟩ := map_some h
  obtain ⟨a, e1, e2⟩ := li_of hs h1
  rw [List.max?_eq_some_iff] at h2
  refine ⟨a, ns, e1, e2, List.length_pos_of_mem h2.1, fun m hm hx => ?_⟩
  have : m = z := Int.le_antisymm (h2.2 m hm) (hx z h2.1)
  rw [this]
  exact q
theorem opn_min : OpN K (rMin K) fMinL := fun ts v H Q hs h q => by
  obtain ⟨ns, h1, h⟩ := bind_some h
  obtain ⟨z, h2, rfl⟩ := map_some h
  obtain ⟨a, e1, e2⟩ := li_of hs h1
  rw [List.min?_eq_some_iff] at h2
  refine ⟨a, ns, e1, e2, List.length_pos_of_mem h2.1, fun m hm hx => ?_⟩
  have : m = z := Int.le_antisymm (hx z h2.1) (h2.2 m hm)
  rw [this]
  exact q
theorem opn_any : OpN K (rAny K) fAny := fun ts v H Q hs h q => by
  obtain ⟨ns, h1, rfl⟩ := map_some h
  obtain ⟨a, e1, e2⟩ := lb_of hs h1
  exact ⟨a, ns, e1, e2, q⟩
theorem opn_all : OpN K (rAll K) fAll := fun ts v H Q hs h q => by
  obtain ⟨ns, h1, rfl⟩ := map_some h
  obtain ⟨a, e1, e2⟩ := lb_of hs h1
  exact ⟨a, ns, e1, e2, q⟩
theorem opn_abs : OpN K (fun xs H Q => ∃ i, xs = [.int i] ∧ Q (.int (if i < 0 then -i else i)) H) fAbs := fun ts v H Q hs h q => by
  unfold fAbs at h
  split at h
  · rename_i i e
    cases h
    obtain ⟨t, rfl, e1⟩ := one_er e
    rw [er_int e1]
    exact ⟨i, rfl, q⟩
  · cases h
theorem opn_max2 : OpN K (fun xs H Q => ∃ i j, xs = [.int i, .int j] ∧ Q (.int (if j > i then j else i)) H) fMax2 := fun ts v H Q hs h q => by
  unfold fMax2 at h
  split at h
  · rename_i i j e
    cases h
    obtain ⟨t, u, rfl, e1, e2⟩ := two_er e
    rw [er_int e1, er_int e2]
    exact ⟨i, j, rfl, q⟩
  · cases h
theorem opn_min2 : OpN K (fun xs H Q => ∃ i j, xs = [.int i, .int j] ∧ Q (.int (if j < i then j else i)) H) fMin2 := fun ts v H Q hs h q => by
  unfold fMin2 at h
  split at h
  · rename_i i j e
    cases h
    obtain ⟨t, u, rfl, e1, e2⟩ := two_er e
    rw [er_int e1, er_int e2]
    exact ⟨i, j, rfl, q⟩
  · cases h
theorem opn_int1 : OpN K (fun xs H Q => (∃ i, xs = [.int i] ∧ Q (.int i) H) ∨ ∃ k, xs = [.bl k] ∧ Q (.int (if k then 1 else 0)) H) fInt1 := fun ts v H Q hs h q => by
  unfold fInt1 at h
  split at h
  · rename_i i e
    cases h
    obtain ⟨t, rfl, e1⟩ := one_er e
    rw [er_int e1]
    exact .inl ⟨i, rfl, q⟩
  · rename_i i e
    cases h
    obtain ⟨t, rfl, e1⟩ := one_er e
    rw [er_scl e1 rfl]
    exact .inr ⟨i, rfl, q⟩
  · cases h
theorem opn_str1 : OpN K (fun xs H Q => ∃ i, xs = [.int i] ∧ i.natAbs.log2 < 1920 ∧ Q (.str (toString i)) H) fStr1 := fun ts v H Q hs h q => by
  unfold fStr1 at h
  split at h
  · rename_i i e
    split at h
    · rename_i hl
      cases h
      obtain ⟨t, rfl, e1⟩ := one_er e
      rw [er_int e1]
      exact ⟨i, rfl, hl, q⟩
    · cases h
  · cases h
/-- list(x) -/
def fList : List D → Option (List D)
  | [.n (.lst _) ds] => some ds
  | [.n .tup ds] => some ds
  | _ => none
@[simp] theorem fList_c0 {ds : List D} {o : Fl} : fList [.n (.lst o) ds] = some ds := rfl
@[simp] theorem fList_c1 {ds : List D} : fList [.n .tup ds] = some ds := rfl
theorem opnl_list : OpNL K (fun xs H Q => ∃ p ys, xs = [.ref p] ∧ (SqL K H p ys ∨ SqT K H p ys) ∧ ∀ l, H l = none → Q (.ref l) (upd H l (.lst ys))) fList := fun ts ds H Q hs h q => by
  unfold fList at h
  split at h
  · rename_i o ds' e
    cases h
    obtain ⟨t, rfl, e1⟩ := one_er e
    obtain ⟨a, us, e2, e3, e4, e5, e6, e7⟩ := rdL hs.1 e1
    refine ⟨a, _, by rw [vals, List.map_cons, e2]; rfl, .inl e4, fun p hp => q us p e3 e5 (fun b z => ?_) (fun b z => ?_) hp⟩
    · rw [coL]; have := e6 b; omega
    · rw [cuL]; have := e7 b; omega
  · rename_i ds' e
    cases h
    obtain ⟨t, rfl, e1⟩ := one_er e
    obtain ⟨a, us, e2, e3, e4, e5, e6, e7⟩ := rdT hs.1 e1
    refine ⟨a, _, by rw [vals, List.map_cons, e2]; rfl, .inr e4, fun p hp => q us p e3 e5 (fun b z => ?_) (fun b z => ?_) hp⟩
    · rw [coL]; have := e6 b; omega
    · rw [cuL]; have := e7 b; omega
  · cases h
end
end
end Ow

namespace Ow
open PySem L2

/-! ### subscripts, slices, + and * of lists -/
section
variable {K : PySem.W.Frag} {H H1 H' : Hp} {env : TEnv} {ts us : List T} {p : Addr}
theorem atI_map {α β : Type} (f : α → β) (xs : List α) (i : Int) : atI (xs.map f) i = (atI xs i).map f := by
  unfold atI
  rw [List.length_map]
  cases ixN xs.length i with
  | none => rfl
  | some j => exact List.getElem?_map ..
theorem atI_mem {α : Type} {xs : List α} {i : Int} {x : α} (h : atI xs i = some x) : x ∈ xs := by
  unfold atI at h
  obtain ⟨j, _, h⟩ := bind_some h
  exact List.mem_of_getElem? h
def cutG {α : Type} (xs : List α) (lo hi : Option Int) : List α := (xs.drop (HT.sIx xs.length 0 lo)).take (HT.sIx xs.length xs.length hi - HT.sIx xs.length 0 lo)
theorem cutG_map {α β : Type} (f : α → β) (xs : List α) (lo hi : Option Int) : cutG (xs.map f) lo hi = (cutG xs lo hi).map f := by
  unfold cutG
  rw [List.length_map, List.map_take, List.map_drop]
theorem cutV_vals (ts : List T) (lo hi : Option Int) : cutV (vals ts) lo hi = vals (cutG ts lo hi) := cutG_map T.val ts lo hi
theorem cutG_mem {α : Type} {xs : List α} {lo hi : Option Int} {x : α} (h : x ∈ cutG xs lo hi) : x ∈ xs := List.mem_of_mem_drop (List.mem_of_mem_take h)
def fItem (x y : D) : Option D := match x, y with
  | .n (.lst _) ds, .s (.int i) => atI ds i
  | .n .tup ds, .s (.int i) => atI ds i
  | .s (.str z), .s (.int i) => if z.length ≤ 16777216 then (atI z.cps.toList i).map fun c => .s (.str ⟨#[c]⟩) else none
  | _, _ => none
@[simp] theorem fItem_c0 {i : Int} {ds : List D} {o : Fl} : fItem (.n (.lst o) ds) (.s (.int i)) = atI ds i := rfl
@[simp] theorem fItem_c1 {i : Int} {ds : List D} : fItem (.n .tup ds) (.s (.int i)) = atI ds i := rfl
@[simp] def mItem (ma mb : PM) : PM := fun env => (ma env).bind fun x => (mb env).bind fun y => fItem x y
@[simp] def mPure (m : PM) : PM := fun env => (m env).bind fun d => if d.pure = true then some d else none
def rIt (K : PySem.W.Frag) : R2 := fun x y H Q => (rIxL K x y H Q ∨ rIxT K x y H Q) ∨ rIxS x y H Q
end
section
variable {X : Cx} {m ma mb : PM} {ml : LM} {e a b : Expr} {es : List Expr} {pos : Pos}
theorem ix_it : IxR X (rIt X.K) := (ix_list.or ix_tup).or ix_str
theorem sp_pure (h : SB X e m) : SP X e (mPure m) := PE.weak h fun σ H Q ⟨env, d, hm, r, s, k⟩ => by
  obtain ⟨x, hx, hm⟩ := bind_some hm
  split at hm
  · rename_i hp
    cases hm
    refine ⟨env, d, hx, r, s, fun t H1 e1 x1 s1 b1 => k t H1 e1 x1 s1 (b1.own ?_)⟩
    rw [e1]
    exact hp
  · cases hm
theorem sb_item (ha : SB X a ma) (hb : SB X b mb) (hs : PlainIx b := by exact fun _ _ => rfl) : SB X (.Subscript a b pos) (mItem ma mb) := PE.weak (pe_ix ix_it ha hb hs) fun σ H Q ⟨env, d, hm, r, s, k⟩ => by
  obtain ⟨x, hx, hm⟩ := bind_some hm
  obtain ⟨y, hy, hm⟩ := bind_some hm
  refine ⟨env, x, hx, r, s, fun t H1 e1 x1 s1 b1 => ⟨env, y, hy, r, s.ex x1, fun u H2 e2 x2 s2 b2 => ?_⟩⟩
  subst e1 e2
  unfold fItem at hm
  split at hm
  · rename_i o ds i e1 e2
    obtain ⟨a, ts, f1, f2, f3, f4, f5, f6⟩ := rdL (sat_ex x2 s1) e1
    rw [f1, er_int e2]
    rw [← f2, erL_map, atI_map] at hm
    obtain ⟨z, hz, rfl⟩ := map_some hm
    refine .inl (.inl ⟨a, _, i, z.val, rfl, rfl, f3, by rw [vals, atI_map, hz]; rfl, ?_⟩)
    have hz2 := atI_mem hz
    exact k z H2 rfl (x1.trans x2) (satL_iff.mp f4 z hz2) ((b1.sub f5 f6).mem hz2)
  · rename_i ds i e1 e2
    obtain ⟨a, ts, f1, f2, f3, f4, f5, f6⟩ := rdT (sat_ex x2 s1) e1
    rw [f1, er_int e2]
    rw [← f2, erL_map, atI_map] at hm
    obtain ⟨z, hz, rfl⟩ := map_some hm
    refine .inl (.inr ⟨a, _, i, z.val, rfl, rfl, f3, by rw [vals, atI_map, hz]; rfl, ?_⟩)
    have hz2 := atI_mem hz
    exact k z H2 rfl (x1.trans x2) (satL_iff.mp f4 z hz2) ((b1.sub f5 f6).mem hz2)
  · rename_i z i e1 e2
    split at hm
    · rename_i hl
      obtain ⟨c, hc, rfl⟩ := map_some hm
      rw [er_scl e1 rfl, er_int e2]
      exact .inr ⟨z, i, c, rfl, rfl, sizeLine_le hl, hc, k (.s (.str ⟨#[c]⟩)) H2 rfl (x1.trans x2) trivial own_s.bor⟩
    · cases hm
  · cases hm
theorem sp_item (ha : SB X a ma) (hb : SB X b mb) (hs : PlainIx b := by exact fun _ _ => rfl) : SP X (.Subscript a b pos) (mPure (mItem ma mb)) := sp_pure (sb_item ha hb hs)
/-- a part of a slice -/
def trO (K : PySem.W.Frag) (m : Env → Option (Option Int)) : TO := fun σ H Q => ∃ env o, m (erE env) = some o ∧ Rel σ env ∧ SatE K H env ∧ ∀ H', Ex H H' → Q o H'
def SO (X : Cx) (e : Option Expr) (m : Env → Option (Option Int)) : Prop := PO X e (trO X.K m)
theorem PO.weak {e : Option Expr} {t u : TO} (h : PO X e t) (w : ∀ σ H Q, u σ H Q → t σ H Q) : PO X e u := ⟨fun pins s σ H Q I z => h.run pins s σ H Q I (w σ H Q z)⟩
@[simp] def oNo : Env → Option (Option Int) := fun _ => some none
def toI : D → Option Int
  | .s (.int i) => some i
  | _ => none
@[simp] theorem toI_c0 {i : Int} : toI (.s (.int i)) = some i := rfl
theorem toI_some {d : D} {i : Int} (h : toI d = some i) : d = .s (.int i) := by
  unfold toI at h
  split at h
  · cases h; rfl
  · cases h
@[simp] def oYes (m : PM) : Env → Option (Option Int) := fun env => ((m env).bind toI).map some
theorem so_none : SO X none oNo := PO.weak po_none fun σ H Q ⟨env, d, hm, r, s, k⟩ => by
  cases hm
  exact k H (Evl.Ex.refl H)
theorem so_some (h : SB X e m) : SO X (some e) (oYes m) := PO.weak (po_some h) fun σ H Q ⟨env, d, hm, r, s, k⟩ => by
  obtain ⟨i, hi, rfl⟩ := map_some hm
  obtain ⟨x, hx, hi⟩ := bind_some hi
  refine ⟨env, x, hx, r, s, fun t H1 e1 x1 s1 b1 => ?_⟩
  subst e1
  rw [er_int (toI_some hi)]
  exact ⟨i, rfl, k H1 x1⟩
@[simp] def mSl (m : PM) (lo hi : Env → Option (Option Int)) : PM := fun env => (m env).bind fun x => (lo env).bind fun l => (hi env).bind fun h => match x with
  | .n (.lst _) ds => if pureL (cutG ds l h) = true then some (.n (.lst .o) (cutG ds l h)) else none
  | _ => none
theorem sp_slice {lo hi : Option Expr} {p2 : Pos} {ol oh : Env → Option (Option Int)} (ha : SB X a ma) (hl : SO X lo ol) (hh : SO X hi oh) : SP X (.Subscript a (.Slice lo hi none p2) pos) (mSl ma ol oh) := PE.weak (pe_slice sl_list ha hl hh) fun σ H Q ⟨env, d, hm, r, s, k⟩ => by
  obtain ⟨x, hx, hm⟩ := bind_some hm
  obtain ⟨l, hl, hm⟩ := bind_some hm
  obtain ⟨h, hh, hm⟩ := bind_some hm
  refine ⟨env, x, hx, r, s, fun t H1 e1 x1 s1 b1 => ⟨env, l, hl, r, s.ex x1, fun H2 x2 => ⟨env, h, hh, r, (s.ex x1).ex x2, fun H3 x3 => ?_⟩⟩⟩
  subst e1
  split at hm
  · rename_i o ds e1
    split at hm
    · rename_i hp
      cases hm
      obtain ⟨a, ts, f1, f2, f3, f4, f5, f6⟩ := rdL (sat_ex x3 (sat_ex x2 s1)) e1
      rw [f1]
      refine ⟨a, _, rfl, f3, fun p hn => ?_⟩
      rw [cutV_vals]
      have x4 := (x1.trans x2).trans x3
      have f7 : erL (cutG ts l h) = cutG ds l h := by rw [erL_map, ← cutG_map, ← erL_map, f2]
      have b2 : BorL H env (cutG ts l h) := (b1.sub f5 f6).subset fun u hu => cutG_mem hu
      obtain ⟨x5, s5, o5⟩ := new_node (k := .lst .o) rfl x4 s (satL_iff.mpr fun u hu => satL_iff.mp f4 u (cutG_mem hu)) (b2.own (by rw [f7]; exact hp)) hn
      exact k (.n (.lst .o) p (cutG ts l h)) _ (by rw [T.er, f7]) (x4.trans x5) s5 o5
    · cases hm
  · cases hm
@[simp] def nw : Fl → Bool
  | .w => false
  | _ => true
def fCat (x y : D) : Option (List D) := match x, y with
  | .n (.lst o) ds, .n (.lst o') es => if (nw o && nw o' && decide (ds.length + es.length ≤ 16777216)) = true then some (ds ++ es) else none
  | _, _ => none
@[simp] theorem fCat_c0 {ds : List D} {es : List D} {o : Fl} {o2 : Fl} : fCat (.n (.lst o) ds) (.n (.lst o2) es) = if (nw o && nw o2 && decide (ds.length + es.length ≤ 16777216)) = true then some (ds ++ es) else none := rfl
@[simp] def mCat (ma mb : PM) : PM := fun env => (ma env).bind fun x => (mb env).bind fun y => (fCat x y).bind fun rs => if pureL rs = true then some (.n (.lst .o) rs) else none
theorem nw_isw {o : Fl} (h : nw o = true) : (Kd.lst o).isw = false := by cases o <;> first | rfl | cases h
theorem erL_append (ts us : List T) : erL (ts ++ us) = erL ts ++ erL us := by rw [erL_map, erL_map, erL_map, List.map_append]
theorem cat_rd {K : PySem.W.Frag} {σ : L2.St} {H : Hp} {Q : VK} (h : trP K (mCat ma mb) σ H Q) : tOp rCat (trB K ma) (trB K mb) σ H Q := by
  obtain ⟨env, d, hm, r, s, k⟩ := h
  obtain ⟨x, hx, hm⟩ := bind_some hm
  obtain ⟨y, hy, hm⟩ := bind_some hm
  obtain ⟨rs, hr, hm⟩ := bind_some hm
  split at hm
  · rename_i hp
    cases hm
    refine ⟨env, x, hx, r, s, fun t H1 e1 x1 s1 b1 => ⟨env, y, hy, r, s.ex x1, fun u H2 e2 x2 s2 b2 => ?_⟩⟩
    subst e1 e2
    unfold fCat at hr
    split at hr
    · rename_i o ds o' es e1 e2
      split at hr
      · rename_i hc
        simp only [Bool.and_eq_true, decide_eq_true_eq] at hc
        cases hr
        obtain ⟨a, ts, f1, f2, f3, f4⟩ := rdN (sat_ex x2 s1) e1 (nw_isw hc.1.1) (by simp)
        obtain ⟨c, us, g1, g2, g3, g4⟩ := rdN s2 e2 (nw_isw hc.1.2) (by simp)
        subst f1 g1
        have x3 := x1.trans x2
        refine ⟨a, c, _, _, rfl, rfl, f3, g3, sizeLine_le (by rw [List.length_map, List.length_map, len_er f2, len_er g2]; exact hc.2), fun p hn => ?_⟩
        rw [← List.map_append]
        have c1 : BorL H env ts := b1.sub (fun b => by rw [T.co]; omega) (fun b => by rw [T.cu]; omega)
        have c2 : BorL H env us := (b2.back x1).sub (fun b => by rw [T.co]; omega) (fun b => by rw [T.cu]; omega)
        have c3 : BorL H env (ts ++ us) := fun z => by
          rw [coL_append, cuL_append]
          refine ⟨fun q => ?_, fun q => ?_⟩
          · by_cases w : 0 < coL z ts
            · exact (c1 z).1 w
            · exact (c2 z).1 (by omega)
          · by_cases w : 0 < cuL z ts
            · exact (c1 z).2 w
            · exact (c2 z).2 (by omega)
        have f7 : erL (ts ++ us) = ds ++ es := by rw [erL_append, f2, g2]
        obtain ⟨x5, s5, o5⟩ := new_node (k := .lst .o) rfl x3 s (satL_append.mpr ⟨f4, g4⟩) (c3.own (by rw [f7]; exact hp)) hn
        exact k (.n (.lst .o) p (ts ++ us)) _ (by rw [T.er, f7]) (x3.trans x5) s5 o5
      · cases hr
    · cases hr
  · cases hm
theorem sp_cat (ha : SB X a ma) (hb : SB X b mb) : SP X (.BinOp a .Add b pos) (mCat ma mb) := PE.weak (pe_op op_cat ha hb) fun σ H Q h => cat_rd h
def fRep (x y : D) : Option (List D) := match x, y with
  | .n (.lst o) ds, .s (.int n) => if (nw o && decide (-(2 ^ 63) ≤ n ∧ n < 2 ^ 63 ∧ ds.length * n.toNat ≤ 16777216)) = true then some (List.replicate n.toNat ds).flatten else none
  | _, _ => none
@[simp] theorem fRep_c0 {ds : List D} {o : Fl} {n : Int} : fRep (.n (.lst o) ds) (.s (.int n)) = if (nw o && decide (-(2 ^ 63) ≤ n ∧ n < 2 ^ 63 ∧ ds.length * n.toNat ≤ 16777216)) = true then some (List.replicate n.toNat ds).flatten else none := rfl
@[simp] def mRep (ma mb : PM) : PM := fun env => (ma env).bind fun x => (mb env).bind fun y => (fRep x y).bind fun rs => if pureL rs = true then some (.n (.lst .o) rs) else none
theorem sp_rep (ha : SB X a ma) (hb : SB X b mb) : SP X (.BinOp a .Mult b pos) (mRep ma mb) := PE.weak (pe_op op_rep ha hb) fun σ H Q ⟨env, d, hm, r, s, k⟩ => by
  obtain ⟨x, hx, hm⟩ := bind_some hm
  obtain ⟨y, hy, hm⟩ := bind_some hm
  obtain ⟨rs, hr, hm⟩ := bind_some hm
  split at hm
  · rename_i hp
    cases hm
    refine ⟨env, x, hx, r, s, fun t H1 e1 x1 s1 b1 => ⟨env, y, hy, r, s.ex x1, fun u H2 e2 x2 s2 b2 => ?_⟩⟩
    subst e1 e2
    unfold fRep at hr
    split at hr
    · rename_i o ds n e1 e2
      split at hr
      · rename_i hc
        simp only [Bool.and_eq_true, decide_eq_true_eq] at hc
        cases hr
        obtain ⟨a, ts, f1, f2, f3, f4⟩ := rdN (sat_ex x2 s1) e1 (nw_isw hc.1) (by simp)
        subst f1
        have x3 := x1.trans x2
        rw [er_int e2]
        refine ⟨a, n, _, rfl, rfl, f3, hc.2.1, hc.2.2.1, sizeLine_le (by rw [List.length_map, len_er f2]; exact hc.2.2.2), fun p hn => ?_⟩
        have ev : (List.replicate n.toNat (vals ts)).flatten = vals (List.replicate n.toNat ts).flatten := by
          rw [vals, vals, List.map_flatten, List.map_replicate]
        show Q (.ref p) (upd H2 p (.lst (List.replicate n.toNat (vals ts)).flatten))
        rw [ev]
        have c1 : BorL H env ts := b1.sub (fun b => by rw [T.co]; omega) (fun b => by rw [T.cu]; omega)
        have hsub : ∀ u ∈ (List.replicate n.toNat ts).flatten, u ∈ ts := fun u hu => by
          obtain ⟨l, hl, hu⟩ := List.mem_flatten.mp hu
          rw [List.eq_of_mem_replicate hl] at hu
          exact hu
        have f7 : erL (List.replicate n.toNat ts).flatten = (List.replicate n.toNat ds).flatten := by
          rw [erL_map, List.map_flatten, List.map_replicate, ← erL_map, f2]
        obtain ⟨x5, s5, o5⟩ := new_node (k := .lst .o) rfl x3 s (satL_iff.mpr fun u hu => satL_iff.mp f4 u (hsub u hu)) ((c1.subset hsub).own (by rw [f7]; exact hp)) hn
        exact k (.n (.lst .o) p _) _ (by rw [T.er, f7]) (x3.trans x5) s5 o5
      · cases hr
    · cases hr
  · cases hm
/-- list(range(a, b)) -/
def rgD (a b : Int) : List D := (List.range (b - a).toNat).map fun (i : Nat) => D.s (.int (a + (i : Int)))
def trRg (K : PySem.W.Frag) (m : Env → Option (Int × Int)) : L2.St → Hp → (Int → Int → Hp → Prop) → Prop := fun σ H Q => ∃ env r, m (erE env) = some r ∧ Rel σ env ∧ SatE K H env ∧ ∀ H', Ex H H' → Q r.1 r.2 H'
@[simp] def rg1 (m : PM) : Env → Option (Int × Int) := fun env => ((m env).bind toI).map fun n => (0, n)
@[simp] def rg2 (m n : PM) : Env → Option (Int × Int) := fun env => ((m env).bind toI).bind fun i => ((n env).bind toI).map fun j => (i, j)
instance {a b : Int} : Decidable (RgOk a b) := by unfold RgOk; infer_instance
@[simp] def mRg (r : Env → Option (Int × Int)) : PM := fun env => (r env).bind fun x => if (decide (RgOk x.1 x.2)) = true then some (.n (.lst .o) (rgD x.1 x.2)) else none
end
section
variable {X : Cx} {m ma mb : PM} {ml : LM} {e a b : Expr} {es : List Expr} {pos p : Pos}
def SRg (X : Cx) (e : Expr) (m : Env → Option (Int × Int)) : Prop := PRg X e (trRg X.K m)
theorem srg_1 (hm : X.mg "range" = none) (ha : SB X a ma) (hg : Gl X "range" := by rfl) (na : starEach [a] X.env = (false, eval a X.env) :: starEach [] X.env := by rfl) : SRg X (.Call (.Name "range" p) [a] [] pos) (rg1 ma) := fun pins s σ H Q I h => by
  obtain ⟨env, x, hm', r, hs, k⟩ := h
  obtain ⟨n, hn, rfl⟩ := map_some hm'
  obtain ⟨d, hd, hn⟩ := bind_some hn
  refine prg_1 hg hm ha na pins s σ H Q I ⟨env, d, hd, r, hs, fun t H1 e1 x1 s1 b1 => ?_⟩
  subst e1
  rw [er_int (toI_some hn)]
  exact ⟨n, rfl, k H1 x1⟩
theorem srg_2 (hm : X.mg "range" = none) (ha : SB X a ma) (hb : SB X b mb) (hg : Gl X "range" := by rfl) (na : starEach [a, b] X.env = (false, eval a X.env) :: starEach [b] X.env := by rfl)
    (nb : starEach [b] X.env = (false, eval b X.env) :: starEach [] X.env := by rfl) (hp : (backTo pos (starEach [b] X.env)).any (·.1) = false := by rfl) : SRg X (.Call (.Name "range" p) [a, b] [] pos) (rg2 ma mb) := fun pins s σ H Q I h => by
  obtain ⟨env, x, hm', r, hs, k⟩ := h
  obtain ⟨i, hi, hm'⟩ := bind_some hm'
  obtain ⟨j, hj, rfl⟩ := map_some hm'
  obtain ⟨d, hd, hi⟩ := bind_some hi
  obtain ⟨c, hc, hj⟩ := bind_some hj
  refine prg_2 hg hm ha hb na nb hp pins s σ H Q I ⟨env, d, hd, r, hs, fun t H1 e1 x1 s1 b1 => ⟨env, c, hc, r, hs.ex x1, fun u H2 e2 x2 s2 b2 => ?_⟩⟩
  subst e1 e2
  rw [er_int (toI_some hi), er_int (toI_some hj)]
  exact ⟨i, j, rfl, rfl, k H2 (x1.trans x2)⟩
theorem rgV_vals (a b : Int) : rgV a b = vals ((List.range (b - a).toNat).map fun (i : Nat) => T.s (.int (a + (i : Int)))) := by
  rw [vals, List.map_map]
  rfl
theorem sp_listRg {mr : Env → Option (Int × Int)} (hc : X.calm = true) (hm : X.mg "list" = none) (h : SRg X e mr) (hg : Gl X "list" := by rfl) (hs : starEach [e] X.env = (false, eval e X.env) :: starEach [] X.env := by rfl) : SP X (.Call (.Name "list" p) [e] [] pos) (mRg mr) := PE.weak (pe_listRg hc hg hm h hs) fun σ H Q ⟨env, d, hm, r, s, k⟩ => by
  obtain ⟨x, hx, hm⟩ := bind_some hm
  split at hm
  · rename_i hok
    cases hm
    refine ⟨env, x, hx, r, s, fun H1 x1 => ⟨of_decide_eq_true hok, fun q hq => ?_⟩⟩
    rw [rgV_vals]
    have hown : OwnL H env ((List.range (x.2 - x.1).toNat).map fun (i : Nat) => T.s (.int (x.1 + (i : Int)))) := by
      have : BorL H env ((List.range (x.2 - x.1).toNat).map fun (i : Nat) => T.s (.int (x.1 + (i : Int)))) := by
        generalize List.range (x.2 - x.1).toNat = l
        induction l with
        | nil => exact ownL_nil.bor
        | cons z l ih =>
        intro a
        have := ih a
        rw [List.map_cons, coL, cuL, T.co, T.cu, Nat.zero_add, Nat.zero_add]
        exact this
      refine this.own ?_
      generalize List.range (x.2 - x.1).toNat = l
      induction l with
      | nil => rfl
      | cons z l ih => rw [List.map_cons, erL, pureL, ih]; rfl
    obtain ⟨x2, s2, o2⟩ := new_node (k := .lst .o) (us := (List.range (x.2 - x.1).toNat).map fun (i : Nat) => T.s (.int (x.1 + (i : Int)))) rfl x1 s (satL_iff.mpr fun u hu => by
      obtain ⟨i, _, rfl⟩ := List.mem_map.mp hu
      trivial) hown hq
    refine k (.n (.lst .o) q _) _ ?_ (x1.trans x2) s2 o2
    rw [T.er, erL_map, List.map_map]
    rfl
  · cases hm
end
end Ow

namespace Ow
open PySem L2

/-! ### targets -/
inductive Tg where
  | nm (j : Nat)
  | tp (gs : List Tg)
mutual
def gOf (K : PySem.W.Frag) : Tg → TG
  | .nm j => gName j
  | .tp gs => gTup K gs.length (gsOf K gs)
def gsOf (K : PySem.W.Frag) : List Tg → TGs
  | [] => gNil
  | g :: gs => gCons (gOf K g) (gsOf K gs)
end
mutual
def bD : Tg → D → Env → Option Env
  | .nm j, d, env => some (env.set j (some d))
  | .tp gs, .n .tup ds, env => if ds.length = gs.length then bDs gs ds env else none
  | .tp _, _, _ => none
def bDs : List Tg → List D → Env → Option Env
  | [], [], env => some env
  | g :: gs, d :: ds, env => (bD g d env).bind fun env' => bDs gs ds env'
  | _, _, _ => none
end
mutual
@[simp] def Tg.sl : Tg → List Nat
  | .nm j => [j]
  | .tp gs => slL gs
@[simp] def slL : List Tg → List Nat
  | [] => []
  | g :: gs => g.sl ++ slL gs
end
theorem bD_tp {gs : List Tg} {d : D} {env e' : Env} (h : bD (.tp gs) d env = some e') : ∃ ds, d = .n .tup ds ∧ ds.length = gs.length ∧ bDs gs ds env = some e' := by
  match d, h with
  | .n .tup ds, h =>
    rw [bD] at h
    split at h
    · exact ⟨ds, rfl, by assumption, h⟩
    · cases h
  | .s _, h => simp [bD] at h
  | .n (.lst _) _, h => simp [bD] at h
  | .n (.dic _ _) _, h => simp [bD] at h
  | .n (.dct _ _) _, h => simp [bD] at h
/-- what a binding leaves -/
structure Bnd (K : PySem.W.Frag) (H : Hp) (σ : L2.St) (env : TEnv) (c u : Addr → Nat) (sl : List Nat) (e' : Env) (σ' : L2.St) (env' : TEnv) : Prop where
  er : erE env' = e'
  rel : Rel σ' env'
  len : σ'.length = σ.length
  out : ∀ i, i ∉ sl → σ'[i]? = σ[i]? ∧ env'[i]? = env[i]?
  co : ∀ a, coE a env' ≤ c a + coE a env
  cu : ∀ a, cuE a env' ≤ u a + cuE a env
  sat : ∀ t, some t ∈ env' → some t ∈ env ∨ t.sat K H
section
variable {K : PySem.W.Frag} {H : Hp}
theorem set_co {env : TEnv} {j : Nat} {t : T} {a : Addr} : coE a (env.set j (some t)) ≤ t.co a + coE a env := by
  cases h : env[j]? with
  | none =>
    rw [List.getElem?_eq_none_iff] at h
    rw [List.set_eq_of_length_le h]; omega
  | some x =>
    have := coE_set (a := a) (some t) h
    have e : oT (T.co a) (some t) = t.co a := rfl
    omega
theorem set_cu {env : TEnv} {j : Nat} {t : T} {a : Addr} : cuE a (env.set j (some t)) ≤ t.cu a + cuE a env := by
  cases h : env[j]? with
  | none =>
    rw [List.getElem?_eq_none_iff] at h
    rw [List.set_eq_of_length_le h]; omega
  | some x =>
    have := cuE_set (a := a) (some t) h
    have e : oT (T.cu a) (some t) = t.cu a := rfl
    omega
mutual
theorem g_run : ∀ (g : Tg) (t : T) (σ : L2.St) (env : TEnv) (e' : Env) (Q : L2.St → Hp → Prop), Rel σ env → t.sat K H → bD g t.er (erE env) = some e' →
    (∀ σ' env', Bnd K H σ env (fun a => t.co a) (fun a => t.cu a) g.sl e' σ' env' → Q σ' H) → gOf K g t.val σ H Q
  | .nm j, t, σ, env, e', Q, r, s, h, k => by
    rw [bD] at h
    cases h
    rw [gOf]
    refine k (σ.set j (some t.val)) (env.set j (some t)) ⟨erE_set, r.set, List.length_set, fun i hi => ?_, fun a => set_co, fun a => set_cu, fun u hu => ?_⟩
    · have e : j ≠ i := fun z => hi (by rw [Tg.sl, z]; simp)
      rw [List.getElem?_set, if_neg e, List.getElem?_set, if_neg e]
      exact ⟨rfl, rfl⟩
    · rcases List.mem_or_eq_of_mem_set hu with q | q
      · exact .inl q
      · cases q
        exact .inr s
  | .tp gs, t, σ, env, e', Q, r, s, h, k => by
    obtain ⟨ds, he, hl, h⟩ := bD_tp h
    obtain ⟨a, ts, f1, f2, f3, f4, f5, f6⟩ := rdT s he
    rw [gOf, f1]
    rw [← f2] at h hl
    refine ⟨a, vals ts, rfl, f3, by rw [List.length_map, ← erL_length, hl], gs_run gs ts σ env e' Q r f4 h fun σ' env' b => ?_⟩
    exact k σ' env' ⟨b.er, b.rel, b.len, b.out, fun z => Nat.le_trans (b.co z) (Nat.add_le_add_right (f5 z) _), fun z => Nat.le_trans (b.cu z) (Nat.add_le_add_right (f6 z) _), b.sat⟩
  termination_by g => sizeOf g
  decreasing_by all_goals (simp_wf <;> omega)
theorem gs_run : ∀ (gs : List Tg) (ts : List T) (σ : L2.St) (env : TEnv) (e' : Env) (Q : L2.St → Hp → Prop), Rel σ env → satL K H ts → bDs gs (erL ts) (erE env) = some e' →
    (∀ σ' env', Bnd K H σ env (fun a => coL a ts) (fun a => cuL a ts) (slL gs) e' σ' env' → Q σ' H) → gsOf K gs (vals ts) σ H Q
  | [], [], σ, env, e', Q, r, s, h, k => by
    rw [erL, bDs] at h
    cases h
    rw [gsOf]
    exact ⟨rfl, k σ env ⟨rfl, r, rfl, fun _ _ => ⟨rfl, rfl⟩, fun a => by rw [coL]; omega, fun a => by rw [cuL]; omega, fun t ht => .inl ht⟩⟩
  | [], t :: ts, σ, env, e', Q, r, s, h, k => by simp [erL, bDs] at h
  | g :: gs, [], σ, env, e', Q, r, s, h, k => by simp [erL, bDs] at h
  | g :: gs, t :: ts, σ, env, e', Q, r, s, h, k => by
    rw [erL, bDs] at h
    obtain ⟨e1, h1, h2⟩ := bind_some h
    rw [gsOf]
    refine ⟨t.val, vals ts, rfl, g_run g t σ env e1 _ r s.1 h1 fun σ1 env1 b1 => ?_⟩
    refine gs_run gs ts σ1 env1 e' Q b1.rel s.2 (by rw [b1.er]; exact h2) fun σ2 env2 b2 => ?_
    refine k σ2 env2 ⟨b2.er, b2.rel, b2.len.trans b1.len, fun i hi => ?_, fun a => ?_, fun a => ?_, fun u hu => ?_⟩
    · rw [slL, List.mem_append] at hi
      have x1 := b1.out i (fun z => hi (.inl z))
      have x2 := b2.out i (fun z => hi (.inr z))
      exact ⟨x2.1.trans x1.1, x2.2.trans x1.2⟩
    · have x1 := b1.co a
      have x2 := b2.co a
      rw [coL]; omega
    · have x1 := b1.cu a
      have x2 := b2.cu a
      rw [cuL]; omega
    · rcases b2.sat u hu with q | q
      · exact b1.sat u q
      · exact .inr q
  termination_by gs => sizeOf gs
  decreasing_by all_goals (simp_wf <;> omega)
end
end
def SG (X : Cx) (tg : Expr) (g : Tg) : Prop := PG X tg (gOf X.K g)
def SGs (X : Cx) (ts : List Expr) (gs : List Tg) : Prop := PGs X ts (gsOf X.K gs)
section
variable {X : Cx} {pos : Pos} {e : Expr} {es : List Expr}
theorem sg_name {x : Str} (j : Nat) (hN : X.N.Nodup) (hi : X.N[j]? = some x := by rfl) (hx : Loc X.env.scope x := by first | exact .inl rfl | exact .inr rfl) (hf : X.fn x = true ∨ X.env.scope.names.lookup x = some .local := by first | exact .inl rfl | exact .inr rfl | assumption) :
    SG X (.Name x pos) (.nm j) := by
  unfold SG
  rw [gOf]
  exact pg_name hN hi hx hf
theorem sg_tup {k : Nat} {gs : List Tg} (hc : X.calm = true) (h : SGs X es gs) (hn : (assignEach es X.env).length = gs.length := by rfl) (hst : (assignEach es X.env).findIdx? (·.1) = none := by rfl) : SG X (.Tuple es k pos) (.tp gs) := by
  unfold SG
  rw [gOf]
  exact pg_tup hc h hn hst
theorem sgs_nil : SGs X [] [] := by
  unfold SGs
  rw [gsOf]
  exact pgs_nil
theorem sgs_cons {g : Tg} {gs : List Tg} (h1 : SG X e g) (h2 : SGs X es gs) (hs : (assignEach (e :: es) X.env).map (·.2) = assign e X.env :: (assignEach es X.env).map (·.2) := by rfl) : SGs X (e :: es) (g :: gs) := by
  unfold SGs
  rw [gsOf]
  exact pgs_cons h1 h2 hs
end

/-! ### what is walked -/
structure Wk (K : PySem.W.Frag) (J : It) (src : List T) (ds : List D) : Prop where
  stop : ∀ i H, satL K H src → ds.length ≤ i → J.stop i H
  go : ∀ i H, satL K H src → i < ds.length → J.go i H
  yld : ∀ i H x H', satL K H src → J.yld i H x H' → ∀ d, ds[i]? = some d → ∃ t : T, t.val = x ∧ t.er = d ∧ Ex H H' ∧ t.sat K H' ∧ (∀ a, 0 < t.co a → 0 < coL a src) ∧ (∀ a, 0 < t.cu a → 0 < cuL a src ∨ H a = none)
def trI (K : PySem.W.Frag) (m : LM) : TI := fun σ H R => ∃ env ds, m (erE env) = some ds ∧ Rel σ env ∧ SatE K H env ∧ ∀ J src H1, Ex H H1 → satL K H1 src → BorL H env src → Wk K J src ds → R J H1
def trJ (K : PySem.W.Frag) (m : LM) : TI := fun σ H R => ∃ env ds, m (erE env) = some ds ∧ Rel σ env ∧ SatE K H env ∧ ∀ J src H1, Ex H H1 → satL K H1 src → OwnL H env src → Wk K J src ds → R J H1
def SI (X : Cx) (tg e : Expr) (m : LM) : Prop := PI X tg e (trI X.K m)
def SJ (X : Cx) (tg e : Expr) (m : LM) : Prop := PI X tg e (trJ X.K m)
theorem PI.weak {X : Cx} {tg e : Expr} {t u : TI} (h : PI X tg e t) (w : ∀ σ H Q, u σ H Q → t σ H Q) : PI X tg e u := ⟨fun pins s σ H Q I z => h.run pins s σ H Q I (w σ H Q z)⟩
def asL : D → Option (List D)
  | .n (.lst _) ds => some ds
  | _ => none
@[simp] theorem asL_c0 {ds : List D} {o : Fl} : asL (.n (.lst o) ds) = some ds := rfl
def asT : D → Option (List D)
  | .n .tup ds => some ds
  | _ => none
@[simp] theorem asT_c0 {ds : List D} : asT (.n .tup ds) = some ds := rfl
theorem asL_some {d : D} {ds : List D} (h : asL d = some ds) : ∃ o, d = .n (.lst o) ds := by
  unfold asL at h
  split at h
  · cases h; exact ⟨_, rfl⟩
  · cases h
theorem asT_some {d : D} {ds : List D} (h : asT d = some ds) : d = .n .tup ds := by
  unfold asT at h
  split at h
  · cases h; rfl
  · cases h
section
variable {K : PySem.W.Frag}
theorem er_at {ts : List T} {ds : List D} {i : Nat} {d : D} (e : erL ts = ds) (h : ds[i]? = some d) : ∃ t, ts[i]? = some t ∧ t.er = d := by
  rw [← e, erL_map, List.getElem?_map] at h
  obtain ⟨t, h1, h2⟩ := map_some h
  exact ⟨t, h1, h2⟩
def T.kids : T → List T
  | .s _ => []
  | .n _ _ ts => ts
  | .w _ _ _ ts => ts
theorem rdLk {t : T} {H : Hp} {o : Fl} {ds : List D} (hs : t.sat K H) (he : t.er = .n (.lst o) ds) : ∃ a, t.val = .ref a ∧ erL t.kids = ds ∧ SqL K H a (vals t.kids) ∧ satL K H t.kids ∧ (∀ b, coL b t.kids ≤ t.co b) ∧ (∀ b, cuL b t.kids ≤ t.cu b) := by
  cases t with
  | s v => rw [T.er] at he; cases he
  | n k a ts =>
    rw [T.er] at he
    cases he
    exact ⟨a, rfl, rfl, .inl (.inl hs.1.1), hs.2, fun b => by rw [T.co, T.kids]; omega, fun b => by rw [T.cu, T.kids]; omega⟩
  | w z k a ts =>
    rw [T.er] at he
    cases k with
    | lst o' =>
      cases he
      refine ⟨a, rfl, rfl, ?_, hs.2, fun b => by rw [T.co, T.kids]; omega, fun b => by rw [T.cu, T.kids]; omega⟩
      cases z with
      | true => exact sql_up hs.1
      | false => exact .inl (.inr hs.1)
    | tup => cases he
    | dic _ _ => cases he
    | dct _ _ => cases he
theorem rdTk {t : T} {H : Hp} {ds : List D} (hs : t.sat K H) (he : t.er = .n .tup ds) : ∃ a, t.val = .ref a ∧ erL t.kids = ds ∧ SqT K H a (vals t.kids) ∧ satL K H t.kids ∧ (∀ b, coL b t.kids ≤ t.co b) ∧ (∀ b, cuL b t.kids ≤ t.cu b) := by
  cases t with
  | s v => rw [T.er] at he; cases he
  | n k a ts =>
    rw [T.er] at he
    cases he
    exact ⟨a, rfl, rfl, .inl (.inl hs.1.1), hs.2, fun b => by rw [T.co, T.kids]; omega, fun b => by rw [T.cu, T.kids]; omega⟩
  | w z k a ts =>
    rw [T.er] at he
    cases k with
    | tup =>
      cases he
      refine ⟨a, rfl, rfl, ?_, hs.2, fun b => by rw [T.co, T.kids]; omega, fun b => by rw [T.cu, T.kids]; omega⟩
      cases z with
      | true => exact sqt_up hs.1
      | false => exact .inl (.inr hs.1)
    | lst _ => cases he
    | dic _ _ => cases he
    | dct _ _ => cases he
theorem sat_at {H : Hp} {ts : List T} {i : Nat} {t : T} (h : satL K H ts) (g : ts[i]? = some t) : t.sat K H := satL_iff.mp h t (List.mem_of_getElem? g)
theorem vals_at {ts : List T} {i : Nat} {t : T} (g : ts[i]? = some t) : (vals ts)[i]? = some t.val := by rw [vals, List.getElem?_map, g]; rfl
theorem co1 {t : T} {a : Addr} : coL a [t] = t.co a := by rw [coL, coL, Nat.add_zero]
theorem cu1 {t : T} {a : Addr} : cuL a [t] = t.cu a := by rw [cuL, cuL, Nat.add_zero]
theorem wk_list {t : T} {H0 : Hp} {o : Fl} {ds : List D} (hs0 : t.sat K H0) (e : t.er = .n (.lst o) ds) : ∃ a, t.val = .ref a ∧ SqL K H0 a (vals t.kids) ∧ Wk K (Itl K a) [t] ds := by
  obtain ⟨a, f1, f2, f3, _, f5, f6⟩ := rdLk hs0 e
  have key : ∀ H, satL K H [t] → SqL K H a (vals t.kids) ∧ satL K H t.kids := fun H hs => by
    obtain ⟨a', g1, g2, g3, g4, _⟩ := rdLk hs.1 e
    rw [f1] at g1
    cases g1
    exact ⟨g3, g4⟩
  have hl : ds.length = (vals t.kids).length := by rw [List.length_map, len_er f2]
  refine ⟨a, f1, f3, fun i H hs hi => ⟨_, (key H hs).1, by rw [← hl]; exact hi⟩, fun i H hs hi => ?_, fun i H x H' hs y d hd => ?_⟩
  · obtain ⟨u, hu, _⟩ := er_at f2 (List.getElem?_eq_getElem hi)
    exact ⟨_, u.val, (key H hs).1, vals_at hu⟩
  · obtain ⟨rfl, y⟩ := y
    obtain ⟨u, hu, he⟩ := er_at f2 hd
    have q := y _ (key _ hs).1
    rw [vals_at hu] at q
    cases q
    have hm := List.mem_of_getElem? hu
    refine ⟨u, rfl, he, Evl.Ex.refl _, sat_at (key _ hs).2 hu, fun b hb => ?_, fun b hb => .inl ?_⟩
    · rw [co1]; exact Nat.lt_of_lt_of_le hb (Nat.le_trans (coL_mem hm) (f5 b))
    · rw [cu1]; exact Nat.lt_of_lt_of_le hb (Nat.le_trans (cuL_mem hm) (f6 b))
theorem wk_tup {t : T} {H0 : Hp} {ds : List D} (hs0 : t.sat K H0) (e : t.er = .n .tup ds) : ∃ a, t.val = .ref a ∧ SqT K H0 a (vals t.kids) ∧ Wk K (Itt K a) [t] ds := by
  obtain ⟨a, f1, f2, f3, _, f5, f6⟩ := rdTk hs0 e
  have key : ∀ H, satL K H [t] → SqT K H a (vals t.kids) ∧ satL K H t.kids := fun H hs => by
    obtain ⟨a', g1, g2, g3, g4, _⟩ := rdTk hs.1 e
    rw [f1] at g1
    cases g1
    exact ⟨g3, g4⟩
  have hl : ds.length = (vals t.kids).length := by rw [List.length_map, len_er f2]
  refine ⟨a, f1, f3, fun i H hs hi => ⟨_, (key H hs).1, by rw [← hl]; exact hi⟩, fun i H hs hi => ?_, fun i H x H' hs y d hd => ?_⟩
  · obtain ⟨u, hu, _⟩ := er_at f2 (List.getElem?_eq_getElem hi)
    exact ⟨_, u.val, (key H hs).1, vals_at hu⟩
  · obtain ⟨rfl, y⟩ := y
    obtain ⟨u, hu, he⟩ := er_at f2 hd
    have q := y _ (key _ hs).1
    rw [vals_at hu] at q
    cases q
    have hm := List.mem_of_getElem? hu
    refine ⟨u, rfl, he, Evl.Ex.refl _, sat_at (key _ hs).2 hu, fun b hb => ?_, fun b hb => .inl ?_⟩
    · rw [co1]; exact Nat.lt_of_lt_of_le hb (Nat.le_trans (coL_mem hm) (f5 b))
    · rw [cu1]; exact Nat.lt_of_lt_of_le hb (Nat.le_trans (cuL_mem hm) (f6 b))
def rgDn (lo : Int) (n : Nat) : List D := (List.range n).map fun (i : Nat) => D.s (.int (lo + (i : Int)))
theorem wk_range {lo : Int} {n : Nat} : Wk K (Itr lo n) [] (rgDn lo n) := by
  have hl : (rgDn lo n).length = n := by rw [rgDn, List.length_map, List.length_range]
  refine ⟨fun i H _ hi => by rw [hl] at hi; exact hi, fun i H _ hi => by rw [hl] at hi; exact hi, fun i H x H' _ y d hd => ?_⟩
  obtain ⟨rfl, rfl⟩ := y
  rw [rgDn, List.getElem?_map] at hd
  obtain ⟨j, h1, rfl⟩ := map_some hd
  have hj : j = i := by
    obtain ⟨hi, e⟩ := List.getElem?_eq_some_iff.mp h1
    rw [List.getElem_range] at e
    exact e.symm
  subst hj
  exact ⟨.s (.int (lo + (j : Int))), rfl, rfl, Evl.Ex.refl _, trivial, fun b hb => by rw [T.co] at hb; omega, fun b hb => by rw [T.cu] at hb; omega⟩
/-- a new pair over what stands -/
theorem pair_new {H : Hp} {p : Addr} {t u : T} (hp : H p = none) (s1 : t.sat K H) (s2 : u.sat K H) : Ex H (upd H p (.tup [t.val, u.val])) ∧ (T.n .tup p [t, u]).sat K (upd H p (.tup [t.val, u.val])) := by
  have e : Ex H (upd H p (.tup [t.val, u.val])) := Evl.Ex.new hp
  exact ⟨e, ⟨upd_same, rfl⟩, sat_ex e s1, sat_ex e s2, trivial⟩
theorem wk_zip {t u : T} {H0 : Hp} {o o' : Fl} {ds es : List D} (hs0 : t.sat K H0) (e : t.er = .n (.lst o) ds) (hs1 : u.sat K H0) (e' : u.er = .n (.lst o') es) :
    ∃ a b, t.val = .ref a ∧ u.val = .ref b ∧ SqL K H0 a (vals t.kids) ∧ SqL K H0 b (vals u.kids) ∧ Wk K (Itz K a b) [t, u] (List.zipWith (fun x y => D.n .tup [x, y]) ds es) := by
  obtain ⟨a, f1, f2, f3, _, f5, f6⟩ := rdLk hs0 e
  obtain ⟨b, g1, g2, g3, _, g5, g6⟩ := rdLk hs1 e'
  have key : ∀ H, satL K H [t, u] → (SqL K H a (vals t.kids) ∧ satL K H t.kids) ∧ SqL K H b (vals u.kids) ∧ satL K H u.kids := fun H hs => by
    obtain ⟨a', h1, h2, h3, h4, _⟩ := rdLk hs.1 e
    obtain ⟨b', k1, k2, k3, k4, _⟩ := rdLk hs.2.1 e'
    rw [f1] at h1
    rw [g1] at k1
    cases h1
    cases k1
    exact ⟨⟨h3, h4⟩, k3, k4⟩
  have l1 : ds.length = (vals t.kids).length := by rw [List.length_map, len_er f2]
  have l2 : es.length = (vals u.kids).length := by rw [List.length_map, len_er g2]
  refine ⟨a, b, f1, g1, f3, g3, fun i H hs hi => ⟨_, _, (key H hs).1.1, (key H hs).2.1, ?_⟩, fun i H hs hi => ?_, fun i H x H' hs y d hd => ?_⟩
  · rw [List.length_zipWith] at hi; omega
  · rw [List.length_zipWith] at hi
    obtain ⟨v, hv, _⟩ := er_at f2 (List.getElem?_eq_getElem (show i < ds.length by omega))
    obtain ⟨w, hw, _⟩ := er_at g2 (List.getElem?_eq_getElem (show i < es.length by omega))
    exact ⟨_, _, v.val, w.val, (key H hs).1.1, (key H hs).2.1, vals_at hv, vals_at hw⟩
  · obtain ⟨p, x1, y1, rfl, hp, rfl, z1, z2⟩ := y
    rw [List.getElem?_zipWith] at hd
    cases c1 : ds[i]? with
    | none => rw [c1] at hd; cases hd
    | some d1 =>
      cases c2 : es[i]? with
      | none => rw [c1, c2] at hd; cases hd
      | some d2 =>
        rw [c1, c2] at hd
        cases hd
        obtain ⟨v, hv, ev⟩ := er_at f2 c1
        obtain ⟨w, hw, ew⟩ := er_at g2 c2
        have q1 := z1 _ (key _ hs).1.1
        have q2 := z2 _ (key _ hs).2.1
        rw [vals_at hv] at q1
        rw [vals_at hw] at q2
        cases q1
        cases q2
        obtain ⟨x3, s3⟩ := pair_new (K := K) hp (sat_at (key _ hs).1.2 hv) (sat_at (key _ hs).2.2 hw)
        have m1 := List.mem_of_getElem? hv
        have m2 := List.mem_of_getElem? hw
        refine ⟨.n .tup p [v, w], rfl, by rw [T.er, erL, erL, erL, ev, ew], x3, s3, fun c hc => ?_, fun c hc => ?_⟩
        · have n1 := Nat.le_trans (coL_mem (a := c) m1) (f5 c)
          have n2 := Nat.le_trans (coL_mem (a := c) m2) (g5 c)
          simp only [T.co, coL, Kd.own, Bool.false_eq_true, false_and, if_false] at hc ⊢
          omega
        · have n1 := Nat.le_trans (cuL_mem (a := c) m1) (f6 c)
          have n2 := Nat.le_trans (cuL_mem (a := c) m2) (g6 c)
          by_cases q : p = c
          · subst q
            exact .inr hp
          · simp only [T.cu, cuL, q, and_false, if_false] at hc ⊢
            exact .inl (by omega)
def enD : Nat → List D → List D
  | _, [] => []
  | i, d :: ds => .n .tup [.s (.int (i : Int)), d] :: enD (i + 1) ds
theorem enD_at : ∀ {ds : List D} {k i : Nat} {d : D}, (enD k ds)[i]? = some d → ∃ c, ds[i]? = some c ∧ d = .n .tup [.s (.int ((k + i : Nat) : Int)), c]
  | [], _, _, _, h => by simp [enD] at h
  | c :: ds, k, 0, d, h => by
    rw [enD] at h
    exact ⟨c, rfl, (Option.some.inj h).symm⟩
  | c :: ds, k, i + 1, d, h => by
    rw [enD, List.getElem?_cons_succ] at h
    obtain ⟨c', h1, h2⟩ := enD_at h
    refine ⟨c', h1, ?_⟩
    rw [h2, show k + 1 + i = k + (i + 1) by omega]
theorem enD_len : ∀ {ds : List D} {k : Nat}, (enD k ds).length = ds.length
  | [], _ => rfl
  | d :: ds, k => by rw [enD, List.length_cons, enD_len, List.length_cons]
theorem wk_enum {t : T} {H0 : Hp} {o : Fl} {ds : List D} (hs0 : t.sat K H0) (e : t.er = .n (.lst o) ds) : ∃ a, t.val = .ref a ∧ SqL K H0 a (vals t.kids) ∧ Wk K (Ite K a) [t] (enD 0 ds) := by
  obtain ⟨a, f1, f2, f3, _, f5, f6⟩ := rdLk hs0 e
  have key : ∀ H, satL K H [t] → SqL K H a (vals t.kids) ∧ satL K H t.kids := fun H hs => by
    obtain ⟨a', g1, g2, g3, g4, _⟩ := rdLk hs.1 e
    rw [f1] at g1
    cases g1
    exact ⟨g3, g4⟩
  have hl : ds.length = (vals t.kids).length := by rw [List.length_map, len_er f2]
  refine ⟨a, f1, f3, fun i H hs hi => ⟨_, (key H hs).1, by rw [← hl]; rw [enD_len] at hi; exact hi⟩, fun i H hs hi => ?_, fun i H x H' hs y d hd => ?_⟩
  · rw [enD_len] at hi
    obtain ⟨u, hu, _⟩ := er_at f2 (List.getElem?_eq_getElem hi)
    exact ⟨_, u.val, (key H hs).1, vals_at hu⟩
  · obtain ⟨p, x1, rfl, hp, rfl, z1⟩ := y
    obtain ⟨c, hc, rfl⟩ := enD_at hd
    obtain ⟨u, hu, he⟩ := er_at f2 hc
    have q := z1 _ (key _ hs).1
    rw [vals_at hu] at q
    cases q
    obtain ⟨x3, s3⟩ := pair_new (K := K) (t := .s (.int ((i : Nat) : Int))) hp trivial (sat_at (key _ hs).2 hu)
    have m1 := List.mem_of_getElem? hu
    refine ⟨.n .tup p [.s (.int ((i : Nat) : Int)), u], rfl, ?_, x3, s3, fun c hc => ?_, fun c hc => ?_⟩
    · rw [T.er, erL, erL, erL, he, T.er, Nat.zero_add]
      rfl
    · have n1 := Nat.le_trans (coL_mem (a := c) m1) (f5 c)
      simp only [T.co, coL, Kd.own, Bool.false_eq_true, false_and, if_false] at hc ⊢
      omega
    · have n1 := Nat.le_trans (cuL_mem (a := c) m1) (f6 c)
      by_cases q : p = c
      · subst q
        exact .inr hp
      · simp only [T.cu, cuL, q, and_false, if_false] at hc ⊢
        exact .inl (by omega)
end
end Ow

namespace Ow
open PySem L2

section
variable {X : Cx} {tg e a b : Expr} {es : List Expr} {m ma mb : PM} {ml : LM} {pos p tpos : Pos}
theorem bor1 {H : Hp} {env : TEnv} {t : T} (h : Bor H env t) : BorL H env [t] := fun a => by rw [co1, cu1]; exact h a
theorem own1 {H : Hp} {env : TEnv} {t : T} (h : Own H env t) : OwnL H env [t] := fun a => by rw [co1, cu1]; exact h a
@[simp] def wL (m : PM) : LM := fun env => (m env).bind asL
@[simp] def wT (m : PM) : LM := fun env => (m env).bind asT
theorem si_list (h : SB X e m) : SI X tg e (wL m) := PI.weak (pi_list h) fun σ H R ⟨env, ds, hm, r, s, k⟩ => by
  obtain ⟨d, hd, h1⟩ := bind_some hm
  obtain ⟨o, rfl⟩ := asL_some h1
  refine ⟨env, _, hd, r, s, fun t H1 e1 x1 s1 b1 => ?_⟩
  obtain ⟨a, f1, f2, w⟩ := wk_list s1 e1
  exact ⟨a, f1, ⟨_, f2⟩, k _ [t] H1 x1 ⟨s1, trivial⟩ (bor1 b1) w⟩
theorem sj_list (h : SP X e m) : SJ X tg e (wL m) := PI.weak (pi_list h) fun σ H R ⟨env, ds, hm, r, s, k⟩ => by
  obtain ⟨d, hd, h1⟩ := bind_some hm
  obtain ⟨o, rfl⟩ := asL_some h1
  refine ⟨env, _, hd, r, s, fun t H1 e1 x1 s1 b1 => ?_⟩
  obtain ⟨a, f1, f2, w⟩ := wk_list s1 e1
  exact ⟨a, f1, ⟨_, f2⟩, k _ [t] H1 x1 ⟨s1, trivial⟩ (own1 b1) w⟩
theorem si_tup (h : SB X e m) : SI X tg e (wT m) := PI.weak (pi_tup h) fun σ H R ⟨env, ds, hm, r, s, k⟩ => by
  obtain ⟨d, hd, h1⟩ := bind_some hm
  have h2 := asT_some h1
  subst h2
  refine ⟨env, _, hd, r, s, fun t H1 e1 x1 s1 b1 => ?_⟩
  obtain ⟨a, f1, f2, w⟩ := wk_tup s1 e1
  exact ⟨a, f1, ⟨_, f2⟩, k _ [t] H1 x1 ⟨s1, trivial⟩ (bor1 b1) w⟩
theorem sj_tup (h : SP X e m) : SJ X tg e (wT m) := PI.weak (pi_tup h) fun σ H R ⟨env, ds, hm, r, s, k⟩ => by
  obtain ⟨d, hd, h1⟩ := bind_some hm
  have h2 := asT_some h1
  subst h2
  refine ⟨env, _, hd, r, s, fun t H1 e1 x1 s1 b1 => ?_⟩
  obtain ⟨a, f1, f2, w⟩ := wk_tup s1 e1
  exact ⟨a, f1, ⟨_, f2⟩, k _ [t] H1 x1 ⟨s1, trivial⟩ (own1 b1) w⟩
@[simp] def wR (m : Env → Option (Int × Int)) : LM := fun env => (m env).bind fun r => if (decide (RgOk r.1 r.2)) = true then some (rgDn r.1 (r.2 - r.1).toNat) else none
@[simp] def a1 (m : PM) : LM := lCons m lNil
@[simp] def a2 (m n : PM) : LM := lCons m (lCons n lNil)
theorem i1_of {ts : List T} {d : D} {i : Int} (h : erL ts = [d]) (hi : toI d = some i) : vals ts = [.int i] := by
  obtain ⟨t, rfl, e⟩ := one_er h
  rw [toI_some hi] at e
  rw [er_int e]; rfl
theorem i2_of {ts : List T} {d c : D} {i j : Int} (h : erL ts = [d, c]) (hi : toI d = some i) (hj : toI c = some j) : vals ts = [.int i, .int j] := by
  obtain ⟨t, u, rfl, e, e'⟩ := two_er h
  rw [toI_some hi] at e
  rw [toI_some hj] at e'
  rw [er_int e, er_int e']; rfl
theorem wk_weak_range {K : PySem.W.Frag} {lo hi : Int} {n : Nat} (h : n = (hi - lo).toNat) : Wk K (Itr lo n) [] (rgDn lo (hi - lo).toNat) := by
  rw [← h]; exact wk_range
theorem range1_rd {K : PySem.W.Frag} {σ : L2.St} {H : Hp} {R : It → Hp → Prop} {own : Bool} (env : TEnv) (ds : List D) (hm : wR (rg1 ma) (erE env) = some ds) (r : Rel σ env) (s : SatE K H env)
    (k : ∀ J H1, Ex H H1 → Wk K J [] ds → R J H1) : iRng1 (trBA K (lCons ma lNil)) σ H R := by
  obtain ⟨x, hx, hm⟩ := bind_some hm
  obtain ⟨n, hn, rfl⟩ := map_some hx
  obtain ⟨d, hd, hn⟩ := bind_some hn
  split at hm
  · rename_i hok
    have hok := of_decide_eq_true hok
    cases hm
    refine ⟨env, [d], ?_, r, s, fun ts H1 e1 x1 s1 b1 => ⟨n, i1_of e1 hn, hok.2.2.1, hok.2.2.2.1, k _ H1 x1 (wk_weak_range (by simp))⟩⟩
    rw [lCons, hd]; rfl
  · cases hm
theorem si_range1 (hm : X.mg "range" = none) (ha : SB X a ma) (hg : Gl X "range" := by rfl) (hp : starEach [a] X.env = (false, eval a X.env) :: starEach [] X.env := by rfl) (hs : starEach [a] X.env = [(false, eval a X.env)] := by rfl) : SI X tg (.Call (.Name "range" p) [a] [] pos) (wR (rg1 ma)) :=
  PI.weak (pi_range1 hg hm (sba_cons ha sba_nil hp) hs) fun σ H R ⟨env, ds, hm, r, s, k⟩ => range1_rd (own := true) env ds hm r s fun J H1 x1 w => k J [] H1 x1 trivial ownL_nil.bor w
theorem sj_range1 (hm : X.mg "range" = none) (ha : SB X a ma) (hg : Gl X "range" := by rfl) (hp : starEach [a] X.env = (false, eval a X.env) :: starEach [] X.env := by rfl) (hs : starEach [a] X.env = [(false, eval a X.env)] := by rfl) : SJ X tg (.Call (.Name "range" p) [a] [] pos) (wR (rg1 ma)) :=
  PI.weak (pi_range1 hg hm (sba_cons ha sba_nil hp) hs) fun σ H R ⟨env, ds, hm, r, s, k⟩ => range1_rd (own := true) env ds hm r s fun J H1 x1 w => k J [] H1 x1 trivial ownL_nil w
theorem range2_rd {K : PySem.W.Frag} {σ : L2.St} {H : Hp} {R : It → Hp → Prop} (env : TEnv) (ds : List D) (hm : wR (rg2 ma mb) (erE env) = some ds) (r : Rel σ env) (s : SatE K H env)
    (k : ∀ J H1, Ex H H1 → Wk K J [] ds → R J H1) : iRng2 (trBA K (lCons ma (lCons mb lNil))) σ H R := by
  obtain ⟨x, hx, hm⟩ := bind_some hm
  obtain ⟨i, hi, hx⟩ := bind_some hx
  obtain ⟨j, hj, rfl⟩ := map_some hx
  obtain ⟨d, hd, hi⟩ := bind_some hi
  obtain ⟨c, hc, hj⟩ := bind_some hj
  split at hm
  · rename_i hok
    have hok := of_decide_eq_true hok
    cases hm
    refine ⟨env, [d, c], ?_, r, s, fun ts H1 e1 x1 s1 b1 => ⟨i, j, i2_of e1 hi hj, ⟨hok.1, hok.2.1, hok.2.2.1, hok.2.2.2.1⟩, k _ H1 x1 wk_range⟩⟩
    rw [lCons, hd, lCons, hc]; rfl
  · cases hm
theorem si_range2 (hm : X.mg "range" = none) (ha : SB X a ma) (hb : SB X b mb) (hg : Gl X "range" := by rfl) (hp : starEach [a, b] X.env = (false, eval a X.env) :: starEach [b] X.env := by rfl) (hp2 : starEach [b] X.env = (false, eval b X.env) :: starEach [] X.env := by rfl)
    (hs : starEach [a, b] X.env = [(false, eval a X.env), (false, eval b X.env)] := by rfl) (hs2 : starEach [b] X.env = [(false, eval b X.env)] := by rfl) : SI X tg (.Call (.Name "range" p) [a, b] [] pos) (wR (rg2 ma mb)) :=
  PI.weak (pi_range2 hg hm (sba_cons ha (sba_cons hb sba_nil hp2) hp) hs hs2) fun σ H R ⟨env, ds, hm, r, s, k⟩ => range2_rd env ds hm r s fun J H1 x1 w => k J [] H1 x1 trivial ownL_nil.bor w
theorem sj_range2 (hm : X.mg "range" = none) (ha : SB X a ma) (hb : SB X b mb) (hg : Gl X "range" := by rfl) (hp : starEach [a, b] X.env = (false, eval a X.env) :: starEach [b] X.env := by rfl) (hp2 : starEach [b] X.env = (false, eval b X.env) :: starEach [] X.env := by rfl)
    (hs : starEach [a, b] X.env = [(false, eval a X.env), (false, eval b X.env)] := by rfl) (hs2 : starEach [b] X.env = [(false, eval b X.env)] := by rfl) : SJ X tg (.Call (.Name "range" p) [a, b] [] pos) (wR (rg2 ma mb)) :=
  PI.weak (pi_range2 hg hm (sba_cons ha (sba_cons hb sba_nil hp2) hp) hs hs2) fun σ H R ⟨env, ds, hm, r, s, k⟩ => range2_rd env ds hm r s fun J H1 x1 w => k J [] H1 x1 trivial ownL_nil w
@[simp] def wZ (m n : PM) : LM := fun env => (m env).bind fun x => (n env).bind fun y => (asL x).bind fun ds => (asL y).map fun es => List.zipWith (fun x y => D.n .tup [x, y]) ds es
@[simp] def wE (m : PM) : LM := fun env => (m env).bind fun x => (asL x).map (enD 0)
theorem si_zip {elts : List Expr} {kk : Nat} (hm : X.mg "zip" = none) (ha : SB X a ma) (hb : SB X b mb) (hg : Gl X "zip" := by rfl) (hs : starEach [a, b] X.env = (false, eval a X.env) :: starEach [b] X.env := by rfl) (hp2 : starEach [b] X.env = (false, eval b X.env) :: starEach [] X.env := by rfl)
    (hpl : (backTo pos (starEach [b] X.env)).any (·.1) = false := by rfl) : SI X (.Tuple elts kk tpos) (.Call (.Name "zip" p) [a, b] [] pos) (wZ ma mb) :=
  PI.weak (pi_zip hg hm (sba_cons ha (sba_cons hb sba_nil hp2) hs) hs hpl) fun σ H R ⟨env, ds, hm, r, s, k⟩ => by
    obtain ⟨x, hx, hm⟩ := bind_some hm
    obtain ⟨y, hy, hm⟩ := bind_some hm
    obtain ⟨xs, h1, hm⟩ := bind_some hm
    obtain ⟨ys, h2, rfl⟩ := map_some hm
    obtain ⟨o, rfl⟩ := asL_some h1
    obtain ⟨o', rfl⟩ := asL_some h2
    refine ⟨env, [_, _], by rw [lCons, hx, lCons, hy]; rfl, r, s, fun ts H1 e1 x1 s1 b1 => ?_⟩
    obtain ⟨t, u, rfl, et, eu⟩ := two_er e1
    obtain ⟨a, b, f1, f2, f3, f4, w⟩ := wk_zip s1.1 et s1.2.1 eu
    exact ⟨a, b, _, _, by rw [vals, List.map_cons, List.map_cons, f1, f2]; rfl, f3, f4, k _ [t, u] H1 x1 s1 b1 w⟩
theorem si_enum {elts : List Expr} {kk : Nat} (hm : X.mg "enumerate" = none) (ha : SB X a ma) (hg : Gl X "enumerate" := by rfl) (hp : starEach [a] X.env = (false, eval a X.env) :: starEach [] X.env := by rfl) (hs : starEach [a] X.env = [(false, eval a X.env)] := by rfl) :
    SI X (.Tuple elts kk tpos) (.Call (.Name "enumerate" p) [a] [] pos) (wE ma) :=
  PI.weak (pi_enum hg hm (sba_cons ha sba_nil hp) hs) fun σ H R ⟨env, ds, hm, r, s, k⟩ => by
    obtain ⟨x, hx, hm⟩ := bind_some hm
    obtain ⟨xs, h1, rfl⟩ := map_some hm
    obtain ⟨o, rfl⟩ := asL_some h1
    refine ⟨env, [_], by rw [lCons, hx]; rfl, r, s, fun ts H1 e1 x1 s1 b1 => ?_⟩
    obtain ⟨t, rfl, et⟩ := one_er e1
    obtain ⟨a, f1, f2, w⟩ := wk_enum s1.1 et
    exact ⟨a, _, by rw [vals, List.map_cons, f1]; rfl, f2, k _ [t] H1 x1 s1 b1 w⟩
/-- the same, what is walked being at hand alone -/
theorem sj_enum {elts : List Expr} {kk : Nat} (hm : X.mg "enumerate" = none) (ha : SP X a ma) (hg : Gl X "enumerate" := by rfl) (hp : starEach [a] X.env = (false, eval a X.env) :: starEach [] X.env := by rfl) (hs : starEach [a] X.env = [(false, eval a X.env)] := by rfl) :
    SJ X (.Tuple elts kk tpos) (.Call (.Name "enumerate" p) [a] [] pos) (wE ma) :=
  PI.weak (pi_enum hg hm (spa_cons ha spa_nil hp) hs) fun σ H R ⟨env, ds, hm, r, s, k⟩ => by
    obtain ⟨x, hx, hm⟩ := bind_some hm
    obtain ⟨xs, h1, rfl⟩ := map_some hm
    obtain ⟨o, rfl⟩ := asL_some h1
    refine ⟨env, [_], by rw [lCons, hx]; rfl, r, s, fun ts H1 e1 x1 s1 b1 => ?_⟩
    obtain ⟨t, rfl, et⟩ := one_er e1
    obtain ⟨a, f1, f2, w⟩ := wk_enum s1.1 et
    exact ⟨a, _, by rw [vals, List.map_cons, f1]; rfl, f2, k _ [t] H1 x1 s1 b1 w⟩
theorem sj_zip {elts : List Expr} {kk : Nat} (hm : X.mg "zip" = none) (ha : SP X a ma) (hb : SP X b mb) (hg : Gl X "zip" := by rfl) (hs : starEach [a, b] X.env = (false, eval a X.env) :: starEach [b] X.env := by rfl) (hp2 : starEach [b] X.env = (false, eval b X.env) :: starEach [] X.env := by rfl)
    (hpl : (backTo pos (starEach [b] X.env)).any (·.1) = false := by rfl) : SJ X (.Tuple elts kk tpos) (.Call (.Name "zip" p) [a, b] [] pos) (wZ ma mb) :=
  PI.weak (pi_zip hg hm (spa_cons ha (spa_cons hb spa_nil hp2) hs) hs hpl) fun σ H R ⟨env, ds, hm, r, s, k⟩ => by
    obtain ⟨x, hx, hm⟩ := bind_some hm
    obtain ⟨y, hy, hm⟩ := bind_some hm
    obtain ⟨xs, h1, hm⟩ := bind_some hm
    obtain ⟨ys, h2, rfl⟩ := map_some hm
    obtain ⟨o, rfl⟩ := asL_some h1
    obtain ⟨o', rfl⟩ := asL_some h2
    refine ⟨env, [_, _], by rw [lCons, hx, lCons, hy]; rfl, r, s, fun ts H1 e1 x1 s1 b1 => ?_⟩
    obtain ⟨t, u, rfl, et, eu⟩ := two_er e1
    obtain ⟨a, b, f1, f2, f3, f4, w⟩ := wk_zip s1.1 et s1.2.1 eu
    exact ⟨a, b, _, _, by rw [vals, List.map_cons, List.map_cons, f1, f2]; rfl, f3, f4, k _ [t, u] H1 x1 s1 b1 w⟩
end

/-! ### comprehensions -/
@[simp] def wipeD (env : Env) : List Nat → Env
  | [] => env
  | v :: vs => (wipeD env vs).set v none
def wipeT (env : TEnv) : List Nat → TEnv
  | [] => env
  | v :: vs => (wipeT env vs).set v none
def lcD (g : Tg) (mt : BM) (me : PM) (e0 : Env) : List D → Option (List D)
  | [] => some []
  | d :: ds => (bD g d e0).bind fun e1 => (mt e1).bind fun b => if b = true then (me e1).bind fun r => (lcD g mt me e0 ds).map (r :: ·) else lcD g mt me e0 ds
@[simp] def mLc (mi : LM) (g : Tg) (mt : BM) (me : PM) (vs : List Nat) : PM := fun env => (mi env).bind fun ds => if ds.length ≤ 16777216 then (lcD g mt me (wipeD env vs) ds).map fun rs => .n (.lst .o) rs else none
@[simp] def bYes : BM := fun _ => some true
section
variable {K : PySem.W.Frag} {H H1 H' : Hp} {σ : L2.St} {env : TEnv}
theorem wipe_er : ∀ vs : List Nat, erE (wipeT env vs) = wipeD (erE env) vs
  | [] => rfl
  | v :: vs => by rw [wipeT, erE_set, wipe_er vs]; rfl
theorem wipe_rel (r : Rel σ env) : ∀ vs : List Nat, Rel (wipe σ vs) (wipeT env vs)
  | [] => r
  | v :: vs => by
    have ih := wipe_rel r vs
    refine ⟨by rw [wipeT, wipe, List.length_set, List.length_set, ih.1], fun j u h => ?_⟩
    rw [wipeT, List.getElem?_set] at h
    rw [wipe, List.getElem?_set]
    by_cases e : v = j
    · subst e
      rw [if_pos rfl] at h
      split at h <;> cases h
    · rw [if_neg e] at h ⊢
      exact ih.2 j u h
theorem wipe_sat (s : SatE K H env) : ∀ vs : List Nat, SatE K H (wipeT env vs)
  | [] => s
  | v :: vs => SatE.set (wipe_sat s vs) fun t h => by cases h
theorem none_co {j : Nat} {a : Addr} : coE a (env.set j none) ≤ coE a env := by
  cases h : env[j]? with
  | none =>
    rw [List.getElem?_eq_none_iff] at h
    rw [List.set_eq_of_length_le h]; omega
  | some x =>
    have := coE_set (a := a) none h
    have e : oT (T.co a) none = 0 := rfl
    omega
theorem none_cu {j : Nat} {a : Addr} : cuE a (env.set j none) ≤ cuE a env := by
  cases h : env[j]? with
  | none =>
    rw [List.getElem?_eq_none_iff] at h
    rw [List.set_eq_of_length_le h]; omega
  | some x =>
    have := cuE_set (a := a) none h
    have e : oT (T.cu a) none = 0 := rfl
    omega
theorem wipe_co {a : Addr} : ∀ vs : List Nat, coE a (wipeT env vs) ≤ coE a env
  | [] => Nat.le_refl _
  | v :: vs => Nat.le_trans none_co (wipe_co vs)
theorem wipe_cu {a : Addr} : ∀ vs : List Nat, cuE a (wipeT env vs) ≤ cuE a env
  | [] => Nat.le_refl _
  | v :: vs => Nat.le_trans none_cu (wipe_cu vs)
theorem wipe_at {σ : L2.St} {i : Nat} : ∀ {vs : List Nat}, i ∈ vs → i < σ.length → (wipe σ vs)[i]? = some none
  | v :: vs, h, hl => by
    rw [wipe, List.getElem?_set]
    by_cases e : v = i
    · rw [if_pos e, if_pos (by rw [wipe_length]; omega)]
    · rw [if_neg e]
      rcases List.mem_cons.mp h with q | q
      · exact absurd q.symm e
      · exact wipe_at q hl
theorem wipe_out {σ : L2.St} {i : Nat} : ∀ {vs : List Nat}, i ∉ vs → (wipe σ vs)[i]? = σ[i]?
  | [], _ => rfl
  | v :: vs, h => by
    rw [wipe, List.getElem?_set, if_neg (fun z => h (by rw [z]; exact List.mem_cons_self ..))]
    exact wipe_out fun z => h (List.mem_cons_of_mem _ z)
theorem wipe_same {σ σ2 : L2.St} {vs sl : List Nat} (hl : σ2.length = (wipe σ vs).length) (ho : ∀ i, i ∉ sl → σ2[i]? = (wipe σ vs)[i]?) (hs : ∀ i ∈ sl, i ∈ vs) : wipe σ2 vs = wipe σ vs := by
  apply List.ext_getElem?
  intro i
  by_cases h : i ∈ vs
  · by_cases l : i < σ.length
    · rw [wipe_at h l, wipe_at h (by rw [hl, wipe_length]; exact l)]
    · rw [List.getElem?_eq_none (by rw [wipe_length, hl, wipe_length]; omega), List.getElem?_eq_none (by rw [wipe_length]; omega)]
  · rw [wipe_out h, ho i fun z => h (hs i z)]
/-- one more item behind what is made -/
theorem OwnL.snoc {eS : TEnv} {acc : List T} {t : T} (x1 : Ex H H1) (hs : SatE K H eS) (s1 : satL K H1 acc) (o1 : OwnL H eS acc) (s2 : t.sat K H') (o2 : Own H1 eS t) : OwnL H eS (acc ++ [t]) := fun a => by
  have h1 := o1 a
  have h2 := o2 a
  have c1 : 0 < coL a acc → H1 a ≠ none := fun z => coL_some acc s1 z
  have c2 : 0 < cuL a acc → H1 a ≠ none := fun z => cuL_some acc s1 z
  have c3 : 0 < cuE a eS → H a ≠ none := fun z => cuE_some hs z
  have c4 : H1 a = none → H a = none := Evl.fresh_back x1
  rw [coL_append, cuL_append, co1, cu1]
  by_cases q1 : H a = none
  · have n3 : cuE a eS = 0 := by
      rcases Nat.eq_zero_or_pos (cuE a eS) with z | z
      · exact z
      · exact absurd q1 (c3 z)
    by_cases q2 : H1 a = none
    · have n1 : coL a acc = 0 := by
        rcases Nat.eq_zero_or_pos (coL a acc) with z | z
        · exact z
        · exact absurd q2 (c1 z)
      have n2 : cuL a acc = 0 := by
        rcases Nat.eq_zero_or_pos (cuL a acc) with z | z
        · exact z
        · exact absurd q2 (c2 z)
      rw [n1, n2, Nat.zero_add, Nat.zero_add]
      exact ⟨h2.1, fun _ => q1, fun _ => .inr q1⟩
    · have n1 : t.co a = 0 := by
        rcases Nat.eq_zero_or_pos (t.co a) with z | z
        · exact z
        · exact absurd (h2.2.1 z) q2
      have n2 : t.cu a = 0 := by
        rcases Nat.eq_zero_or_pos (t.cu a) with z | z
        · exact z
        · rcases h2.2.2 z with z | z
          · omega
          · exact absurd z q2
      rw [n1, n2, Nat.add_zero, Nat.add_zero]
      exact ⟨h1.1, fun _ => q1, fun _ => .inr q1⟩
  · have n1 : coL a acc = 0 := by
      rcases Nat.eq_zero_or_pos (coL a acc) with z | z
      · exact z
      · exact absurd (h1.2.1 z) q1
    have n2 : t.co a = 0 := by
      rcases Nat.eq_zero_or_pos (t.co a) with z | z
      · exact z
      · exact absurd (c4 (h2.2.1 z)) q1
    rw [n1, n2]
    refine ⟨⟨by omega, .inl rfl⟩, fun z => absurd z (by omega), fun z => ?_⟩
    by_cases q : 0 < cuL a acc
    · exact h1.2.2 q
    · rcases h2.2.2 (by omega) with z | z
      · exact .inl z
      · exact .inr (c4 z)
theorem cuE_app {a : Addr} : ∀ {e1 e2 : TEnv}, cuE a (e1 ++ e2) = cuE a e1 + cuE a e2
  | [], e2 => by rw [List.nil_append, cuE, Nat.zero_add]
  | o :: e1, e2 => by rw [List.cons_append, cuE, cuE, cuE_app (e1 := e1)]; omega
theorem cuE_some_map {a : Addr} : ∀ {ts : List T}, cuE a (ts.map some) = cuL a ts
  | [] => rfl
  | t :: ts => by rw [List.map_cons, cuE, cuL, cuE_some_map (ts := ts)]; rfl
theorem lcD_drop {g : Tg} {mt : BM} {me : PM} {e0 : Env} {ds : List D} {i : Nat} {d : D} {r : List D} (hd : ds[i]? = some d) (h : lcD g mt me e0 (ds.drop i) = some r) :
    ∃ e1 b, bD g d e0 = some e1 ∧ mt e1 = some b ∧ ((b = true ∧ ∃ z r', me e1 = some z ∧ lcD g mt me e0 (ds.drop (i + 1)) = some r' ∧ r = z :: r') ∨ (b = false ∧ lcD g mt me e0 (ds.drop (i + 1)) = some r)) := by
  obtain ⟨hi, e⟩ := List.getElem?_eq_some_iff.mp hd
  rw [List.drop_eq_getElem_cons hi, e, lcD] at h
  obtain ⟨e1, h1, h⟩ := bind_some h
  obtain ⟨b, h2, h⟩ := bind_some h
  refine ⟨e1, b, h1, h2, ?_⟩
  cases b with
  | true =>
    rw [if_pos rfl] at h
    obtain ⟨z, h3, h⟩ := bind_some h
    obtain ⟨r', h4, rfl⟩ := map_some h
    exact .inl ⟨rfl, z, r', h3, h4, rfl⟩
  | false =>
    rw [if_neg Bool.false_ne_true] at h
    exact .inr ⟨rfl, h⟩
/-- what a comprehension holds behind i turns -/
structure LcW (K : PySem.W.Frag) (H H1 : Hp) (Dl : Addr) (env eS : TEnv) (src : List T) (g : Tg) (mt : BM) (me : PM) (e0 : Env) (ds rs : List D) (i m : Nat) (H' : Hp) : Prop where
  le : i ≤ ds.length
  ms : m = ds.length - i
  ex : Ex H1 H'
  acc : ∃ acc : List T, H' Dl = some (.lst (vals acc)) ∧ satL K H' acc ∧ OwnL H1 eS acc ∧ coL Dl acc = 0 ∧ cuL Dl acc = 0 ∧ acc.length ≤ i ∧ ∃ r, lcD g mt me e0 (ds.drop i) = some r ∧ rs = erL acc ++ r
end
section
variable {X : Cx} {elt tg iter : Expr} {ifs : List Expr} {scope : Scope} {own : List (Str × Nat)} {pos : Pos} {mi : LM} {g : Tg} {mt : BM} {me : PM}
def STs (X : Cx) (ifs : List Expr) (m : BM) : Prop := PTs X ifs (trT X.K m)
theorem PTs.weak {X : Cx} {ifs : List Expr} {t u : TT} (h : PTs X ifs t) (w : ∀ σ H Q, u σ H Q → t σ H Q) : PTs X ifs u := ⟨fun pins s σ H Q I z => h.run pins s σ H Q I (w σ H Q z)⟩
theorem sts_nil : STs X [] bYes := PTs.weak pts_nil fun σ H Q ⟨env, b, hm, r, s, k⟩ => by
  cases hm
  exact k H (Evl.Ex.refl H)
theorem sts_one {c : Expr} {m : BM} (h : ST X c m) : STs X [c] m := pts_one h
theorem lc_rd {K : PySem.W.Frag} {σ : L2.St} {H : Hp} {Q : VK} {vs : List Nat} (hsl : ∀ i ∈ g.sl, i ∈ vs) (h : trP K (mLc mi g mt me vs) σ H Q) : tLc (trI K mi) (gOf K g) (trT K mt) (trP K me) vs σ H Q := by
  obtain ⟨env, d, hm, r, s, k⟩ := h
  obtain ⟨ds, hi, hm⟩ := bind_some hm
  split at hm
  case isFalse => cases hm
  rename_i hlen
  obtain ⟨rs, hrs, rfl⟩ := map_some hm
  refine ⟨env, ds, hi, r, s, fun J src H1 x1 ss bs w Dl hD => ?_⟩
  rw [← wipe_er] at hrs
  -- what a turn rests on
  let eS : TEnv := wipeT env vs ++ src.map some
  have satS : SatE K H1 eS := fun t ht => by
    rcases List.mem_append.mp ht with q | q
    · exact (wipe_sat (s.ex x1) vs) t q
    · obtain ⟨u, hu, e⟩ := List.mem_map.mp q
      cases e
      exact satL_iff.mp ss _ hu
  refine ⟨LcW K H H1 Dl env eS src g mt me (erE (wipeT env vs)) ds rs, ⟨ds.length, ?_⟩, fun i m H2 W => ?_⟩
  · exact ⟨Nat.zero_le _, rfl, Evl.Ex.new hD, [], upd_same, trivial, ownL_nil, rfl, rfl, Nat.le_refl _, rs, hrs, rfl⟩
  obtain ⟨le, ms, ex, acc, hacc, sacc, oacc, n1, n2, lacc, rr, hrr, ers⟩ := W
  have ss2 : satL K H2 src := satL_ex ex ss
  by_cases hi2 : i < ds.length
  · refine .inr ⟨w.go i H2 ss2 hi2, fun H' => ∃ m', m' < m ∧ LcW K H H1 Dl env eS src g mt me (erE (wipeT env vs)) ds rs (i + 1) m' H', fun H' h => h, fun x H3 hy => ?_⟩
    have hd := List.getElem?_eq_getElem hi2
    obtain ⟨t, rfl, et, x3, s3, c3, u3⟩ := w.yld i H2 x H3 ss2 hy _ hd
    obtain ⟨e1, b, hb1, hb2, hb3⟩ := lcD_drop hd hrr
    rw [← et] at hb1
    have sw : SatE K H3 (wipeT env vs) := (wipe_sat ((s.ex x1).ex ex) vs).ex x3
    refine g_run g t (wipe σ vs) (wipeT env vs) e1 _ (wipe_rel r vs) s3 hb1 fun σ2 env2 B => ?_
    refine ⟨wipe_same B.len (fun i hi => (B.out i hi).1) hsl, ?_⟩
    have s2 : SatE K H3 env2 := fun u hu => by
      rcases B.sat u hu with q | q
      · exact sw u q
      · exact q
    have hl3 : H3 Dl = some (.lst (vals acc)) := x3 Dl _ hacc
    refine ⟨env2, b, by rw [B.er]; exact hb2, B.rel, s2, fun H4 x4 => ?_⟩
    have hl4 : H4 Dl = some (.lst (vals acc)) := x4 Dl _ hl3
    have ex4 : Ex H1 H4 := (ex.trans x3).trans x4
    rcases hb3 with ⟨rfl, z, r', hz, hr', rfl⟩ | ⟨rfl, hr'⟩
    · dsimp only
      rw [if_pos rfl]
      refine ⟨env2, z, by rw [B.er]; exact hz, B.rel, s2.ex x4, fun u H5 eu x5 s5 o5 => ?_⟩
      have hl5 : H5 Dl = some (.lst (vals acc)) := x5 Dl _ hl4
      refine ⟨vals acc, hl5, Nat.lt_of_lt_of_le (by rw [List.length_map]; omega) (sizeLine_le hlen), m - 1, by omega, ?_⟩
      have ex5 : Ex H1 H5 := ex4.trans x5
      have ex25 : Ex H2 H5 := (x3.trans x4).trans x5
      have sacc5 : satL K H5 acc := satL_ex ex25 sacc
      have ou : Own H2 eS u := fun a => by
        have h := o5 a
        refine ⟨h.1, fun q => Evl.fresh_back (x3.trans x4) (h.2.1 q), fun q => ?_⟩
        rcases h.2.2 q with q | q
        · have c := B.cu a
          by_cases q2 : 0 < cuE a (wipeT env vs)
          · exact .inl (by show 0 < cuE a (wipeT env vs ++ src.map some); rw [cuE_app]; omega)
          · rcases u3 a (by omega) with z | z
            · exact .inl (by show 0 < cuE a (wipeT env vs ++ src.map some); rw [cuE_app, cuE_some_map]; omega)
            · exact .inr z
        · exact .inr (Evl.fresh_back (x3.trans x4) q)
      have hn : H2 Dl ≠ none := by rw [hacc]; exact fun z => by cases z
      have u1 : u.co Dl = 0 := by
        rcases Nat.eq_zero_or_pos (u.co Dl) with q | q
        · exact q
        · exact absurd ((ou Dl).2.1 q) hn
      have u2 : u.cu Dl = 0 := by
        rcases Nat.eq_zero_or_pos (u.cu Dl) with q | q
        · exact q
        · rcases (ou Dl).2.2 q with q | q
          · exact absurd hD (cuE_some satS q)
          · exact absurd q hn
      have m1 : coL Dl (acc ++ [u]) = 0 := by rw [coL_append, co1, n1, u1]
      have m2 : cuL Dl (acc ++ [u]) = 0 := by rw [cuL_append, cu1, n2, u2]
      refine ⟨hi2, by omega, Evl.Ex.mut ex5 hD, acc ++ [u], ?_, ?_, OwnL.snoc ex satS sacc oacc s5 ou, m1, m2, ?_, r', hr', ?_⟩
      · rw [upd_same]; simp [vals]
      · refine satL_keep (H := H5) _ (fun a o q e => ?_) (satL_append.mpr ⟨sacc5, s5, trivial⟩)
        have ne : a ≠ Dl := fun z => by subst z; omega
        rw [upd_ne ne]
        exact e
      · rw [List.length_append, List.length_singleton]; omega
      · rw [ers, erL_append, erL, erL, eu, List.append_assoc]; rfl
    · dsimp only
      rw [if_neg Bool.false_ne_true]
      exact ⟨m - 1, by omega, hi2, by omega, ex4, acc, hl4, satL_ex (x3.trans x4) sacc, oacc, n1, n2, by omega, rr, hr', ers⟩
  · have hi3 : ds.length ≤ i := Nat.le_of_not_lt hi2
    refine .inl ⟨w.stop i H2 ss2 hi3, ?_⟩
    rw [List.drop_eq_nil_of_le hi3, lcD] at hrr
    cases hrr
    rw [List.append_nil] at ers
    refine k (.n (.lst .o) Dl acc) H2 (by rw [T.er, ← ers]) (x1.trans ex) ⟨⟨hacc, rfl⟩, sacc⟩ fun a => ?_
    have h := oacc a
    have c4 : H1 a = none → H a = none := Evl.fresh_back x1
    rw [T.co, T.cu]
    by_cases q : Dl = a
    · subst q
      rw [n1, n2]
      refine ⟨by simp [Kd.own], fun _ => c4 hD, fun q => absurd q (by simp [Kd.own])⟩
    · rw [if_neg (fun z => q z.2), if_neg (fun z => q z.2), Nat.zero_add, Nat.zero_add]
      refine ⟨h.1, fun z => c4 (h.2.1 z), fun z => ?_⟩
      rcases h.2.2 z with z | z
      · have z : 0 < cuE a (wipeT env vs ++ src.map some) := z
        rw [cuE_app, cuE_some_map] at z
        have := wipe_cu (env := env) (a := a) vs
        by_cases y : 0 < cuL a src
        · exact (bs a).2 y
        · exact .inl (by omega)
      · exact .inr (c4 z)
theorem sp_lc (hc : X.calm = true) (hN : X.N.Nodup) (hi : SI X tg iter mi) (ok : blkC X.N X.env.scope scope own = true)
    (hg : ∀ (s : Shared) (H : Hp) (C : Addr) (cl : List (Str × Addr)) (fp : List Addr), SG (X.blk s H scope (compEnvC scope cl C X.env) fp) tg g) (ht : ∀ (s : Shared) (H : Hp) (C : Addr) (cl : List (Str × Addr)) (fp : List Addr), STs (X.blk s H scope (compEnvC scope cl C X.env) fp) ifs mt)
    (he : ∀ (s : Shared) (H : Hp) (C : Addr) (cl : List (Str × Addr)) (fp : List Addr), SP (X.blk s H scope (compEnvC scope cl C X.env) fp) elt me) (hsl : ∀ i ∈ g.sl, i ∈ own.map (·.2)) (hs : ∀ x, foldedSetIterable iter X.env x = pure x := by intro _; rfl) :
    SP X (.ListComp elt [⟨tg, iter, ifs, 0⟩] scope pos) (mLc mi g mt me (own.map (·.2))) :=
  PE.weak (pe_lc (own := own) (g := gOf X.K g) (tt := trT X.K mt) (te := trP X.K me) hc hN hi (blkOk_by ok) hg ht he hs) fun σ H Q h => lc_rd hsl h

/-! ### calls of the program's own defs that change nothing -/
end
mutual
def T.frz : T → T
  | .s v => .s v
  | .n k a ts => .n k.frz a (frzL ts)
  | .w z k a ts => .w z k a (frzL ts)
def frzL : List T → List T
  | [] => []
  | t :: ts => t.frz :: frzL ts
end
mutual
@[simp] def D.frz : D → D
  | .s v => .s v
  | .n k ds => .n k.frz (frzD ds)
@[simp] def frzD : List D → List D
  | [] => []
  | d :: ds => d.frz :: frzD ds
end
theorem frz_val (t : T) : t.frz.val = t.val := by cases t <;> simp [T.frz, T.val]
theorem frzL_vals : ∀ ts : List T, vals (frzL ts) = vals ts
  | [] => rfl
  | t :: ts => by rw [frzL, vals, List.map_cons, frz_val]; exact congrArg _ (frzL_vals ts)
theorem kfrz_ho (k : Kd) (vs : List V) : k.frz.ho vs = k.ho vs := by cases k <;> rfl
theorem kfrz_own (k : Kd) : k.frz.own = false := by
  cases k with
  | lst o => cases o <;> rfl
  | tup => rfl
  | dic o ks => cases o <;> rfl
  | dct o ks => cases o <;> rfl
theorem kfrz_isw {k : Kd} (h : k.isw = false) : k.frz.isw = false := by
  cases k with
  | lst o => cases o <;> first | rfl | cases h
  | tup => rfl
  | dic o ks => cases o <;> first | rfl | cases h
  | dct o ks => cases o <;> first | rfl | cases h
theorem kwri_frz (k : Kd) : k.wri.frz = k.wri := by cases k <;> rfl
section
variable {K : PySem.W.Frag} {H : Hp} {a : Addr}
mutual
theorem frz_er : ∀ t : T, t.frz.er = t.er.frz
  | .s v => by rw [T.frz, T.er, D.frz]
  | .n k a ts => by rw [T.frz, T.er, T.er, D.frz, frzL_er ts]
  | .w z k a ts => by rw [T.frz, T.er, T.er, D.frz, frzL_er ts, kwri_frz]
theorem frzL_er : ∀ ts : List T, erL (frzL ts) = frzD (erL ts)
  | [] => rfl
  | t :: ts => by rw [frzL, erL, erL, frzD, frz_er t, frzL_er ts]
end
mutual
theorem frz_co : ∀ t : T, t.frz.co a = 0
  | .s v => rfl
  | .n k b ts => by rw [T.frz, T.co, frzL_co ts, kfrz_own]; simp
  | .w z k b ts => by rw [T.frz, T.co, frzL_co ts]
theorem frzL_co : ∀ ts : List T, coL a (frzL ts) = 0
  | [] => rfl
  | t :: ts => by rw [frzL, coL, frz_co t, frzL_co ts]
end
mutual
theorem frz_cu : ∀ t : T, t.frz.cu a = t.co a + t.cu a
  | .s v => rfl
  | .n k b ts => by
    rw [T.frz, T.cu, T.co, T.cu, frzL_cu ts, kfrz_own]
    cases k.own <;> by_cases q : b = a <;> simp [q] <;> omega
  | .w z k b ts => by rw [T.frz, T.cu, T.co, T.cu, frzL_cu ts]; omega
theorem frzL_cu : ∀ ts : List T, cuL a (frzL ts) = coL a ts + cuL a ts
  | [] => rfl
  | t :: ts => by rw [frzL, cuL, coL, cuL, frz_cu t, frzL_cu ts]; omega
end
mutual
theorem frz_sat : ∀ t : T, t.sat K H → t.frz.sat K H
  | .s v, _ => trivial
  | .n k b ts, h => by
    rw [T.frz]
    refine ⟨⟨?_, kfrz_isw h.1.2⟩, frzL_sat ts h.2⟩
    rw [kfrz_ho, frzL_vals]
    exact h.1.1
  | .w z k b ts, h => by
    rw [T.frz]
    refine ⟨?_, frzL_sat ts h.2⟩
    rw [frzL_vals]
    exact h.1
theorem frzL_sat : ∀ ts : List T, satL K H ts → satL K H (frzL ts)
  | [], _ => trivial
  | t :: ts, h => ⟨frz_sat t h.1, frzL_sat ts h.2⟩
end
end
@[simp] def Kd.nF : Kd → Bool
  | .tup => true
  | k => k.own
mutual
/-- no shared list or dict -/
@[simp] def D.noF : D → Bool
  | .s _ => true
  | .n k ds => k.nF && noFL ds
@[simp] def noFL : List D → Bool
  | [] => true
  | d :: ds => d.noF && noFL ds
end
def isTupO : HO → Bool
  | .tup _ => true
  | .frz _ (.tup _) => true
  | _ => false
section
variable {K : PySem.W.Frag} {H : Hp} {a : Addr}
mutual
theorem noF_cu : ∀ t : T, t.er.noF = true → t.sat K H → 0 < t.cu a → ∃ o, H a = some o ∧ isTupO o = true
  | .s v, _, _, h => by rw [T.cu] at h; omega
  | .n k b ts, hn, hs, h => by
    rw [T.er, D.noF, Bool.and_eq_true] at hn
    rw [T.cu] at h
    by_cases q : k.own = false ∧ b = a
    · obtain ⟨q1, q2⟩ := q
      subst q2
      have h1 := hs.1.1
      cases k with
      | tup => exact ⟨_, h1, rfl⟩
      | lst o => exact absurd (q1.symm.trans hn.1) Bool.false_ne_true
      | dic o ks => exact absurd (q1.symm.trans hn.1) Bool.false_ne_true
      | dct o ks => exact absurd (q1.symm.trans hn.1) Bool.false_ne_true
    · rw [if_neg q] at h
      exact noFL_cu ts hn.2 hs.2 (by omega)
  | .w z k b ts, hn, hs, h => by
    rw [T.er, D.noF, Bool.and_eq_true] at hn
    rw [T.cu] at h
    by_cases q : z = false ∧ b = a
    · obtain ⟨q1, q2⟩ := q
      subst q1 q2
      obtain ⟨o, h1⟩ := hs.1
      cases k with
      | tup => exact ⟨_, h1, rfl⟩
      | lst o => exact absurd hn.1 (by simp [Kd.wri, Kd.nF, Kd.own])
      | dic o ks => exact absurd hn.1 (by simp [Kd.wri, Kd.nF, Kd.own])
      | dct o ks => exact absurd hn.1 (by simp [Kd.wri, Kd.nF, Kd.own])
    · rw [if_neg q] at h
      exact noFL_cu ts hn.2 hs.2 (by omega)
theorem noFL_cu : ∀ ts : List T, noFL (erL ts) = true → satL K H ts → 0 < cuL a ts → ∃ o, H a = some o ∧ isTupO o = true
  | [], _, _, h => by rw [cuL] at h; omega
  | t :: ts, hn, hs, h => by
    rw [erL, noFL, Bool.and_eq_true] at hn
    rw [cuL] at h
    by_cases q : 0 < t.cu a
    · exact noF_cu t hn.1 hs.1 q
    · exact noFL_cu ts hn.2 hs.2 (by omega)
end
mutual
theorem co_no : ∀ t : T, t.sat K H → 0 < t.co a → ∃ o, H a = some o ∧ isTupO o = false
  | .s v, _, h => by rw [T.co] at h; omega
  | .n k b ts, hs, h => by
    rw [T.co] at h
    by_cases q : k.own = true ∧ b = a
    · obtain ⟨q1, q2⟩ := q
      subst q2
      have h1 := hs.1.1
      cases k with
      | tup => cases q1
      | lst o => exact ⟨_, h1, rfl⟩
      | dic o ks => exact ⟨_, h1, rfl⟩
      | dct o ks => exact ⟨_, h1, rfl⟩
    · rw [if_neg q] at h
      exact coL_no ts hs.2 (by omega)
  | .w z k b ts, hs, h => by
    rw [T.co] at h
    exact coL_no ts hs.2 h
theorem coL_no : ∀ ts : List T, satL K H ts → 0 < coL a ts → ∃ o, H a = some o ∧ isTupO o = false
  | [], _, h => by rw [coL] at h; omega
  | t :: ts, hs, h => by
    rw [coL] at h
    by_cases q : 0 < t.co a
    · exact co_no t hs.1 q
    · exact coL_no ts hs.2 (by omega)
end
theorem coE_no : ∀ {env : TEnv}, SatE K H env → 0 < coE a env → ∃ o, H a = some o ∧ isTupO o = false
  | [], _, h => by rw [coE] at h; omega
  | none :: r, hs, h => by
    rw [coE, oT] at h
    exact coE_no (env := r) (fun t ht => hs t (List.mem_cons_of_mem _ ht)) (by omega)
  | some t :: r, hs, h => by
    rw [coE, oT] at h
    by_cases q : 0 < t.co a
    · exact co_no t (hs t (List.mem_cons_self ..)) q
    · exact coE_no (env := r) (fun t ht => hs t (List.mem_cons_of_mem _ ht)) (by omega)
end
/-- what a def gives of what it is handed: the promise of one that changes nothing -/
def OwnA (H : Hp) (ts : List T) (t : T) : Prop := ∀ a, (t.co a ≤ 1 ∧ (t.co a = 0 ∨ t.cu a = 0)) ∧ (0 < t.co a → H a = none) ∧ (0 < t.cu a → 0 < coL a ts ∨ 0 < cuL a ts ∨ H a = none)
abbrev FM := List D → Option D
def spP (K : PySem.W.Frag) (n : Nat) (f : FM) : Sp := fun vs H Q _ => ∃ ts d, vs = vals ts ∧ ts.length = n ∧ satL K H ts ∧ f (frzD (erL ts)) = some d ∧ ∀ t H', t.er = d → Ex H H' → t.sat K H' → OwnA H ts t → Q t.val H'
@[simp] def mFn (f : FM) (ml : LM) : PM := fun env => (ml env).bind fun ds => (f (frzD ds)).bind fun d => if (d.noF || pureL ds) = true then some d else none
section
variable {X : Cx} {e : Expr} {es : List Expr} {ml : LM} {pos p : Pos}
theorem sp_call {k n : Nat} {x : Str} {f : Addr} {fd : FuncData} {ps : List Str} {fm : FM} {CX : CXT} {E : XK} (F : FnOk X.prog X.w X.K X.mg X.base CX k f fd ps (spP X.K n fm)) (hl : n = es.length + 1) (hr : Room k X.A) (hm : X.mg x = some (.ref f)) (hk : PySem.W.keepIn X.K (.ref f) = true)
    (hb : Binds X.K fd ps []) (hx : Passes CX X E) (ha : SBA X (e :: es) ml) (hln : ∀ env ds, ml env = some ds → ds.length = n) (hg : Gl X x := by rfl) (hdb : (x == ("__debug__" : Str)) = false := by decide) (he : starEach (e :: es) X.env = (false, eval e X.env) :: starEach es X.env := by rfl) (hpl : (backTo pos (starEach es X.env)).any (·.1) = false := by rfl) :
    SP X (.Call (.Name x p) (e :: es) [] pos) (mFn fm ml) := PE.weak (pe_call F hr hg hm hk hb .nil hx ha hdb he hpl) fun σ H Q ⟨env, d, hm, r, s, k⟩ => by
  obtain ⟨ds, h1, hm⟩ := bind_some hm
  obtain ⟨d', h2, hm⟩ := bind_some hm
  split at hm
  case isFalse => cases hm
  rename_i hc
  cases hm
  refine ⟨env, ds, h1, r, s, fun ts H1 e1 x1 s1 b1 => ?_⟩
  refine ⟨ts, d, by rw [List.append_nil], by rw [len_er e1]; exact hln _ _ h1, s1, by rw [e1]; exact h2, fun t H2 e2 x2 s2 o2 => k t H2 e2 (x1.trans x2) s2 fun a => ?_⟩
  have o := o2 a
  refine ⟨o.1, fun z => Evl.fresh_back x1 (o.2.1 z), fun z => ?_⟩
  rcases o.2.2 z with q | q | q
  · rw [Bool.or_eq_true] at hc
    rcases hc with hc | hc
    · -- a tuple of the answer is no list of ours
      rw [← e2] at hc
      obtain ⟨u, hu, hv⟩ := noF_cu t hc s2 z
      obtain ⟨u', hu', hv'⟩ := coL_no ts (satL_ex x2 s1) q
      rw [hu] at hu'
      cases hu'
      rw [hv] at hv'
      cases hv'
    · rw [← e1] at hc
      rw [pureL_co ts hc] at q
      omega
  · exact (b1 a).2 q
  · exact .inr (Evl.fresh_back x1 q)
end
/-- what was made on the way, held for shared -/
@[simp] def wLF (m : PM) : LM := fun env => (m env).bind fun d => asL d.frz
section
variable {X : Cx} {tg e : Expr} {m : PM}
theorem sj_listF (h : SP X e m) : SJ X tg e (wLF m) := PI.weak (pi_list h) fun σ H R ⟨env, ds, hm, r, s, k⟩ => by
  obtain ⟨d, hd, h1⟩ := bind_some hm
  obtain ⟨o, h2⟩ := asL_some h1
  refine ⟨env, d, hd, r, s, fun t H1 e1 x1 s1 b1 => ?_⟩
  subst e1
  rw [← frz_er] at h2
  obtain ⟨a, f1, f2, w⟩ := wk_list (frz_sat t s1) h2
  rw [frz_val] at f1
  refine ⟨a, f1, ⟨_, f2⟩, k _ [t.frz] H1 x1 ⟨frz_sat t s1, trivial⟩ (fun b => ?_) w⟩
  rw [co1, cu1, frz_co, frz_cu]
  have := b1 b
  refine ⟨⟨Nat.zero_le _, .inl rfl⟩, fun z => absurd z (Nat.lt_irrefl _), fun z => ?_⟩
  by_cases q : 0 < t.co b
  · exact .inr (this.2.1 q)
  · exact this.2.2 (by omega)
end
end Ow

namespace Ow
open PySem L2

/-! ### parts that change what is owned -/
def WfF (F : List T) (env : TEnv) : Prop := Wf (fun a => coL a F + coE a env) (fun a => cuL a F + cuE a env)
def StpF (H : Hp) (F : List T) (env : TEnv) (H' : Hp) (F' : List T) (env' : TEnv) : Prop := Stp H (fun a => coL a F + coE a env) (fun a => cuL a F + cuE a env) H' (fun a => coL a F' + coE a env') (fun a => cuL a F' + cuE a env')
/-- where one stands: begun at H0 with env0, the trees F at hand -/
structure Cf (K : PySem.W.Frag) (H0 : Hp) (env0 : TEnv) (σ : L2.St) (H : Hp) (F : List T) (env : TEnv) : Prop where
  rel : Rel σ env
  satF : satL K H F
  satE : SatE K H env
  wf : WfF F env
  stp : StpF H0 [] env0 H F env
section
variable {K : PySem.W.Frag} {H0 H H' : Hp} {env0 env env' : TEnv} {σ σ' : L2.St} {F G : List T} {t : T}
theorem Cf.start (r : Rel σ env) (s : SatE K H env) (w : WfF [] env) : Cf K H env σ H [] env := ⟨r, trivial, s, w, Stp.refl⟩
/-- THE FRAME: a step of the environment alone, with F beside it -/
theorem Cf.step (c : Cf K H0 env0 σ H F env) (c' : Cf K H env σ' H' G env') : Cf K H0 env0 σ' H' (G ++ F) env' := by
  have keepF : ∀ a o, 0 < coL a F + cuL a F → H a = some o → H' a = some o := fun a o h e => c'.stp.1 a o e (by
    have := c.wf a
    simp only [coL] at this ⊢
    omega)
  have someF : ∀ a, 0 < coL a F + cuL a F → H a ≠ none := fun a h => by
    by_cases q : 0 < coL a F
    · exact coL_some F c.satF q
    · exact cuL_some F c.satF (by omega)
  refine ⟨c'.rel, satL_append.mpr ⟨c'.satF, satL_keep F keepF c.satF⟩, c'.satE, fun a => ?_, ?_⟩
  · have w := c.wf a
    have w' := c'.wf a
    have s := c'.stp.2.2 a
    have sf := someF a
    simp only [coL, cuL, Nat.zero_add, coL_append, cuL_append] at w w' s ⊢
    by_cases z : H a = none
    · have n1 : coL a F = 0 := by
        rcases Nat.eq_zero_or_pos (coL a F) with q | q
        · exact q
        · exact absurd z (sf (by omega))
      have n2 : cuL a F = 0 := by
        rcases Nat.eq_zero_or_pos (cuL a F) with q | q
        · exact q
        · exact absurd z (sf (by omega))
      omega
    · have s1 := s.1
      have s2 := s.2
      simp only [z, or_false] at s1 s2
      omega
  · refine Stp.trans c.stp ⟨fun a o h hc => c'.stp.1 a o h (by simp only [coL] at hc ⊢; omega), c'.stp.2.1, fun a => ?_⟩
    have s := c'.stp.2.2 a
    simp only [coL, cuL, Nat.zero_add, coL_append, cuL_append] at s ⊢
    refine ⟨fun h => ?_, fun h => ?_⟩
    · by_cases q : 0 < coL a F
      · exact .inl (by omega)
      · rcases s.1 (by omega) with z | z
        · exact .inl (by omega)
        · exact .inr z
    · by_cases q : 0 < cuL a F
      · exact .inr (.inl (by omega))
      · rcases s.2 (by omega) with z | z | z
        · exact .inl (by omega)
        · exact .inr (.inl (by omega))
        · exact .inr (.inr z)
/-- the environment alone -/
theorem Cf.base (c : Cf K H0 env0 σ H F env) : WfF [] env := fun a => by
  have w := c.wf a
  simp only [coL, cuL, Nat.zero_add] at w ⊢
  omega
/-- what was made purely -/
theorem Cf.pure (r : Rel σ env) (s : SatE K H env) (w : WfF [] env) (x : Ex H H') (s1 : t.sat K H') (o : Own H env t) : Cf K H env σ H' [t] env := by
  refine ⟨r, ⟨s1, trivial⟩, s.ex x, fun a => ?_, ⟨fun a o h _ => x a o h, fun a h => Evl.fresh_back x h, fun a => ?_⟩⟩
  · have h := o a
    have w := w a
    have c1 : 0 < coE a env → H a ≠ none := coE_some s
    have c2 : 0 < cuE a env → H a ≠ none := cuE_some s
    simp only [coL, cuL, Nat.zero_add, Nat.add_zero] at w ⊢
    by_cases q : 0 < t.co a
    · have z := h.2.1 q
      have n1 : coE a env = 0 := by
        rcases Nat.eq_zero_or_pos (coE a env) with q | q
        · exact q
        · exact absurd z (c1 q)
      have n2 : cuE a env = 0 := by
        rcases Nat.eq_zero_or_pos (cuE a env) with q | q
        · exact q
        · exact absurd z (c2 q)
      omega
    · by_cases q2 : 0 < t.cu a
      · rcases h.2.2 q2 with z | z
        · omega
        · have n1 : coE a env = 0 := by
            rcases Nat.eq_zero_or_pos (coE a env) with q | q
            · exact q
            · exact absurd z (c1 q)
          omega
      · omega
  · have h := o a
    simp only [coL, cuL, Nat.zero_add, Nat.add_zero]
    refine ⟨fun q => ?_, fun q => ?_⟩
    · by_cases q2 : 0 < t.co a
      · exact .inr (h.2.1 q2)
      · exact .inl (by omega)
    · by_cases q2 : 0 < t.cu a
      · rcases h.2.2 q2 with z | z
        · exact .inr (.inl z)
        · exact .inr (.inr z)
      · exact .inr (.inl (by omega))
theorem Cf.ex (c : Cf K H0 env0 σ H F env) (x : Ex H H') : Cf K H0 env0 σ H' F env :=
  ⟨c.rel, satL_ex x c.satF, c.satE.ex x, c.wf, Stp.trans c.stp ⟨fun a o h _ => x a o h, fun a h => Evl.fresh_back x h, fun a => ⟨fun q => .inl q, fun q => .inr (.inl q)⟩⟩⟩
/-- fewer trees -/
theorem Cf.less {F' : List T} {env' : TEnv} (c : Cf K H0 env0 σ H F env) (r : Rel σ' env') (sF : satL K H F') (sE : SatE K H env') (h1 : ∀ a, coL a F' + coE a env' ≤ coL a F + coE a env) (h2 : ∀ a, cuL a F' + cuE a env' ≤ cuL a F + cuE a env) : Cf K H0 env0 σ' H F' env' := by
  refine ⟨r, sF, sE, fun a => ?_, Stp.trans c.stp ⟨fun a o h _ => h, fun a h => h, fun a => ⟨fun q => .inl ?_, fun q => .inr (.inl ?_)⟩⟩⟩
  · have w := c.wf a
    have := h1 a
    have := h2 a
    simp only at w ⊢
    omega
  · have := h1 a
    simp only at q ⊢
    omega
  · have := h2 a
    simp only at q ⊢
    omega
end
/-- an expression that may change the environment; the slots of U keep their trees -/
def trE (K : PySem.W.Frag) (U : List Nat) (m : EM) : TE := fun σ H Q => ∃ env d e', m (erE env) = some (d, e') ∧ Rel σ env ∧ SatE K H env ∧ WfF [] env ∧
  ∀ t env' H', t.er = d → erE env' = e' → Cf K H env σ H' [t] env' → (∀ i ∈ U, env'[i]? = env[i]?) → Q t.val H'
abbrev TM := Env → Option (Bool × Env)
def trET (K : PySem.W.Frag) (m : TM) : TT := fun σ H Q => ∃ env b e', m (erE env) = some (b, e') ∧ Rel σ env ∧ SatE K H env ∧ WfF [] env ∧
  ∀ env' H', erE env' = e' → Cf K H env σ H' [] env' → Q b H'
def SE (X : Cx) (U : List Nat) (e : Expr) (m : EM) : Prop := PE X e (trE X.K U m)
def SET (X : Cx) (e : Expr) (m : TM) : Prop := PT X e (trET X.K m)
@[simp] def lift (m : PM) : EM := fun env => (m env).map fun d => (d, env)
@[simp] def liftT (m : BM) : TM := fun env => (m env).map fun d => (d, env)
/-- how statements end -/
inductive O where
  | nx | bk | ct
  | rt (d : D)
abbrev SM := Env → Option (O × Env)
/-- what a context wishes of an exception of a class -/
def XWish (X : Cx) : WX := fun cls d σ H => ∀ u s', XE X (fun c' d' σ' H' => c' = cls ∧ d' = d ∧ σ' = σ ∧ H' = H) u s' → X.xe u s'
theorem takesX {X : Cx} : Takes X (XWish X) := fun u s' ⟨a, B, sI, pins, σ, H, cls, d, e, I, nb, up, sky, na, os, ag, w⟩ => w u s' ⟨a, B, sI, pins, σ, H, cls, d, e, I, nb, up, sky, na, os, ag, rfl, rfl, rfl, rfl⟩
theorem xwish_of {X : Cx} {W : WX} {cls : Value} {d : Option Addr} {σ : L2.St} {H : Hp} (tk : Takes X W) (w : W cls d σ H) : XWish X cls d σ H := fun u s' ⟨a, B, sI, pins, σ', H', c', d', e, I, nb, up, sky, na, os, ag, q1, q2, q3, q4⟩ => by
  subst q1 q2 q3 q4
  exact tk u s' ⟨a, B, sI, pins, _, _, _, _, e, I, nb, up, sky, na, os, ag, w⟩
/-- a mark that no value bears: an exception of the class of that name -/
@[simp] def D.isx : D → Bool
  | .s (.ty _) => true
  | _ => false
def outs (X : Cx) (De : Ends) (o : O) (F : List T) (σ : L2.St) (H : Hp) : Prop := match o with
  | .nx => F = [] → De.nx σ H
  | .bk => F = [] → De.bk σ H
  | .ct => F = [] → De.ct σ H
  | .rt d => (∀ t, F = [t] → t.er = d → De.rt t.val H) ∧ ∀ (n : String) (C : Addr), d = .s (.ty n) → F = [] → X.mg n = some (.ref C) → XWish X (.ref C) none σ H
def trS (X : Cx) (P : List Nat) (m : SM) : TS := fun De σ H => ∃ env o e', m (erE env) = some (o, e') ∧ Rel σ env ∧ SatE X.K H env ∧ WfF [] env ∧
  ∀ F σ' env' H', erE env' = e' → Cf X.K H env σ' H' F env' → (∀ i ∈ P, σ'[i]? = σ[i]?) → outs X De o F σ' H'
def SS (X : Cx) (P : List Nat) (st : Stmt) (m : SM) : Prop := PS X st (trS X P m)
def SSs (X : Cx) (P : List Nat) (st : List Stmt) (m : SM) : Prop := PSs X st (trS X P m)
theorem er_nx {t : T} {n : String} (h : t.er = .s (.ty n)) : False := by
  cases t with
  | n k a ts => rw [T.er] at h; cases h
  | w z k a ts => rw [T.er] at h; cases h
  | s v =>
    rw [T.er] at h
    unfold hid at h
    split at h
    · rename_i hs
      cases h; cases hs
    · cases h
theorem PS.weak {X : Cx} {st : Stmt} {t u : TS} (h : PS X st t) (w : ∀ D σ H, u D σ H → t D σ H) : PS X st u := ⟨fun pins s σ H D I z => h.run pins s σ H D I (w D σ H z)⟩
theorem PSs.weak {X : Cx} {st : List Stmt} {t u : TS} (h : PSs X st t) (w : ∀ D σ H, u D σ H → t D σ H) : PSs X st u := ⟨fun pins s σ H D I z => h.run pins s σ H D I (w D σ H z)⟩
section
variable {K : PySem.W.Frag} {H0 H H' : Hp} {env0 env env' : TEnv} {σ σ' : L2.St} {F : List T} {U : List Nat} {m : PM} {me : EM} {d : D} {e' : Env} {Q : VK}
theorem goE (c : Cf K H0 env0 σ H F env) (hm : me (erE env) = some (d, e')) (k : ∀ t env' H', t.er = d → erE env' = e' → Cf K H0 env0 σ H' (t :: F) env' → (∀ i ∈ U, env'[i]? = env[i]?) → Q t.val H') : trE K U me σ H Q :=
  ⟨env, d, e', hm, c.rel, c.satE, c.base, fun t env' H' e1 e2 c' u => k t env' H' e1 e2 (c.step c') u⟩
theorem goP (c : Cf K H0 env0 σ H F env) (hm : m (erE env) = some d) (k : ∀ t H', t.er = d → Ex H H' → Cf K H0 env0 σ H' (t :: F) env → Q t.val H') : trP K m σ H Q :=
  ⟨env, d, hm, c.rel, c.satE, fun t H' e1 x s o => k t H' e1 x (c.step (Cf.pure c.rel c.satE c.base x s o))⟩
theorem goB (c : Cf K H0 env0 σ H F env) (hm : m (erE env) = some d) (k : ∀ t H', t.er = d → Ex H H' → t.sat K H' → Bor H env t → Cf K H0 env0 σ H' F env → Q t.val H') : trB K m σ H Q :=
  ⟨env, d, hm, c.rel, c.satE, fun t H' e1 x s o => k t H' e1 x s o (c.ex x)⟩
theorem goT {mb : BM} {b : Bool} {Q : Bool → Hp → Prop} (c : Cf K H0 env0 σ H F env) (hm : mb (erE env) = some b) (k : ∀ H', Cf K H0 env0 σ H' F env → Q b H') : trT K mb σ H Q :=
  ⟨env, b, hm, c.rel, c.satE, fun H' x => k H' (c.ex x)⟩
theorem goET {mb : TM} {b : Bool} {Q : Bool → Hp → Prop} (c : Cf K H0 env0 σ H F env) (hm : mb (erE env) = some (b, e')) (k : ∀ env' H', erE env' = e' → Cf K H0 env0 σ H' F env' → Q b H') : trET K mb σ H Q :=
  ⟨env, b, e', hm, c.rel, c.satE, c.base, fun env' H' e1 c' => k env' H' e1 (c.step c')⟩
end
section
variable {X : Cx} {m ma mb : PM} {me m1 m2 : EM} {e a b : Expr} {pos : Pos} {U P : List Nat}
theorem se_p (h : SP X e m) : SE X U e (lift m) := PE.weak h fun σ H Q ⟨env, d, e', hm, r, s, w, k⟩ => by
  obtain ⟨x, hx, e1⟩ := map_some hm
  cases e1
  exact goP (Cf.start r s w) hx fun t H' e1 x c => k t env H' e1 rfl c fun _ _ => rfl
theorem set_t {mt : BM} (h : ST X e mt) : SET X e (liftT mt) := PT.weak h fun σ H Q ⟨env, d, e', hm, r, s, w, k⟩ => by
  obtain ⟨x, hx, e1⟩ := map_some hm
  cases e1
  exact goT (Cf.start r s w) hx fun H' c => k env H' rfl c
@[simp] def eB (m : EM) : TM := fun env => (m env).bind fun x => (toB x.1).map fun b => (b, x.2)
theorem set_val (h : SE X [] e me) (he : ∀ whole, isTrue e X.env whole = (do let v ← whole; standAt e.pos; holding [v] (truthy v)) := by intro _; rfl) : SET X e (eB me) := PT.weak (pt_val h he) fun σ H Q ⟨env, d, e', hm, r, s, w, k⟩ => by
  obtain ⟨x, hx, hm⟩ := bind_some hm
  obtain ⟨b, hb, e1⟩ := map_some hm
  cases e1
  refine goE (d := x.1) (e' := x.2) (Cf.start r s w) hx fun t env' H' e1 e2 c _ => ?_
  rw [er_scl (e1.trans (toB_some hb)) rfl]
  exact ⟨d, rfl, k env' H' e2 (c.less c.rel trivial c.satE (fun a => by simp [coL]) (fun a => by simp [cuL]))⟩
/-- two parts, the answer a scalar -/
@[simp] def eOp2 (f : D → D → Option V) (ma mb : EM) : EM := fun env => (ma env).bind fun x => (mb x.2).bind fun y => (f x.1 y.1).bind fun v => (sv v).map fun d => (d, y.2)
theorem eop_rd {K : PySem.W.Frag} {σ : L2.St} {H : Hp} {Q : VK} {r : R2} {f : D → D → Option V} (ho : Op2 K r f) (h : trE K U (eOp2 f m1 m2) σ H Q) : tOp r (trE K U m1) (trE K U m2) σ H Q := by
  obtain ⟨env, d, e', hm, hr, s, w, k⟩ := h
  obtain ⟨x, hx, hm⟩ := bind_some hm
  obtain ⟨y, hy, hm⟩ := bind_some hm
  obtain ⟨v, hv, hm⟩ := bind_some hm
  obtain ⟨dv, hs, e1⟩ := map_some hm
  obtain ⟨s1, rfl⟩ := sv_some hs
  cases e1
  refine goE (d := x.1) (e' := x.2) (Cf.start hr s w) hx fun t env1 H1 e1 e2 c1 u1 => ?_
  refine goE (d := y.1) (e' := y.2) c1 (by rw [e2]; exact hy) fun u env2 H2 e3 e4 c2 u2 => ?_
  refine ho t u v H2 Q c2.satF.2.1 c2.satF.1 (by rw [e1, e3]; exact hv) ?_
  refine k (.s v) env2 H2 (by rw [T.er, hid_scl s1]) e4 (c2.less c2.rel ⟨trivial, trivial⟩ c2.satE (fun a => by simp [coL, T.co]; try omega) (fun a => by simp [cuL, T.cu]; try omega)) fun i hi => (u2 i hi).trans (u1 i hi)
theorem se_op {op : Operator} {r : R2} {f : D → D → Option V} (ho : OpR X (binaryOp op) r) (hf : Op2 X.K r f) (ha : SE X U a m1) (hb : SE X U b m2) : SE X U (.BinOp a op b pos) (eOp2 f m1 m2) :=
  PE.weak (pe_op ho ha hb) fun σ H Q h => eop_rd hf h
theorem se_cmp {op : CmpOp} {r : R2} {f : D → D → Option V} (ho : OpR X (compareOp op) r) (hf : Op2 X.K r f) (ha : SE X U a m1) (hb : SE X U b m2) (hm : behindInMarks op b = false) : SE X U (.Compare a [op] [b] pos) (eOp2 f m1 m2) :=
  PE.weak (pe_cmpR ho ha hb hm) fun σ H Q h => eop_rd hf h
theorem se_add (ha : SE X U a m1) (hb : SE X U b m2) : SE X U (.BinOp a .Add b pos) (eOp2 fAdd m1 m2) := se_op op_add op2_I0 ha hb
theorem se_sub (ha : SE X U a m1) (hb : SE X U b m2) : SE X U (.BinOp a .Sub b pos) (eOp2 fSub m1 m2) := se_op op_sub op2_I0 ha hb
theorem se_mod (ha : SE X U a m1) (hb : SE X U b m2) : SE X U (.BinOp a .Mod b pos) (eOp2 fMod m1 m2) := se_op op_mod (op2_I fun _ _ h => of_decide_eq_true h) ha hb
theorem se_mul (ha : SE X U a m1) (hb : SE X U b m2) : SE X U (.BinOp a .Mult b pos) (eOp2 fMul m1 m2) := se_op op_mulB (op2_I fun _ _ h => of_decide_eq_true h) ha hb
theorem se_div (ha : SE X U a m1) (hb : SE X U b m2) : SE X U (.BinOp a .FloorDiv b pos) (eOp2 fDiv m1 m2) := se_op op_fdivW (op2_I fun i j h => (of_decide_eq_true h : 0 < j ∧ j.natAbs.log2 < 9000)) ha hb
theorem se_eq {k : Nat} (hr : Room k X.A) (ha : SE X U a m1) (hb : SE X U b m2) : SE X U (.Compare a [.Eq] [b] pos) (eOp2 fEq m1 m2) := se_cmp (op_eqD (hu64 hr)) op2_eq ha hb (nomark _)
theorem se_ne {k : Nat} (hr : Room k X.A) (ha : SE X U a m1) (hb : SE X U b m2) : SE X U (.Compare a [.NotEq] [b] pos) (eOp2 fNe m1 m2) := se_cmp (op_neD (hu64 hr)) op2_ne ha hb (nomark _)
theorem se_lt (ha : SE X U a m1) (hb : SE X U b m2) : SE X U (.Compare a [.Lt] [b] pos) (eOp2 fLt m1 m2) := se_cmp op_lt op2_I0 ha hb (nomark _)
theorem se_gt (ha : SE X U a m1) (hb : SE X U b m2) : SE X U (.Compare a [.Gt] [b] pos) (eOp2 fGt m1 m2) := se_cmp op_gt op2_I0 ha hb (nomark _)
theorem se_le (ha : SE X U a m1) (hb : SE X U b m2) : SE X U (.Compare a [.LtE] [b] pos) (eOp2 fLe m1 m2) := se_cmp op_le op2_I0 ha hb (nomark _)
theorem se_ge (ha : SE X U a m1) (hb : SE X U b m2) : SE X U (.Compare a [.GtE] [b] pos) (eOp2 fGe m1 m2) := se_cmp op_ge op2_I0 ha hb (nomark _)
/-- an item of what was made, at a place that is drawn -/
@[simp] def eItem (ma mb : EM) : EM := fun env => (ma env).bind fun x => (mb x.2).bind fun y => (fItem x.1 y.1).bind fun d => if d.pure = true then some (d, y.2) else none
theorem se_item (ha : SE X U a m1) (hb : SE X U b m2) (hs : PlainIx b := by exact fun _ _ => rfl) : SE X U (.Subscript a b pos) (eItem m1 m2) := PE.weak (pe_ix ix_it ha hb hs) fun σ H Q ⟨env, d, e', hm, hr, s, w, k⟩ => by
  obtain ⟨x, hx, hm⟩ := bind_some hm
  obtain ⟨y, hy, hm⟩ := bind_some hm
  obtain ⟨d', hd, hm⟩ := bind_some hm
  split at hm
  case isFalse => cases hm
  rename_i hp
  cases hm
  refine goE (d := x.1) (e' := x.2) (Cf.start hr s w) hx fun t env1 H1 e1 e2 c1 u1 => ?_
  refine goE (d := y.1) (e' := y.2) c1 (by rw [e2]; exact hy) fun u env2 H2 e3 e4 c2 u2 => ?_
  rw [← e1, ← e3] at hd
  have fin : ∀ z : T, z.er = d → z.sat X.K H2 → (∀ b, cuL b [z] ≤ t.cu b) → Q z.val H2 := fun z ez sz lz => by
    rw [← ez] at hp
    exact k z env2 H2 ez e4 (c2.less c2.rel ⟨sz, trivial⟩ c2.satE (fun a => by simp only [coL, pure_co z hp]; omega) (fun a => by have := lz a; simp only [cuL] at this ⊢; omega)) fun i hi => (u2 i hi).trans (u1 i hi)
  unfold fItem at hd
  split at hd
  · rename_i o ds i g1 g2
    obtain ⟨a, ts, f1, f2, f3, f4, f5, f6⟩ := rdL c2.satF.2.1 g1
    rw [f1, er_int g2]
    rw [← f2, erL_map, atI_map] at hd
    obtain ⟨z, hz, ez⟩ := map_some hd
    have hz2 := atI_mem hz
    refine .inl (.inl ⟨a, _, i, z.val, rfl, rfl, f3, by rw [vals, atI_map, hz]; rfl, fin z ez (satL_iff.mp f4 z hz2) fun b => by rw [cu1]; exact Nat.le_trans (cuL_mem hz2) (f6 b)⟩)
  · rename_i ds i g1 g2
    obtain ⟨a, ts, f1, f2, f3, f4, f5, f6⟩ := rdT c2.satF.2.1 g1
    rw [f1, er_int g2]
    rw [← f2, erL_map, atI_map] at hd
    obtain ⟨z, hz, ez⟩ := map_some hd
    have hz2 := atI_mem hz
    refine .inl (.inr ⟨a, _, i, z.val, rfl, rfl, f3, by rw [vals, atI_map, hz]; rfl, fin z ez (satL_iff.mp f4 z hz2) fun b => by rw [cu1]; exact Nat.le_trans (cuL_mem hz2) (f6 b)⟩)
  · rename_i z i g1 g2
    split at hd
    · rename_i hl
      obtain ⟨c, hc, ez⟩ := map_some hd
      rw [er_scl g1 rfl, er_int g2]
      exact .inr ⟨z, i, c, rfl, rfl, sizeLine_le hl, hc, fin (.s (.str ⟨#[c]⟩)) ez trivial fun b => by simp [cuL, T.cu]⟩
    · cases hd
  · cases hd

/-! ### statements -/
@[simp] def sNx : SM := fun env => some (.nx, env)
@[simp] def sSeq (m n : SM) : SM := fun env => (m env).bind fun x => match x.1 with
  | .nx => n x.2
  | o => some (o, x.2)
@[simp] def sDrop (m : EM) : SM := fun env => (m env).map fun x => (.nx, x.2)
@[simp] def sSet (i : Nat) (m : EM) : SM := fun env => (m env).map fun x => (.nx, x.2.set i (some x.1))
@[simp] def sRet (m : EM) : SM := fun env => (m env).map fun x => (.rt x.1, x.2)
@[simp] def sRetN : SM := fun env => some (.rt (.s .non), env)
@[simp] def sBk : SM := fun env => some (.bk, env)
@[simp] def sCt : SM := fun env => some (.ct, env)
@[simp] def sIf (c : TM) (m n : SM) : SM := fun env => (c env).bind fun x => if x.1 = true then m x.2 else n x.2
section
variable {st : Stmt} {rest : List Stmt} {mS nS : SM}
theorem sss_nil : SSs X P [] sNx := PSs.weak pss_nil fun De σ H ⟨env, o, e', hm, r, s, w, k⟩ => by
  cases hm
  exact k [] σ env H rfl (Cf.start r s w) (fun _ _ => rfl) rfl
theorem sss_one (h : SS X P st mS) : SSs X P [st] mS := pss_one h
theorem sss_cons (h : SS X P st mS) (hs : SSs X P rest nS) : SSs X P (st :: rest) (sSeq mS nS) := PSs.weak (pss_cons h hs) fun De σ H ⟨env, o, e', hm, r, s, w, k⟩ => by
  obtain ⟨x, hx, hm⟩ := bind_some hm
  refine ⟨env, x.1, x.2, hx, r, s, w, fun F σ1 env1 H1 e1 c1 p1 => ?_⟩
  obtain ⟨xo, xe⟩ := x
  cases xo with
  | nx =>
    intro hF
    subst hF
    refine ⟨env1, o, e', by rw [e1]; exact hm, c1.rel, c1.satE, c1.base, fun F2 σ2 env2 H2 e2 c2 p2 => ?_⟩
    have c3 := c1.step c2
    rw [List.append_nil] at c3
    exact k F2 σ2 env2 H2 e2 c3 fun i hi => (p2 i hi).trans (p1 i hi)
  | bk => cases hm; exact k F σ1 env1 H1 e1 c1 p1
  | ct => cases hm; exact k F σ1 env1 H1 e1 c1 p1
  | rt d => cases hm; exact k F σ1 env1 H1 e1 c1 p1
end
end
end Ow

namespace Ow
open PySem L2

section
variable {K : PySem.W.Frag} {H0 H H' : Hp} {env0 env env' : TEnv} {σ σ' : L2.St} {F G : List T} {t : T}
/-- what was made purely, several -/
theorem Cf.pureL {ts : List T} (r : Rel σ env) (s : SatE K H env) (w : WfF [] env) (x : Ex H H') (s1 : satL K H' ts) (o : OwnL H env ts) : Cf K H env σ H' ts env := by
  refine ⟨r, s1, s.ex x, fun a => ?_, ⟨fun a o h _ => x a o h, fun a h => Evl.fresh_back x h, fun a => ?_⟩⟩
  · have h := o a
    have w := w a
    have c1 : 0 < coE a env → H a ≠ none := coE_some s
    have c2 : 0 < cuE a env → H a ≠ none := cuE_some s
    simp only [coL, cuL, Nat.zero_add, Nat.add_zero] at w ⊢
    by_cases q : 0 < coL a ts
    · have z := h.2.1 q
      have n1 : coE a env = 0 := by
        rcases Nat.eq_zero_or_pos (coE a env) with q | q
        · exact q
        · exact absurd z (c1 q)
      have n2 : cuE a env = 0 := by
        rcases Nat.eq_zero_or_pos (cuE a env) with q | q
        · exact q
        · exact absurd z (c2 q)
      omega
    · by_cases q2 : 0 < cuL a ts
      · rcases h.2.2 q2 with z | z
        · omega
        · have n1 : coE a env = 0 := by
            rcases Nat.eq_zero_or_pos (coE a env) with q | q
            · exact q
            · exact absurd z (c1 q)
          omega
      · omega
  · have h := o a
    simp only [coL, cuL, Nat.zero_add, Nat.add_zero]
    refine ⟨fun q => ?_, fun q => ?_⟩
    · by_cases q2 : 0 < coL a ts
      · exact .inr (h.2.1 q2)
      · exact .inl (by omega)
    · by_cases q2 : 0 < cuL a ts
      · rcases h.2.2 q2 with z | z
        · exact .inr (.inl z)
        · exact .inr (.inr z)
      · exact .inr (.inl (by omega))
/-- the slots bound to what is not owned -/
theorem Cf.bind {sl : List Nat} {e' : Env} (c : Cf K H0 env0 σ H F env) (x : Ex H H') (ho : ∀ a, t.co a = 0) (hu : ∀ a, 0 < t.cu a → 0 < cuL a F ∨ 0 < cuE a env ∨ H a = none) (s : t.sat K H')
    (B : Bnd K H' σ env (fun a => t.co a) (fun a => t.cu a) sl e' σ' env') : Cf K H0 env0 σ' H' F env' := by
  have sE : SatE K H' env' := fun u hu => by
    rcases B.sat u hu with q | q
    · exact sat_ex x (c.satE u q)
    · exact q
  refine ⟨B.rel, satL_ex x c.satF, sE, fun a => ?_, Stp.trans c.stp ⟨fun a o h _ => x a o h, fun a h => Evl.fresh_back x h, fun a => ?_⟩⟩
  · have w := c.wf a
    have b1 := B.co a
    have b2 := B.cu a
    have z := ho a
    simp only at w b1 b2 ⊢
    rw [z] at b1
    by_cases q : 0 < coL a F + coE a env'
    · have nn : H a ≠ none := by
        by_cases q2 : 0 < coL a F
        · exact coL_some F c.satF q2
        · exact coE_some c.satE (by omega)
      have : t.cu a = 0 := by
        rcases Nat.eq_zero_or_pos (t.cu a) with y | y
        · exact y
        · rcases hu a y with y | y | y
          · omega
          · omega
          · exact absurd y nn
      omega
    · omega
  · have b1 := B.co a
    have b2 := B.cu a
    have z := ho a
    simp only at b1 b2 ⊢
    rw [z] at b1
    refine ⟨fun q => .inl (by omega), fun q => ?_⟩
    by_cases q2 : 0 < t.cu a
    · rcases hu a q2 with y | y | y
      · exact .inr (.inl (by omega))
      · exact .inr (.inl (by omega))
      · exact .inr (.inr y)
    · exact .inr (.inl (by omega))
theorem Cf.toNil (c : Cf K H0 env0 σ H F env) : Cf K H0 env0 σ H [] env := c.less c.rel trivial c.satE (fun a => by simp only [coL]; omega) (fun a => by simp only [cuL]; omega)
theorem Cf.dropB (c : Cf K H0 env0 σ H (G ++ F) env) : Cf K H0 env0 σ H G env := c.less c.rel (satL_append.mp c.satF).1 c.satE (fun a => by rw [coL_append]; omega) (fun a => by rw [cuL_append]; omega)
end
section
variable {X : Cx} {m ma mb : PM} {me m1 m2 : EM} {e a b tg iter : Expr} {pos p : Pos} {U P : List Nat} {st : Stmt} {rest body orelse : List Stmt} {mS nS : SM}
theorem ss_expr (h : SE X [] e me) (hs : swapsWith e none pos.line X.env = pure false := by rfl) : SS X P (.Expr e pos) (sDrop me) := PS.weak (ps_expr h hs) fun De σ H ⟨env, o, e', hm, r, s, w, k⟩ => by
  obtain ⟨x, hx, e1⟩ := map_some hm
  cases e1
  exact goE (d := x.1) (e' := x.2) (Cf.start r s w) hx fun t env1 H1 e1 e2 c1 _ => k [] σ env1 H1 e2 c1.toNil (fun _ _ => rfl) rfl
theorem set_pin {σ : L2.St} {i : Nat} {v : Option V} {P : List Nat} (h : i ∉ P) : ∀ j ∈ P, (σ.set i v)[j]? = σ[j]? := fun j hj => by
  rw [List.getElem?_set, if_neg (fun z => h (by rw [z]; exact hj))]
theorem asg_rd {De : Ends} {σ : L2.St} {H : Hp} {i : Nat} (hP : i ∉ P) (h : trS X P (sSet i me) De σ H) : tAsg (trE X.K [] me) (gName i) De σ H := by
  obtain ⟨env, o, e', hm, r, s, w, k⟩ := h
  obtain ⟨x, hx, e1⟩ := map_some hm
  cases e1
  refine goE (d := x.1) (e' := x.2) (Cf.start r s w) hx fun t env1 H1 e1 e2 c1 _ => ?_
  refine k [] (σ.set i (some t.val)) (env1.set i (some t)) H1 (by rw [erE_set, e2, ← e1]; rfl) (c1.less c1.rel.set trivial (c1.satE.set fun u hu => by cases hu; exact c1.satF.1) (fun a => ?_) fun a => ?_) (set_pin hP) rfl
  · have := set_co (env := env1) (j := i) (t := t) (a := a)
    simp only [coL]; omega
  · have := set_cu (env := env1) (j := i) (t := t) (a := a)
    simp only [cuL]; omega
theorem ss_set {x : Str} {pos' : Pos} (i : Nat) (hN : X.N.Nodup) (hP : i ∉ P) (h : SE X [] e me) (hi : X.N[i]? = some x := by rfl) (hx : Loc X.env.scope x := by first | exact .inl rfl | exact .inr rfl) (hs : swapsWith e (some (.Name x pos')) pos.line X.env = pure false := by rfl)
    (hf : X.fn x = true ∨ X.env.scope.names.lookup x = some .local := by first | exact .inl rfl | exact .inr rfl | assumption) : SS X P (.Assign [.Name x pos'] e pos) (sSet i me) :=
  PS.weak (ps_set (i := i) hN hi hx h hs hf) fun De σ H h => asg_rd hP h
theorem ss_setLc {elt : Expr} {ifs : List Expr} {scope : Scope} {own : List (Str × Nat)} {mi : LM} {g : Tg} {mt : BM} {ml : PM} {y : Str} {py spos : Pos} (i : Nat) (hP : i ∉ P) (hc : X.calm = true) (hN : X.N.Nodup) (hi : SI X tg iter mi) (ok : blkC X.N X.env.scope scope own = true)
    (hg : ∀ (s : Shared) (H : Hp) (C : Addr) (cl : List (Str × Addr)) (fp : List Addr), SG (X.blk s H scope (compEnvC scope cl C X.env) fp) tg g) (ht : ∀ (s : Shared) (H : Hp) (C : Addr) (cl : List (Str × Addr)) (fp : List Addr), STs (X.blk s H scope (compEnvC scope cl C X.env) fp) ifs mt)
    (he : ∀ (s : Shared) (H : Hp) (C : Addr) (cl : List (Str × Addr)) (fp : List Addr), SP (X.blk s H scope (compEnvC scope cl C X.env) fp) elt ml) (hsl : ∀ i ∈ g.sl, i ∈ own.map (·.2))
    (hsw : swapsWith (.ListComp elt [⟨tg, iter, ifs, 0⟩] scope pos) (some (.Name y py)) spos.line X.env = pure true) (hy : X.N[i]? = some y := by rfl) (hyl : X.env.scope.names.lookup y = some .local := by rfl) (hs : ∀ x, foldedSetIterable iter X.env x = pure x := by intro _; rfl) :
    SS X P (.Assign [.Name y py] (.ListComp elt [⟨tg, iter, ifs, 0⟩] scope pos) spos) (sSet i (lift (mLc mi g mt ml (own.map (·.2))))) :=
  PS.weak (ps_setLc (own := own) (g := gOf X.K g) (tt := trT X.K mt) (te := trP X.K ml) hc hN hy hyl hsw hi (blkOk_by ok) hg ht he hs) fun De σ H h => by
    have q := asg_rd (X := X) hP h
    obtain ⟨env, d, e', hm, r, s, w, k⟩ := q
    obtain ⟨x, hx, e1⟩ := map_some hm
    cases e1
    exact lc_rd hsl (goP (Cf.start r s w) hx fun t H' e1 x c => k t env H' e1 rfl c fun _ _ => rfl)
theorem ss_ret (h : SE X [] e me) : SS X P (.Return (some e) pos) (sRet me) := PS.weak (ps_ret h) fun De σ H ⟨env, o, e', hm, r, s, w, k⟩ => by
  obtain ⟨x, hx, e1⟩ := map_some hm
  cases e1
  exact goE (d := x.1) (e' := x.2) (Cf.start r s w) hx fun t env1 H1 e1 e2 c1 _ => (k [t] σ env1 H1 e2 c1 (fun _ _ => rfl)).1 t rfl e1
theorem ss_retN : SS X P (.Return none pos) sRetN := PS.weak ps_retN fun De σ H ⟨env, o, e', hm, r, s, w, k⟩ => by
  cases hm
  exact (k [.s .non] σ env H rfl ((Cf.start r s w).less r ⟨trivial, trivial⟩ s (fun a => by simp [coL, T.co]) (fun a => by simp [cuL, T.cu])) (fun _ _ => rfl)).1 (.s .non) rfl rfl
theorem ss_pass : SS X P (.Pass pos) sNx := PS.weak ps_pass fun De σ H ⟨env, o, e', hm, r, s, w, k⟩ => by
  cases hm
  exact k [] σ env H rfl (Cf.start r s w) (fun _ _ => rfl) rfl
theorem ss_break : SS X P (.Break pos) sBk := PS.weak ps_break fun De σ H ⟨env, o, e', hm, r, s, w, k⟩ => by
  cases hm
  exact k [] σ env H rfl (Cf.start r s w) (fun _ _ => rfl) rfl
theorem ss_continue : SS X P (.Continue pos) sCt := PS.weak ps_continue fun De σ H ⟨env, o, e', hm, r, s, w, k⟩ => by
  cases hm
  exact k [] σ env H rfl (Cf.start r s w) (fun _ _ => rfl) rfl
theorem ss_if {c : Expr} {mc : TM} (hc : SET X c mc) (h1 : SSs X P body mS) (h2 : SSs X P orelse nS) : SS X P (.If c body orelse pos) (sIf mc mS nS) := PS.weak (ps_if hc h1 h2) fun De σ H ⟨env, o, e', hm, r, s, w, k⟩ => by
  obtain ⟨x, hx, hm⟩ := bind_some hm
  refine goET (b := x.1) (e' := x.2) (Cf.start r s w) hx fun env1 H1 e1 c1 => ?_
  have fin : ∀ {n : SM}, n x.2 = some (o, e') → trS X P n De σ H1 := fun {n} hn => ⟨env1, o, e', by rw [e1]; exact hn, c1.rel, c1.satE, c1.base, fun F σ2 env2 H2 e2 c2 p2 => k F σ2 env2 H2 e2 (by
    have := c1.step c2
    rw [List.append_nil] at this
    exact this) p2⟩
  cases hb : x.1 with
  | true =>
    rw [hb, if_pos rfl] at hm
    rw [if_pos rfl]
    exact fin hm
  | false =>
    rw [hb, if_neg Bool.false_ne_true] at hm
    rw [if_neg Bool.false_ne_true]
    exact fin hm
@[simp] def sAsg (g : Tg) (m : PM) : SM := fun env => (m env).bind fun d => if d.pure = true then (bD g d env).map fun e' => (.nx, e') else none
theorem ss_asg {g : Tg} (he : SP X e m) (hg : SG X tg g) (hP : ∀ i ∈ g.sl, i ∉ P) (hs : swapsWithSole [tg] e pos.line X.env = pure false := by rfl) (hw : swappedStores [tg] e X.env = pure none := by rfl) (h1 : (assignEach [tg] X.env).map (·.2) = [assign tg X.env] := by rfl) :
    SS X P (.Assign [tg] e pos) (sAsg g m) := PS.weak (ps_asg he hg hs hw h1) fun De σ H ⟨env, o, e', hm, r, s, w, k⟩ => by
  obtain ⟨x, hx, hm⟩ := bind_some hm
  split at hm
  case isFalse => cases hm
  rename_i hp
  obtain ⟨e2, h2, e3⟩ := map_some hm
  cases e3
  refine ⟨env, x, hx, r, s, fun t H1 e1 x1 s1 o1 => ?_⟩
  rw [← e1] at h2 hp
  refine g_run g t σ env e' _ r s1 h2 fun σ' env' B => ?_
  have c1 : Cf X.K H env σ H1 [] env := (Cf.start r s w).ex x1
  refine k [] σ' env' H1 B.er (Cf.bind (t := t) ((Cf.start r s w)) x1 (fun a => pure_co t hp) (fun a q => .inr ((o1 a).2.2 q)) s1 B) (fun i hi => (B.out i fun z => hP i z hi).1) rfl
def sAug (i : Nat) (f : Int → Int → Int) (m : PM) : SM := fun env => (m env).bind fun y => match env[i]?.join, y with
  | some (.s (.int a)), .s (.int b) => some (.nx, env.set i (some (.s (.int (f a b)))))
  | _, _ => none
theorem ss_aug {x : Str} {pos' : Pos} {op : Operator} {f : Int → Int → Int} (i : Nat) (hN : X.N.Nodup) (hP : i ∉ P) (ho : PIp X op (ipI f)) (h : SB X e m) (hi : X.N[i]? = some x := by rfl) (hx : Loc X.env.scope x := by first | exact .inl rfl | exact .inr rfl)
    (hf : X.fn x = true ∨ X.env.scope.names.lookup x = some .local := by first | exact .inl rfl | exact .inr rfl | assumption) : SS X P (.AugAssign (.Name x pos') op e pos) (sAug i f m) := PS.weak (ps_aug (i := i) hN hi hx h ho hf) fun De σ H ⟨env, o, e', hm, r, s, w, k⟩ => by
  obtain ⟨y, hy, hm⟩ := bind_some hm
  split at hm
  · rename_i a b g1
    cases hm
    obtain ⟨t, h1, h2⟩ := join_get g1
    have h3 := er_int h2
    subst h3
    refine ⟨_, r.2 i _ h1, env, _, hy, r, s, fun u H1 e1 x1 s1 _ => ?_⟩
    rw [er_int e1]
    refine ⟨a, b, rfl, rfl, ?_⟩
    have c1 : Cf X.K H env σ H1 [] env := (Cf.start r s w).ex x1
    refine k [] (σ.set i (some (.int (f a b)))) (env.set i (some (.s (.int (f a b))))) H1 erE_set (c1.less (Rel.set (t := .s (.int (f a b))) c1.rel) trivial (c1.satE.set fun u hu => by cases hu; trivial) (fun a' => ?_) fun a' => ?_) (set_pin hP) rfl
    · have := set_co (env := env) (j := i) (t := .s (.int (f a b))) (a := a')
      simp only [coL, T.co] at this ⊢; omega
    · have := set_cu (env := env) (j := i) (t := .s (.int (f a b))) (a := a')
      simp only [cuL, T.cu] at this ⊢; omega
  · cases hm

/-! ### loops -/
def forD (g : Tg) (mb : SM) : List D → SM
  | [], env => some (.nx, env)
  | d :: ds, env => (bD g d env).bind fun e1 => (mb e1).bind fun x => match x.1 with
    | .nx => forD g mb ds x.2
    | .ct => forD g mb ds x.2
    | .bk => some (.nx, x.2)
    | .rt r => some (.rt r, x.2)
@[simp] def sFor (mi : LM) (g : Tg) (mb : SM) : SM := fun env => (mi env).bind fun ds => if pureL ds = true then forD g mb ds env else none
theorem pureL_at : ∀ {ds : List D} {i : Nat} {d : D}, pureL ds = true → ds[i]? = some d → d.pure = true
  | [], _, _, _, h => by simp at h
  | x :: ds, 0, d, hp, h => by
    rw [pureL, Bool.and_eq_true] at hp
    cases h
    exact hp.1
  | x :: ds, i + 1, d, hp, h => by
    rw [pureL, Bool.and_eq_true] at hp
    exact pureL_at hp.2 (by simpa using h)
theorem ss_for {mi : LM} {g : Tg} (hc : X.calm = true) (hp : PassesOwn (model X.prog X.w) X.A X.env X.xe) (hi : SJ X tg iter mi) (hg : SG X tg g) (hb : SSs X P body mS) (hP : ∀ i ∈ g.sl, i ∉ P) (hs : ∀ x, foldedSetIterable iter X.env x = pure x := by intro _; rfl) :
    SS X P (.For tg iter body [] pos) (sFor mi g mS) := PS.weak (ps_for hp hc hi hg hb hs) fun De σ H ⟨env, o, e', hm, r, s, w, k⟩ => by
  obtain ⟨ds, hds, hm⟩ := bind_some hm
  split at hm
  case isFalse => cases hm
  rename_i hpu
  refine ⟨env, ds, hds, r, s, fun J src H1 x1 ss os wk => ?_⟩
  refine ⟨fun i mm σi Hi => i ≤ ds.length ∧ mm = ds.length - i ∧ ∃ envi, forD g mS (ds.drop i) (erE envi) = some (o, e') ∧ Cf X.K H env σi Hi src envi ∧ ∀ j ∈ P, σi[j]? = σ[j]?,
    ⟨ds.length, Nat.zero_le _, rfl, env, hm, Cf.pureL r s w x1 ss os, fun _ _ => rfl⟩, fun i mm σi Hi W => ?_⟩
  obtain ⟨le, ms, envi, hf, c, pi⟩ := W
  by_cases hlt : i < ds.length
  · refine .inr ⟨wk.go i Hi c.satF hlt, fun σ' H' => ∃ m', m' < mm ∧ (i + 1 ≤ ds.length ∧ m' = ds.length - (i + 1) ∧ ∃ envi, forD g mS (ds.drop (i + 1)) (erE envi) = some (o, e') ∧ Cf X.K H env σ' H' src envi ∧ ∀ j ∈ P, σ'[j]? = σ[j]?), fun σ' H' h => h, fun x H3 hy => ?_⟩
    have hd := List.getElem?_eq_getElem hlt
    obtain ⟨t, rfl, et, x3, s3, c3, u3⟩ := wk.yld i Hi x H3 c.satF hy _ hd
    rw [List.drop_eq_getElem_cons hlt, forD] at hf
    obtain ⟨e1, hb1, hf⟩ := bind_some hf
    obtain ⟨y, hb2, hf⟩ := bind_some hf
    rw [← et] at hb1
    have pt : t.er.pure = true := by rw [et]; exact pureL_at hpu hd
    refine g_run g t σi envi e1 _ c.rel s3 hb1 fun σ2 env2 B => ?_
    have c2 : Cf X.K H env σ2 H3 src env2 := Cf.bind c x3 (fun a => pure_co t pt) (fun a q => (u3 a q).elim .inl fun z => .inr (.inr z)) s3 B
    refine ⟨env2, y.1, y.2, by rw [B.er]; exact hb2, c2.rel, c2.satE, c2.base, fun F σ3 env3 H4 e3 c4 p4 => ?_⟩
    have c5 := c2.step c4
    have p5 : ∀ j ∈ P, σ3[j]? = σ[j]? := fun j hj => (p4 j hj).trans ((B.out j fun z => hP j z hj).1.trans (pi j hj))
    obtain ⟨yo, ye⟩ := y
    cases yo with
    | nx =>
      intro hF
      subst hF
      exact ⟨mm - 1, by omega, hlt, by omega, env3, by rw [e3]; exact hf, c5, p5⟩
    | ct =>
      intro hF
      subst hF
      exact ⟨mm - 1, by omega, hlt, by omega, env3, by rw [e3]; exact hf, c5, p5⟩
    | bk =>
      intro hF
      subst hF
      cases hf
      exact k [] σ3 env3 H4 e3 c5.toNil p5 rfl
    | rt d =>
      cases hf
      exact k F σ3 env3 H4 e3 c5.dropB p5
  · have hi3 : ds.length ≤ i := Nat.le_of_not_lt hlt
    refine .inl ⟨wk.stop i Hi c.satF hi3, ?_⟩
    rw [List.drop_eq_nil_of_le hi3, forD] at hf
    cases hf
    exact k [] σi envi Hi rfl c.toNil pi rfl
def whD (mc : TM) (mb : SM) : Nat → SM
  | 0, _ => none
  | n + 1, env => (mc env).bind fun x => if x.1 = true then (mb x.2).bind fun y => match y.1 with
      | .nx => whD mc mb n y.2
      | .ct => whD mc mb n y.2
      | .bk => some (.nx, y.2)
      | .rt r => some (.rt r, y.2)
    else some (.nx, x.2)
theorem ss_while {c : Expr} {mc : TM} (n : Nat) (hp : PassesOwn (model X.prog X.w) X.A X.env X.xe) (hc : SET X c mc) (hb : SSs X P body mS) : SS X P (.While c body [] pos) (whD mc mS n) := PS.weak (ps_while hp hc hb) fun De σ H ⟨env, o, e', hm, r, s, w, k⟩ => by
  refine ⟨fun mm σi Hi => ∃ envi, whD mc mS mm (erE envi) = some (o, e') ∧ Cf X.K H env σi Hi [] envi ∧ ∀ j ∈ P, σi[j]? = σ[j]?, ⟨n, env, hm, Cf.start r s w, fun _ _ => rfl⟩, fun mm σi Hi W => ?_⟩
  obtain ⟨envi, hf, ci, pi⟩ := W
  cases mm with
  | zero => cases hf
  | succ mm =>
    rw [whD] at hf
    obtain ⟨x, hx, hf⟩ := bind_some hf
    refine goET (b := x.1) (e' := x.2) ci hx fun env1 H1 e1 c1 => ?_
    obtain ⟨xb, xe⟩ := x
    cases xb with
    | true =>
      dsimp only at hf ⊢
      rw [if_pos rfl] at hf ⊢
      obtain ⟨y, hy, hf⟩ := bind_some hf
      refine ⟨fun σ' H' => ∃ m', m' < mm + 1 ∧ ∃ envi, whD mc mS m' (erE envi) = some (o, e') ∧ Cf X.K H env σ' H' [] envi ∧ ∀ j ∈ P, σ'[j]? = σ[j]?, fun σ' H' h => h, ?_⟩
      refine ⟨env1, y.1, y.2, by rw [e1]; exact hy, c1.rel, c1.satE, c1.base, fun F σ3 env3 H4 e3 c4 p4 => ?_⟩
      have c5 := c1.step c4
      rw [List.append_nil] at c5
      have p5 : ∀ j ∈ P, σ3[j]? = σ[j]? := fun j hj => (p4 j hj).trans (pi j hj)
      obtain ⟨yo, ye⟩ := y
      cases yo with
      | nx =>
        intro hF
        subst hF
        exact ⟨mm, by omega, env3, by rw [e3]; exact hf, c5, p5⟩
      | ct =>
        intro hF
        subst hF
        exact ⟨mm, by omega, env3, by rw [e3]; exact hf, c5, p5⟩
      | bk =>
        intro hF
        subst hF
        cases hf
        exact k [] σ3 env3 H4 e3 c5 p5 rfl
      | rt d =>
        cases hf
        exact k F σ3 env3 H4 e3 c5 p5
    | false =>
      dsimp only at hf ⊢
      rw [if_neg Bool.false_ne_true] at hf ⊢
      cases hf
      exact k [] σi env1 H1 e1 c1 pi rfl

/-! ### by the way: a slot's tree held for shared from here on; forgotten -/
@[simp] def frzAt (i : Nat) (env : Env) : Env := match env[i]?.join with
  | some d => env.set i (some d.frz)
  | none => env
theorem sss_weakE (h : SSs X P rest mS) {nS : SM} (w : ∀ (De : Ends) σ H, trS X P nS De σ H → trS X P mS De σ H) : SSs X P rest nS := PSs.weak h fun De σ H z => w De σ H z
theorem sss_frz (i : Nat) (h : SSs X P rest mS) : SSs X P rest (fun env => mS (frzAt i env)) := sss_weakE h fun De σ H ⟨env, o, e', hm, r, s, w, k⟩ => by
  unfold frzAt at hm
  dsimp only at hm
  split at hm
  · rename_i d hd
    obtain ⟨t, h1, h2⟩ := join_get hd
    have h1' : env[i]? = some (some t) := h1
    have l1 : ∀ a, coE a (env.set i (some t.frz)) + t.co a = coE a env := fun a => by
      have := coE_set (a := a) (some t.frz) h1'
      simp only [oT, frz_co] at this
      omega
    have l2 : ∀ a, cuE a (env.set i (some t.frz)) = t.co a + cuE a env := fun a => by
      have := cuE_set (a := a) (some t.frz) h1'
      simp only [oT, frz_cu] at this
      omega
    have l3 : ∀ a, t.co a ≤ coE a env := fun a => coE_get h1'
    refine ⟨env.set i (some t.frz), o, e', ?_, r.swap h1' (frz_val t), s.set fun u hu => by cases hu; exact frz_sat t (s.get h1'), fun a => ?_, fun F σ' env' H' e1 c1 p1 => ?_⟩
    · rw [erE_set]
      show mS ((erE env).set i (some t.frz.er)) = _
      rw [frz_er, h2]
      exact hm
    · have := w a
      have := l1 a
      have := l2 a
      have := l3 a
      simp only [coL, cuL, Nat.zero_add] at *
      omega
    · refine k F σ' env' H' e1 ⟨c1.rel, c1.satF, c1.satE, c1.wf, ?_⟩ p1
      refine Stp.trans (H1 := H) (c1 := fun a => coL a [] + coE a (env.set i (some t.frz))) (u1 := fun a => cuL a [] + cuE a (env.set i (some t.frz))) ⟨fun a o h _ => h, fun a h => h, fun a => ?_⟩ c1.stp
      have := l1 a
      have := l2 a
      have := l3 a
      simp only [coL, cuL, Nat.zero_add]
      exact ⟨fun q => .inl (by omega), fun q => if z : 0 < t.co a then .inl (by omega) else .inr (.inl (by omega))⟩
  · exact ⟨env, o, e', hm, r, s, w, k⟩
theorem sss_drop (i : Nat) (h : SSs X P rest mS) : SSs X P rest (fun env => mS (env.set i none)) := sss_weakE h fun De σ H ⟨env, o, e', hm, r, s, w, k⟩ => by
  have l1 : ∀ a, coE a (env.set i none) ≤ coE a env := fun a => none_co
  have l2 : ∀ a, cuE a (env.set i none) ≤ cuE a env := fun a => none_cu
  refine ⟨env.set i none, o, e', by rw [erE_set]; exact hm, r.drop, s.set (fun u hu => by cases hu), fun a => ?_, fun F σ' env' H' e1 c1 p1 => ?_⟩
  · have := w a
    have := l1 a
    have := l2 a
    simp only [coL, cuL, Nat.zero_add] at *
    omega
  · refine k F σ' env' H' e1 ⟨c1.rel, c1.satF, c1.satE, c1.wf, ?_⟩ p1
    refine Stp.trans (H1 := H) (c1 := fun a => coL a [] + coE a (env.set i none)) (u1 := fun a => cuL a [] + cuE a (env.set i none)) ⟨fun a o h _ => h, fun a h => h, fun a => ?_⟩ c1.stp
    have := l1 a
    have := l2 a
    simp only [coL, cuL, Nat.zero_add]
    exact ⟨fun q => .inl (by omega), fun q => .inr (.inl (by omega))⟩
end
end Ow

namespace Ow
open PySem L2

/-! ### a def by its body -/
@[simp] def initD (n : Nat) (ds : List D) : Env := ds.map some ++ List.replicate (n - ds.length) none
@[simp] def runP (n : Nat) (mS : SM) : FM := fun ds => (mS (initD n ds)).bind fun x => match x.1 with
  | .rt d => if d.isx = true then none else some d
  | .nx => some (.s .non)
  | _ => none
theorem start_eq {N : List Str} {vs : List V} (h : vs.length ≤ N.length) : L2.start N vs = vs.map some ++ List.replicate (N.length - vs.length) none := by
  unfold L2.start
  rfl
section
variable {K : PySem.W.Frag} {H H' : Hp} {a : Addr}
def initT (n : Nat) (ts : List T) : TEnv := ts.map some ++ List.replicate (n - ts.length) none
theorem init_er (n : Nat) (ts : List T) : erE (initT n ts) = initD n (erL ts) := by
  rw [erE, initT, initD, List.map_append, List.map_replicate, erL_length, erL_map, List.map_map, List.map_map]
  rfl
theorem init_co (n : Nat) (ts : List T) : coE a (initT n ts) = coL a ts := by
  rw [initT]
  induction ts with
  | nil =>
    rw [List.map_nil, List.nil_append, coL]
    generalize n - ([] : List T).length = k
    induction k with
    | zero => rfl
    | succ k ih => rw [List.replicate_succ, coE, ih]; rfl
  | cons t ts ih =>
    have : ∀ k, coE a (ts.map some ++ List.replicate k none) = coL a ts := fun k => by
      clear ih
      induction ts with
      | nil =>
        rw [List.map_nil, List.nil_append, coL]
        induction k with
        | zero => rfl
        | succ k ih => rw [List.replicate_succ, coE, ih]; rfl
      | cons u us ih2 => rw [List.map_cons, List.cons_append, coE, coL, ih2]; rfl
    rw [List.map_cons, List.cons_append, coE, coL, this]; rfl
theorem init_cu (n : Nat) (ts : List T) : cuE a (initT n ts) = cuL a ts := by
  have : ∀ k, cuE a (ts.map some ++ List.replicate k none) = cuL a ts := fun k => by
    induction ts with
    | nil =>
      rw [List.map_nil, List.nil_append, cuL]
      induction k with
      | zero => rfl
      | succ k ih => rw [List.replicate_succ, cuE, ih]; rfl
    | cons u us ih2 => rw [List.map_cons, List.cons_append, cuE, cuL, ih2]; rfl
  rw [initT, this]
theorem init_sat {n : Nat} {ts : List T} (h : satL K H ts) : SatE K H (initT n ts) := fun t ht => by
  rcases List.mem_append.mp ht with q | q
  · obtain ⟨u, hu, e⟩ := List.mem_map.mp q
    cases e
    exact satL_iff.mp h _ hu
  · exact absurd (List.eq_of_mem_replicate q) (by simp)
theorem init_rel {N : List Str} {ts : List T} (h : ts.length ≤ N.length) : Rel (L2.start N (vals ts)) (initT N.length ts) := by
  rw [start_eq (by rw [List.length_map]; exact h), initT]
  refine ⟨by simp, fun i t ht => ?_⟩
  by_cases q : i < ts.length
  · rw [List.getElem?_append_left (by rw [List.length_map]; exact q), List.getElem?_map] at ht
    rw [List.getElem?_append_left (by rw [List.length_map, List.length_map]; exact q), List.getElem?_map, List.getElem?_map]
    obtain ⟨u, hu, e⟩ := map_some ht
    cases e
    rw [hu]; rfl
  · rw [List.getElem?_append_right (by rw [List.length_map]; omega)] at ht
    exact absurd (List.eq_of_mem_replicate (List.mem_of_getElem? ht)) (by simp)
end
section
variable {P : Program} {w : World} {K : PySem.W.Frag} {mg : Str → Option Value} {base : Heap}
theorem fn_pure {x qual : Str} {st : Stmt} {f : Addr} {fd : FuncData} {N ps : List Str} {k : Nat} {mS : SM} (F : Fun K x qual st f fd) (S : FnScope N ps (defScope st)) (hl : ps.length ≤ N.length)
    (hbody : ∀ (cdv : Value) (A : Around) (outer : List PySem.Env) (s : Shared) (H : Hp) (E : XK), Room k (A.deeper (PyProof.Rows.envOfC qual (defScope st) s.heap.objs.size f cdv)) → SSs (cxOf CX0 P w K mg base N qual (defScope st) f cdv A outer s H E).nox [] (defBody st) mS) :
    FnOk P w K mg base CX0 (k + 1) f fd ps (spP K ps.length (runP N.length mS)) := by
  refine F.ok S (fun vs H Q E ⟨ts, d, e1, e2, _⟩ => by rw [e1, List.length_map, e2]) fun cdv A outer s H vs Q E hr ⟨ts, d, e1, e2, s1, hf, kk⟩ => ⟨_, hbody cdv A outer s H E hr, ?_⟩
  subst e1
  obtain ⟨x, hx, hm⟩ := bind_some hf
  rw [← frzL_er] at hx
  have hv : vals ts = vals (frzL ts) := (frzL_vals ts).symm
  have hlen : (frzL ts).length = ts.length := by
    have := congrArg List.length hv
    simpa using this.symm
  rw [hv]
  have nc : ∀ a, coE a (initT N.length (frzL ts)) = 0 := fun a => by rw [init_co, frzL_co]
  refine ⟨initT N.length (frzL ts), x.1, x.2, by rw [init_er]; exact hx, init_rel (by rw [hlen, e2]; exact hl), init_sat (frzL_sat ts s1), fun a => ?_, fun F σ' env' H' e3 c _ => ?_⟩
  · simp only [coL, cuL, Nat.zero_add, nc]
    simp
  · have hx2 : Ex H H' := fun a o h => c.stp.1 a o h (by simp only [coL, nc])
    have fin : ∀ t : T, F = [t] → t.er = d → Q t.val H' := fun t hF et => by
      subst hF
      refine kk t H' et hx2 c.satF.1 fun a => ?_
      have w1 := c.wf a
      have s2 := c.stp.2.2 a
      simp only [coL, cuL, Nat.zero_add, Nat.add_zero, nc, init_cu, frzL_cu] at w1 s2
      refine ⟨by omega, fun q => ?_, fun q => ?_⟩
      · rcases s2.1 (by omega) with z | z
        · exact absurd z (Nat.lt_irrefl _)
        · exact z
      · rcases s2.2 (by omega) with z | z | z
        · exact absurd z (Nat.lt_irrefl _)
        · by_cases q2 : 0 < coL a ts
          · exact .inl q2
          · exact .inr (.inl (by omega))
        · exact .inr (.inr z)
    obtain ⟨xo, xe⟩ := x
    cases xo with
    | nx =>
      intro hF
      cases hm
      subst hF
      exact kk (.s .non) H' rfl hx2 trivial fun a => ⟨⟨Nat.zero_le _, .inl rfl⟩, fun q => absurd q (by simp [T.co]), fun q => absurd q (by simp [T.cu])⟩
    | bk => cases hm
    | ct => cases hm
    | rt d' =>
      dsimp only at hm
      split at hm
      case isTrue => cases hm
      rename_i hx3
      cases hm
      exact ⟨fin, fun n C hC _ _ => by subst hC; exact absurd rfl hx3⟩
end
end Ow

namespace Ow
open PySem L2

/-! ### defs that change what they are handed -/
/-- the trees of some slots, taken out -/
@[simp] def pickD : List Nat → Env → Option (List D)
  | [], _ => some []
  | i :: is, env => (env[i]?.join).bind fun d => (pickD is (env.set i none)).map (d :: ·)
@[simp] def runM (n : Nat) (mu : List Nat) (mS : SM) : List D → Option (D × List D) := fun ds => (mS (initD n ds)).bind fun x => match x.1 with
  | .rt d => if d.isx = true then none else (pickD mu x.2).map fun os => (d, os)
  | .nx => (pickD mu x.2).map fun os => (.s .non, os)
  | _ => none
abbrev FMu := List D → Option (D × List D)
def spM (K : PySem.W.Frag) (n : Nat) (mu : List Nat) (f : FMu) : Sp := fun vs H Q _ => ∃ ts d os, vs = vals ts ∧ ts.length = n ∧ satL K H ts ∧ Wf (fun a => coL a ts) (fun a => cuL a ts) ∧ f (erL ts) = some (d, os) ∧
  ∀ (t : T) (us : List T) H', t.er = d → erL us = os → (∀ j i : Nat, mu[j]? = some i → ∀ v, vs[i]? = some v → (vals us)[j]? = some v) → t.sat K H' → satL K H' us → Wf (fun a => t.co a + coL a us) (fun a => t.cu a + cuL a us) →
    Stp H (fun a => coL a ts) (fun a => cuL a ts) H' (fun a => t.co a + coL a us) (fun a => t.cu a + cuL a us) → Q t.val H'
section
variable {K : PySem.W.Frag} {H H' : Hp}
theorem pick_run : ∀ {mu : List Nat} {env : TEnv} {os : List D}, SatE K H env → pickD mu (erE env) = some os →
    ∃ us, erL us = os ∧ satL K H us ∧ (∀ a, coL a us ≤ coE a env) ∧ (∀ a, cuL a us ≤ cuE a env) ∧ ∀ j i : Nat, mu[j]? = some i → ∃ t, us[j]? = some t ∧ env[i]? = some (some t)
  | [], env, os, s, h => by
    rw [pickD] at h
    cases h
    exact ⟨[], rfl, trivial, fun a => Nat.zero_le _, fun a => Nat.zero_le _, fun j i hj => by simp at hj⟩
  | i :: is, env, os, s, h => by
    rw [pickD] at h
    obtain ⟨d, h1, h⟩ := bind_some h
    obtain ⟨os', h2, rfl⟩ := map_some h
    obtain ⟨t, e1, e2⟩ := join_get h1
    rw [show (erE env).set i none = erE (env.set i none) from (erE_set (o := none)).symm] at h2
    obtain ⟨us, g1, g2, g3, g4, g5⟩ := pick_run (mu := is) (s.set fun u hu => by cases hu) h2
    refine ⟨t :: us, by rw [erL, e2, g1], ⟨s.get e1, g2⟩, fun a => ?_, fun a => ?_, fun j k hj => ?_⟩
    · have := coE_set (a := a) none e1
      have := g3 a
      simp only [oT] at *
      rw [coL]; omega
    · have := cuE_set (a := a) none e1
      have := g4 a
      simp only [oT] at *
      rw [cuL]; omega
    · cases j with
      | zero =>
        simp at hj
        subst hj
        exact ⟨t, rfl, e1⟩
      | succ j =>
        simp at hj
        obtain ⟨u, hu, hk⟩ := g5 j k hj
        refine ⟨u, by simpa using hu, ?_⟩
        rw [List.getElem?_set] at hk
        split at hk
        · split at hk <;> cases hk
        · exact hk
end
section
variable {P : Program} {w : World} {K : PySem.W.Frag} {mg : Str → Option Value} {base : Heap}
theorem fn_mut {x qual : Str} {st : Stmt} {f : Addr} {fd : FuncData} {N ps : List Str} {k : Nat} {mS : SM} {mu : List Nat} (F : Fun K x qual st f fd) (S : FnScope N ps (defScope st)) (hl : ps.length ≤ N.length) (hmu : ∀ i ∈ mu, i < ps.length)
    (hbody : ∀ (cdv : Value) (A : Around) (outer : List PySem.Env) (s : Shared) (H : Hp) (E : XK), Room k (A.deeper (PyProof.Rows.envOfC qual (defScope st) s.heap.objs.size f cdv)) → SSs (cxOf CX0 P w K mg base N qual (defScope st) f cdv A outer s H E).nox mu (defBody st) mS) :
    FnOk P w K mg base CX0 (k + 1) f fd ps (spM K ps.length mu (runM N.length mu mS)) := by
  refine F.ok S (fun vs H Q E ⟨ts, d, os, e1, e2, _⟩ => by rw [e1, List.length_map, e2]) fun cdv A outer s H vs Q E hr ⟨ts, d, os, e1, e2, s1, wf, hf, kk⟩ => ⟨_, hbody cdv A outer s H E hr, ?_⟩
  subst e1
  obtain ⟨x, hx, hm⟩ := bind_some hf
  have r0 : Rel (L2.start N (vals ts)) (initT N.length ts) := init_rel (by rw [e2]; exact hl)
  refine ⟨initT N.length ts, x.1, x.2, by rw [init_er]; exact hx, r0, init_sat s1, fun a => ?_, fun F σ' env' H' e3 c p => ?_⟩
  · have := wf a
    simp only [coL, cuL, Nat.zero_add, init_co, init_cu] at this ⊢
    exact this
  · have fin : ∀ (t : T) (F' : List T) (os' : List D), (∀ a, t.co a + coE a env' ≤ coL a F + coE a env') → (∀ a, t.cu a + cuE a env' ≤ cuL a F + cuE a env') → t.sat K H' → t.er = d → pickD mu x.2 = some os' → os' = os → Q t.val H' := fun t F' os' n1 n2 st et ho eo => by
      subst eo
      rw [← e3] at ho
      obtain ⟨us, g1, g2, g3, g4, g5⟩ := pick_run c.satE ho
      have c2 := c.less (F' := t :: us) (env' := []) (σ' := []) ⟨rfl, fun i t h => by simp at h⟩ ⟨st, g2⟩ (fun u hu => by cases hu) (fun a => by have := n1 a; have := g3 a; simp only [coL, coE]; omega) (fun a => by have := n2 a; have := g4 a; simp only [cuL, cuE]; omega)
      refine kk t us H' et g1 (fun j i hj v hv => ?_) st g2 (fun a => ?_) ?_
      · obtain ⟨u, hu, hi⟩ := g5 j i hj
        have q := c.rel.2 i u hi
        rw [p i (List.mem_of_getElem? hj)] at q
        have hi2 := hmu i (List.mem_of_getElem? hj)
        rw [vals, List.getElem?_map] at hv
        obtain ⟨tv, htv, rfl⟩ := map_some hv
        have q0 := r0.2 i tv (by rw [initT, List.getElem?_append_left (by rw [List.length_map, e2]; exact hi2), List.getElem?_map, htv]; rfl)
        rw [q0] at q
        have q1 : tv.val = u.val := Option.some.inj (Option.some.inj q)
        rw [vals, List.getElem?_map, hu, q1]; rfl
      · have := c2.wf a
        simp only [coL, cuL, coE, cuE, Nat.add_zero] at this
        exact this
      · have := c2.stp
        simp only [StpF, coL, cuL, coE, cuE, Nat.add_zero, Nat.zero_add, init_co, init_cu] at this
        exact this
    obtain ⟨xo, xe⟩ := x
    cases xo with
    | nx =>
      intro hF
      obtain ⟨os', ho, e4⟩ := map_some hm
      cases e4
      exact fin (.s .non) [] os (fun a => by simp [T.co]) (fun a => by simp [T.cu]) trivial rfl ho rfl
    | bk => cases hm
    | ct => cases hm
    | rt d' =>
      dsimp only at hm
      split at hm
      case isTrue => cases hm
      rename_i hx3
      obtain ⟨os', ho, e4⟩ := map_some hm
      cases e4
      refine ⟨fun t hF et => ?_, fun n C hC _ _ => by subst hC; exact absurd rfl hx3⟩
      subst hF
      exact fin t [] os (fun a => by simp only [coL]; omega) (fun a => by simp only [cuL]; omega) c.satF.1 et ho rfl
end

/-! ### their calls -/
inductive As where
  | ev (m : EM)
  | tm (m : EM)
  | bor (i : Nat)
  | mv (i : Nat)
@[simp] def evA : List As → Env → Option (List D × Env)
  | [], env => some ([], env)
  | .ev m :: r, env => (m env).bind fun x => (evA r x.2).map fun y => (x.1 :: y.1, y.2)
  | .tm m :: r, env => (m env).bind fun x => (evA r x.2).map fun y => (x.1 :: y.1, y.2)
  | .bor _ :: r, env => evA r env
  | .mv _ :: r, env => evA r env
@[simp] def insA : List As → List D → Env → Option (List D × Env)
  | [], _, env => some ([], env)
  | .ev _ :: r, d :: ds, env => (insA r ds env).map fun y => (d.frz :: y.1, y.2)
  | .ev _ :: _, [], _ => none
  | .tm _ :: r, d :: ds, env => (insA r ds env).map fun y => (d :: y.1, y.2)
  | .tm _ :: _, [], _ => none
  | .bor i :: r, ds, env => (env[i]?.join).bind fun d => (insA r ds env).map fun y => (d.frz :: y.1, y.2)
  | .mv i :: r, ds, env => (env[i]?.join).bind fun d => (insA r ds (env.set i none)).map fun y => (d :: y.1, y.2)
@[simp] def putA : List As → List D → Env → Option Env
  | [], [], env => some env
  | .mv i :: r, o :: os, env => putA r os (env.set i (some o))
  | .tm _ :: r, _ :: os, env => putA r os env
  | .ev _ :: r, os, env => putA r os env
  | .bor _ :: r, os, env => putA r os env
  | _, _, _ => none
/-- the slots handed on, those lent -/
@[simp] def muS : List As → List Nat
  | [] => []
  | .mv i :: r => i :: muS r
  | .ev _ :: r => muS r
  | .tm _ :: r => muS r
  | .bor _ :: r => muS r
@[simp] def boS : List As → List Nat
  | [] => []
  | .bor i :: r => i :: boS r
  | .ev _ :: r => boS r
  | .tm _ :: r => boS r
  | .mv _ :: r => boS r
/-- the places of those handed on, among the arguments -/
def muP : Nat → List As → List Nat
  | _, [] => []
  | n, .mv _ :: r => n :: muP (n + 1) r
  | n, .ev _ :: r => muP (n + 1) r
  | n, .tm _ :: r => n :: muP (n + 1) r
  | n, .bor _ :: r => muP (n + 1) r
@[simp] def eCallM (f : FMu) (as : List As) : EM := fun env => if ((muS as ++ boS as).all fun i => (env[i]?.join).isSome) = false then none else (evA as env).bind fun x => (insA as x.1 x.2).bind fun y => (f y.1).bind fun z => if (z.1.noF && noFL z.2) = true then (putA as z.2 y.2).map fun e => (z.1, e) else none
def ArgV (σ : L2.St) : List As → List T → List V → Prop
  | [], F, vs => F = [] ∧ vs = []
  | .ev _ :: r, t :: F, vs => ∃ vs', vs = t.val :: vs' ∧ ArgV σ r F vs'
  | .ev _ :: _, [], _ => False
  | .tm _ :: r, t :: F, vs => ∃ vs', vs = t.val :: vs' ∧ ArgV σ r F vs'
  | .tm _ :: _, [], _ => False
  | .bor i :: r, F, vs => ∃ v vs', vs = v :: vs' ∧ σ[i]? = some (some v) ∧ ArgV σ r F vs'
  | .mv i :: r, F, vs => ∃ v vs', vs = v :: vs' ∧ σ[i]? = some (some v) ∧ ArgV σ r F vs'
def trEA (K : PySem.W.Frag) (U : List Nat) (as : List As) : TA := fun σ H Q => ∃ env ds e', evA as (erE env) = some (ds, e') ∧ Rel σ env ∧ SatE K H env ∧ WfF [] env ∧ (∀ i ∈ muS as ++ boS as, ∃ v, σ[i]? = some (some v)) ∧
  ∀ F env' H' vs, erL F = ds → erE env' = e' → Cf K H env σ H' F env' → (∀ i ∈ U, env'[i]? = env[i]?) → ArgV σ as F vs → Q vs H'
def SEA (X : Cx) (U : List Nat) (es : List Expr) (as : List As) : Prop := PA X es (trEA X.K U as)
section
variable {X : Cx} {e : Expr} {es : List Expr} {pos p : Pos} {U : List Nat} {as : List As}
theorem sea_nil : SEA X U [] [] := PA.weak pa_nil fun σ H Q ⟨env, ds, e', hm, r, s, w, hv, k⟩ => by
  cases hm
  exact k [] env H [] rfl rfl (Cf.start r s w) (fun _ _ => rfl) ⟨rfl, rfl⟩
theorem sea_ev {m : EM} (h : SE X U e m) (hr : SEA X U es as) (hs : starEach (e :: es) X.env = (false, eval e X.env) :: starEach es X.env := by rfl) : SEA X U (e :: es) (.ev m :: as) := PA.weak (pa_cons h hr hs) fun σ H Q ⟨env, ds, e', hm, r, s, w, hv, k⟩ => by
  rw [evA] at hm
  obtain ⟨x, hx, hm⟩ := bind_some hm
  obtain ⟨y, hy, e1⟩ := map_some hm
  cases e1
  refine goE (d := x.1) (e' := x.2) (Cf.start r s w) hx fun t env1 H1 e1 e2 c1 u1 => ?_
  refine ⟨env1, y.1, y.2, by rw [e2]; exact hy, c1.rel, c1.satE, c1.base, hv, fun F env2 H2 vs e3 e4 c2 u2 av => ?_⟩
  have c3 := c1.step c2
  have c4 : Cf X.K H env σ H2 (t :: F) env2 := c3.less c3.rel ⟨(satL_append.mp c3.satF).2.1, (satL_append.mp c3.satF).1⟩ c3.satE (fun a => by simp only [coL_append, coL]; omega) (fun a => by simp only [cuL_append, cuL]; omega)
  exact k (t :: F) env2 H2 (t.val :: vs) (by rw [erL, e1, e3]) e4 c4 (fun i hi => (u2 i hi).trans (u1 i hi)) ⟨vs, rfl, av⟩
theorem sea_tm {m : EM} (h : SE X U e m) (hr : SEA X U es as) (hs : starEach (e :: es) X.env = (false, eval e X.env) :: starEach es X.env := by rfl) : SEA X U (e :: es) (.tm m :: as) := PA.weak (pa_cons h hr hs) fun σ H Q ⟨env, ds, e', hm, r, s, w, hv, k⟩ => by
  rw [evA] at hm
  obtain ⟨x, hx, hm⟩ := bind_some hm
  obtain ⟨y, hy, e1⟩ := map_some hm
  cases e1
  refine goE (d := x.1) (e' := x.2) (Cf.start r s w) hx fun t env1 H1 e1 e2 c1 u1 => ?_
  refine ⟨env1, y.1, y.2, by rw [e2]; exact hy, c1.rel, c1.satE, c1.base, hv, fun F env2 H2 vs e3 e4 c2 u2 av => ?_⟩
  have c3 := c1.step c2
  have c4 : Cf X.K H env σ H2 (t :: F) env2 := c3.less c3.rel ⟨(satL_append.mp c3.satF).2.1, (satL_append.mp c3.satF).1⟩ c3.satE (fun a => by simp only [coL_append, coL]; omega) (fun a => by simp only [cuL_append, cuL]; omega)
  exact k (t :: F) env2 H2 (t.val :: vs) (by rw [erL, e1, e3]) e4 c4 (fun i hi => (u2 i hi).trans (u1 i hi)) ⟨vs, rfl, av⟩
theorem sea_nm {x : Str} {i : Nat} {mk : Nat → As} (hmk : mk = .bor ∨ mk = .mv) (hr : SEA X U es as) (hN : X.N[i]? = some x := by rfl) (hv : Vis X.env.scope x := by first | exact .inl rfl | exact .inr (.inl rfl) | exact .inr (.inr rfl))
    (hd : (x == ("__debug__" : Str)) = false := by decide) (hcd : (x == ("__classdict__" : Str)) = false := by decide) (hs : starEach (.Name x p :: es) X.env = (false, eval (.Name x p) X.env) :: starEach es X.env := by rfl) : SEA X U (.Name x p :: es) (mk i :: as) :=
  PA.weak (pa_cons (pe_var (i := i) hN hv hd hcd) hr hs) fun σ H Q ⟨env, ds, e', hm, r, s, w, hv, k⟩ => by
    have hm2 : evA as (erE env) = some (ds, e') := by
      rcases hmk with q | q <;> (subst q; rw [evA] at hm; exact hm)
    have hin : i ∈ muS (mk i :: as) ++ boS (mk i :: as) := by
      rcases hmk with q | q <;> (subst q; simp [muS, boS])
    obtain ⟨v, hvi⟩ := hv i hin
    refine ⟨v, hvi, env, ds, e', hm2, r, s, w, fun j hj => hv j ?_, fun F env' H' vs e1 e2 c u av => k F env' H' (v :: vs) e1 e2 c u ?_⟩
    · rcases hmk with q | q <;> (subst q; simp [muS, boS] at hj ⊢; rcases hj with h | h <;> simp [h])
    · rcases hmk with q | q <;> (subst q; exact ⟨v, vs, rfl, hvi, av⟩)
theorem sea_bor {x : Str} (i : Nat) (hr : SEA X U es as) (hN : X.N[i]? = some x := by rfl) (hv : Vis X.env.scope x := by first | exact .inl rfl | exact .inr (.inl rfl) | exact .inr (.inr rfl))
    (hd : (x == ("__debug__" : Str)) = false := by decide) (hcd : (x == ("__classdict__" : Str)) = false := by decide) (hs : starEach (.Name x p :: es) X.env = (false, eval (.Name x p) X.env) :: starEach es X.env := by rfl) : SEA X U (.Name x p :: es) (.bor i :: as) := sea_nm (.inl rfl) hr hN hv hd hcd hs
theorem sea_mut {x : Str} (i : Nat) (hr : SEA X U es as) (hN : X.N[i]? = some x := by rfl) (hv : Vis X.env.scope x := by first | exact .inl rfl | exact .inr (.inl rfl) | exact .inr (.inr rfl))
    (hd : (x == ("__debug__" : Str)) = false := by decide) (hcd : (x == ("__classdict__" : Str)) = false := by decide) (hs : starEach (.Name x p :: es) X.env = (false, eval (.Name x p) X.env) :: starEach es X.env := by rfl) : SEA X U (.Name x p :: es) (.mv i :: as) := sea_nm (.inr rfl) hr hN hv hd hcd hs
end
/-- what is handed in, by trees: ins the arguments, env' what is left -/
structure Ins (K : PySem.W.Frag) (σ : L2.St) (H : Hp) (as : List As) (vs : List V) (F : List T) (env : TEnv) (ins : List T) (envR : TEnv) (is : List D) (eR : Env) (evc : Addr → Nat) : Prop where
  er : erL ins = is
  erR : erE envR = eR
  rel : Rel σ envR
  vl : vals ins = vs
  sat : satL K H ins
  satR : SatE K H envR
  co : ∀ a, coL a ins + coE a envR + evc a = coE a env + coL a F
  cuR : ∀ a, cuE a envR ≤ cuE a env
  cu : ∀ a, 0 < cuL a ins → 0 < evc a ∨ 0 < cuL a F ∨ 0 < cuE a env ∨ ∃ j ∈ boS as, ∃ t : T, env[j]? = some (some t) ∧ 0 < t.co a
  out : ∀ i, i ∉ muS as → envR[i]? = env[i]?
  len : envR.length = env.length
section
variable {K : PySem.W.Frag} {H : Hp} {σ : L2.St}
theorem ins_run : ∀ {as : List As} {vs : List V} {F : List T} {env : TEnv} {is : List D} {eR : Env}, Rel σ env → satL K H F → SatE K H env → ArgV σ as F vs → insA as (erL F) (erE env) = some (is, eR) → ∃ ins envR evc, Ins K σ H as vs F env ins envR is eR evc
  | [], vs, F, env, is, eR, r, sF, s, av, h => by
    obtain ⟨rfl, rfl⟩ := av
    rw [insA] at h
    cases h
    exact ⟨[], env, fun _ => 0, rfl, rfl, r, rfl, trivial, s, fun a => by rw [coL]; omega, fun a => Nat.le_refl _, fun a h => absurd h (by rw [cuL]; omega), fun _ _ => rfl, rfl⟩
  | .ev m :: as, vs, [], env, is, eR, r, sF, s, av, h => by cases av
  | .tm m :: as, vs, [], env, is, eR, r, sF, s, av, h => by cases av
  | .ev m :: as, vs, t :: F, env, is, eR, r, sF, s, av, h => by
    obtain ⟨vs', rfl, av⟩ := av
    rw [erL, insA] at h
    obtain ⟨y, hy, e1⟩ := map_some h
    cases e1
    obtain ⟨ins, envR, evc, I⟩ := ins_run r sF.2 s av hy
    refine ⟨t.frz :: ins, envR, fun a => t.co a + evc a, by rw [erL, frz_er, I.er], I.erR, I.rel, by rw [vals, List.map_cons, frz_val]; exact congrArg _ I.vl, ⟨frz_sat t sF.1, I.sat⟩, I.satR, fun a => by have := I.co a; rw [coL, frz_co, coL]; omega, I.cuR, fun a h => ?_, I.out, I.len⟩
    rw [cuL, frz_cu] at h
    rw [cuL]
    by_cases q : 0 < cuL a ins
    · rcases I.cu a q with z | z | z | z
      · exact .inl (by omega)
      · exact .inr (.inl (by omega))
      · exact .inr (.inr (.inl z))
      · exact .inr (.inr (.inr z))
    · by_cases q2 : 0 < t.co a
      · exact .inl (by omega)
      · exact .inr (.inl (by omega))
  | .tm m :: as, vs, t :: F, env, is, eR, r, sF, s, av, h => by
    obtain ⟨vs', rfl, av⟩ := av
    rw [erL, insA] at h
    obtain ⟨y, hy, e1⟩ := map_some h
    cases e1
    obtain ⟨ins, envR, evc, I⟩ := ins_run r sF.2 s av hy
    refine ⟨t :: ins, envR, evc, by rw [erL, I.er], I.erR, I.rel, by rw [vals, List.map_cons]; exact congrArg _ I.vl, ⟨sF.1, I.sat⟩, I.satR, fun a => by have := I.co a; rw [coL, coL]; omega, I.cuR, fun a h => ?_, I.out, I.len⟩
    rw [cuL] at h
    rw [cuL]
    by_cases q : 0 < cuL a ins
    · rcases I.cu a q with z | z | z | z
      · exact .inl z
      · exact .inr (.inl (by omega))
      · exact .inr (.inr (.inl z))
      · exact .inr (.inr (.inr z))
    · exact .inr (.inl (by omega))
  | .bor i :: as, vs, F, env, is, eR, r, sF, s, av, h => by
    obtain ⟨v, vs', rfl, hv, av⟩ := av
    rw [insA] at h
    obtain ⟨d, hd, h⟩ := bind_some h
    obtain ⟨y, hy, e1⟩ := map_some h
    cases e1
    obtain ⟨t, h1, rfl⟩ := join_get hd
    obtain ⟨ins, envR, evc, I⟩ := ins_run r sF s av hy
    have hval : t.val = v := by
      have := r.2 i t h1
      rw [hv] at this
      exact (Option.some.inj (Option.some.inj this)).symm
    refine ⟨t.frz :: ins, envR, evc, by rw [erL, frz_er, I.er], I.erR, I.rel, by rw [vals, List.map_cons, frz_val, hval]; exact congrArg _ I.vl, ⟨frz_sat t (s.get h1), I.sat⟩, I.satR, fun a => by have := I.co a; rw [coL, frz_co]; omega, I.cuR, fun a h => ?_, I.out, I.len⟩
    rw [cuL, frz_cu] at h
    by_cases q : 0 < cuL a ins
    · rcases I.cu a q with z | z | z | ⟨j, hj, z⟩
      · exact .inl z
      · exact .inr (.inl z)
      · exact .inr (.inr (.inl z))
      · exact .inr (.inr (.inr ⟨j, by rw [boS]; exact List.mem_cons_of_mem _ hj, z⟩))
    · by_cases q2 : 0 < t.co a
      · exact .inr (.inr (.inr ⟨i, by rw [boS]; exact List.mem_cons_self .., t, h1, q2⟩))
      · have := cuE_get (a := a) h1
        exact .inr (.inr (.inl (by omega)))
  | .mv i :: as, vs, F, env, is, eR, r, sF, s, av, h => by
    obtain ⟨v, vs', rfl, hv, av⟩ := av
    rw [insA] at h
    obtain ⟨d, hd, h⟩ := bind_some h
    obtain ⟨y, hy, e1⟩ := map_some h
    cases e1
    obtain ⟨t, h1, rfl⟩ := join_get hd
    rw [show (erE env).set i none = erE (env.set i none) from (erE_set (o := none)).symm] at hy
    obtain ⟨ins, envR, evc, I⟩ := ins_run r.drop sF (s.set fun u hu => by cases hu) av hy
    have hval : t.val = v := by
      have := r.2 i t h1
      rw [hv] at this
      exact (Option.some.inj (Option.some.inj this)).symm
    have l1 : ∀ a, coE a (env.set i none) + t.co a = coE a env := fun a => by
      have := coE_set (a := a) none h1
      simp only [oT] at this; omega
    have l2 : ∀ a, cuE a (env.set i none) + t.cu a = cuE a env := fun a => by
      have := cuE_set (a := a) none h1
      simp only [oT] at this; omega
    refine ⟨t :: ins, envR, evc, by rw [erL, I.er], I.erR, I.rel, by rw [vals, List.map_cons, hval]; exact congrArg _ I.vl, ⟨s.get h1, I.sat⟩, I.satR, fun a => ?_, fun a => ?_, fun a h => ?_, fun j hj => ?_, I.len.trans List.length_set⟩
    · have := I.co a
      have := l1 a
      rw [coL]; omega
    · have := I.cuR a
      have := l2 a
      omega
    · rw [cuL] at h
      have := l2 a
      by_cases q : 0 < cuL a ins
      · rcases I.cu a q with z | z | z | ⟨j, hj, u, hu, z⟩
        · exact .inl z
        · exact .inr (.inl z)
        · exact .inr (.inr (.inl (by omega)))
        · refine .inr (.inr (.inr ⟨j, by rw [boS]; exact hj, u, ?_, z⟩))
          rw [List.getElem?_set] at hu
          split at hu
          · split at hu <;> cases hu
          · exact hu
      · exact .inr (.inr (.inl (by omega)))
    · rw [muS] at hj
      rw [I.out j fun z => hj (List.mem_cons_of_mem _ z), List.getElem?_set, if_neg (fun z => hj (by rw [z]; exact List.mem_cons_self ..))]
/-- the slots handed on, filled again -/
def muO : List As → List (Option Nat)
  | [] => []
  | .mv i :: r => some i :: muO r
  | .tm _ :: r => none :: muO r
  | .ev _ :: r => muO r
  | .bor _ :: r => muO r
theorem put_run : ∀ (as : List As) {us : List T} {env : TEnv} {e2 : Env}, Rel σ env → SatE K H env → satL K H us → putA as (erL us) (erE env) = some e2 → (∀ (j i : Nat), (muO as)[j]? = some (some i) → ∀ t, us[j]? = some t → σ[i]? = some (some t.val)) →
    ∃ env2, erE env2 = e2 ∧ Rel σ env2 ∧ SatE K H env2 ∧ (∀ a, coE a env2 ≤ coL a us + coE a env) ∧ (∀ a, cuE a env2 ≤ cuL a us + cuE a env) ∧ ∀ i, i ∉ muS as → env2[i]? = env[i]?
  | [], [], env, e2, r, s, su, h, hv => by
    rw [erL, putA] at h
    cases h
    exact ⟨env, rfl, r, s, fun a => by rw [coL]; omega, fun a => by rw [cuL]; omega, fun _ _ => rfl⟩
  | [], u :: us, env, e2, r, s, su, h, hv => by simp [erL, putA] at h
  | .ev m :: as, us, env, e2, r, s, su, h, hv => by
    have h' : putA as (erL us) (erE env) = some e2 := by
      cases us <;> simpa [putA] using h
    exact put_run as r s su h' hv
  | .bor i :: as, us, env, e2, r, s, su, h, hv => by
    have h' : putA as (erL us) (erE env) = some e2 := by
      cases us <;> simpa [putA] using h
    exact put_run as r s su h' hv
  | .tm m :: as, [], env, e2, r, s, su, h, hv => by simp [erL, putA] at h
  | .tm m :: as, u :: us, env, e2, r, s, su, h, hv => by
    rw [erL, putA] at h
    obtain ⟨env2, g1, g2, g3, g4, g5, g6⟩ := put_run as r s su.2 h fun j k hj t ht => hv (j + 1) k (by rw [muO]; simpa using hj) t (by simpa using ht)
    exact ⟨env2, g1, g2, g3, fun a => by have := g4 a; rw [coL]; omega, fun a => by have := g5 a; rw [cuL]; omega, fun j hj => g6 j (by rw [muS] at hj; exact hj)⟩
  | .mv i :: as, [], env, e2, r, s, su, h, hv => by simp [erL, putA] at h
  | .mv i :: as, u :: us, env, e2, r, s, su, h, hv => by
    rw [erL, putA, show (erE env).set i (some u.er) = erE (env.set i (some u)) from (erE_set (o := some u)).symm] at h
    have hu : σ[i]? = some (some u.val) := hv 0 i rfl u rfl
    have r1 : Rel σ (env.set i (some u)) := by
      refine ⟨by rw [List.length_set, r.1], fun j x g => ?_⟩
      rw [List.getElem?_set] at g
      by_cases q : i = j
      · subst q
        rw [if_pos rfl] at g
        split at g
        · cases g; exact hu
        · cases g
      · rw [if_neg q] at g
        exact r.2 j x g
    obtain ⟨env2, g1, g2, g3, g4, g5, g6⟩ := put_run as r1 (s.set fun x hx => by cases hx; exact su.1) su.2 h fun j k hj t ht => hv (j + 1) k (by rw [muO]; simpa using hj) t (by simpa using ht)
    refine ⟨env2, g1, g2, g3, fun a => ?_, fun a => ?_, fun j hj => ?_⟩
    · have := g4 a
      have := set_co (env := env) (j := i) (t := u) (a := a)
      rw [coL]; omega
    · have := g5 a
      have := set_cu (env := env) (j := i) (t := u) (a := a)
      rw [cuL]; omega
    · rw [muS] at hj
      rw [g6 j fun z => hj (List.mem_cons_of_mem _ z), List.getElem?_set, if_neg (fun z => hj (by rw [z]; exact List.mem_cons_self ..))]
  termination_by as => as.length
theorem argv_mu : ∀ {as : List As} {F : List T} {vs : List V} {n j i : Nat}, ArgV σ as F vs → (muO as)[j]? = some (some i) → ∃ q v, (muP n as)[j]? = some (n + q) ∧ vs[q]? = some v ∧ σ[i]? = some (some v)
  | [], F, vs, n, j, i, av, h => by simp [muO] at h
  | .ev m :: as, [], vs, n, j, i, av, h => by cases av
  | .tm m :: as, [], vs, n, j, i, av, h => by cases av
  | .ev m :: as, t :: F, vs, n, j, i, av, h => by
    obtain ⟨vs', rfl, av⟩ := av
    rw [muO] at h
    obtain ⟨q, v, h1, h2, h3⟩ := argv_mu (n := n + 1) av h
    exact ⟨q + 1, v, by rw [muP, h1]; congr 1; omega, by simpa using h2, h3⟩
  | .bor k :: as, F, vs, n, j, i, av, h => by
    obtain ⟨v', vs', rfl, hv, av⟩ := av
    rw [muO] at h
    obtain ⟨q, v, h1, h2, h3⟩ := argv_mu (n := n + 1) av h
    exact ⟨q + 1, v, by rw [muP, h1]; congr 1; omega, by simpa using h2, h3⟩
  | .tm m :: as, t :: F, vs, n, j, i, av, h => by
    obtain ⟨vs', rfl, av⟩ := av
    rw [muO] at h
    cases j with
    | zero => simp at h
    | succ j =>
      obtain ⟨q, v, h1, h2, h3⟩ := argv_mu (n := n + 1) av (by simpa using h)
      refine ⟨q + 1, v, ?_, by simpa using h2, h3⟩
      rw [muP, List.getElem?_cons_succ, h1]
      congr 1
      omega
  | .mv k :: as, F, vs, n, j, i, av, h => by
    obtain ⟨v', vs', rfl, hv, av⟩ := av
    rw [muO] at h
    cases j with
    | zero =>
      simp at h
      subst h
      exact ⟨0, v', by rw [muP]; rfl, rfl, hv⟩
    | succ j =>
      obtain ⟨q, v, h1, h2, h3⟩ := argv_mu (n := n + 1) av (by simpa using h)
      refine ⟨q + 1, v, ?_, by simpa using h2, h3⟩
      rw [muP, List.getElem?_cons_succ, h1]
      congr 1
      omega
end
section
variable {X : Cx} {e : Expr} {es : List Expr} {pos p : Pos} {U : List Nat} {as : List As}
theorem se_callM {k n : Nat} {x : Str} {f : Addr} {fd : FuncData} {ps : List Str} {fm : FMu} {mu : List Nat} {CX : CXT} {E : XK} (F : FnOk X.prog X.w X.K X.mg X.base CX k f fd ps (spM X.K n mu fm)) (hr : Room k X.A) (hm : X.mg x = some (.ref f)) (hk : PySem.W.keepIn X.K (.ref f) = true)
    (hb : Binds X.K fd ps []) (hx : Passes CX X E) (hmu : mu = muP 0 as) (hln : as.length = n) (hdis : ∀ i ∈ muS as, i ∉ boS as ∧ i ∉ U) (ha : SEA X U (e :: es) as) (hg : Gl X x := by rfl) (hdb : (x == ("__debug__" : Str)) = false := by decide) (he : starEach (e :: es) X.env = (false, eval e X.env) :: starEach es X.env := by rfl) (hpl : (backTo pos (starEach es X.env)).any (·.1) = false := by rfl) :
    SE X U (.Call (.Name x p) (e :: es) [] pos) (eCallM fm as) := PE.weak (pe_call F hr hg hm hk hb .nil hx ha hdb he hpl) fun σ H Q ⟨env, d, e', hm, r, s, w, k⟩ => by
  unfold eCallM at hm
  split at hm
  case isTrue => cases hm
  rename_i hall
  rw [Bool.not_eq_false, List.all_eq_true] at hall
  obtain ⟨x1, h1, hm⟩ := bind_some hm
  obtain ⟨y, h2, hm⟩ := bind_some hm
  obtain ⟨z, h3, hm⟩ := bind_some hm
  split at hm
  case isFalse => cases hm
  rename_i hno
  rw [Bool.and_eq_true] at hno
  obtain ⟨e2, h4, e5⟩ := map_some hm
  cases e5
  refine ⟨env, x1.1, x1.2, h1, r, s, w, fun i hi => ?_, fun F env1 H1 vs e1 e2' c1 u1 av => ?_⟩
  · have := hall i hi
    rw [Option.isSome_iff_exists] at this
    obtain ⟨d, hd⟩ := this
    obtain ⟨t, ht, _⟩ := join_get hd
    exact ⟨t.val, r.2 i t ht⟩
  rw [← e1, ← e2'] at h2
  obtain ⟨ins, envR, evc, I⟩ := ins_run c1.rel c1.satF c1.satE av h2
  have bo : ∀ a, (∃ j ∈ boS as, ∃ t : T, env1[j]? = some (some t) ∧ 0 < t.co a) → 0 < coE a envR := fun a ⟨j, hj, t, ht, hc⟩ => by
    have hn : j ∉ muS as := fun q => (hdis j q).1 hj
    rw [← I.out j hn] at ht
    exact Nat.lt_of_lt_of_le hc (coE_get ht)
  have cuI : ∀ a, 0 < cuL a ins → 0 < evc a + cuL a F ∨ 0 < cuE a env1 ∨ 0 < coE a envR := fun a h => by
    rcases I.cu a h with q | q | q | q
    · exact .inl (by omega)
    · exact .inl (by omega)
    · exact .inr (.inl q)
    · exact .inr (.inr (bo a q))
  have hlen : vs.length = as.length := by
    have : ∀ {as : List As} {F : List T} {vs : List V}, ArgV σ as F vs → vs.length = as.length := by
      intro as
      induction as with
      | nil => intro F vs av; rw [av.2]; rfl
      | cons x as ih =>
        intro F vs av
        cases x with
        | ev m =>
          cases F with
          | nil => cases av
          | cons t F => obtain ⟨vs', rfl, av⟩ := av; rw [List.length_cons, List.length_cons, ih av]
        | tm m =>
          cases F with
          | nil => cases av
          | cons t F => obtain ⟨vs', rfl, av⟩ := av; rw [List.length_cons, List.length_cons, ih av]
        | bor i => obtain ⟨v, vs', rfl, _, av⟩ := av; rw [List.length_cons, List.length_cons, ih av]
        | mv i => obtain ⟨v, vs', rfl, _, av⟩ := av; rw [List.length_cons, List.length_cons, ih av]
    exact this av
  refine ⟨ins, z.1, z.2, by rw [List.append_nil, I.vl], by rw [← hln, ← hlen, ← I.vl, List.length_map], I.sat, fun a => ?_, by rw [I.er]; exact h3, fun t us H' et eu hv st su wf' stp => ?_⟩
  · have w1 := c1.wf a
    have i1 := I.co a
    have i2 := cuI a
    simp only at w1 ⊢
    by_cases q : 0 < coL a ins
    · by_cases q2 : 0 < cuL a ins
      · rcases i2 q2 with y | y | y <;> omega
      · omega
    · omega
  rw [List.append_nil] at hv
  have keepR : ∀ a o, 0 < coE a envR + cuE a envR → H1 a = some o → H' a = some o := fun a o h ho => stp.1 a o ho (by
    have w1 := c1.wf a
    have i1 := I.co a
    have i2 := I.cuR a
    simp only at w1 ⊢
    omega)
  have sR : SatE X.K H' envR := satE_keep keepR I.satR
  have someR : ∀ a, 0 < coE a envR + cuE a envR → H1 a ≠ none := fun a h => by
    by_cases q : 0 < coE a envR
    · exact coE_some I.satR q
    · exact cuE_some I.satR (by omega)
  rw [← eu, ← I.erR] at h4
  obtain ⟨env2, g1, g2, g3, g4, g5, g6⟩ := put_run as I.rel sR su h4 fun j i hj u hu => by
    obtain ⟨q, v, p1, p2, p3⟩ := argv_mu (n := 0) av hj
    have := hv j (0 + q) (by rw [hmu]; exact p1) v (by rw [Nat.zero_add]; exact p2)
    rw [vals, List.getElem?_map, hu] at this
    rw [p3]
    cases this
    rfl
  rw [← et, ← eu] at hno
  have tupB : ∀ a, 0 < t.cu a + cuL a us → ∃ o, H' a = some o ∧ isTupO o = true := fun a h => by
    by_cases q : 0 < t.cu a
    · exact noF_cu t hno.1 st q
    · exact noFL_cu us hno.2 su (by omega)
  refine k t env2 H' et g1 ⟨g2, ⟨st, trivial⟩, g3, fun a => ?_, Stp.trans c1.stp ⟨fun a o h hc => stp.1 a o h ?_, stp.2.1, fun a => ?_⟩⟩ fun i hi => ?_
  · have w1 := c1.wf a
    have i1 := I.co a
    have i2 := I.cuR a
    have s1 := (stp.2.2 a).1
    have s2 := (stp.2.2 a).2
    have wf1 := wf' a
    have j1 := g4 a
    have j2 := g5 a
    have ci := cuI a
    simp only [coL, cuL, Nat.add_zero] at w1 s1 s2 wf1 ⊢
    by_cases q : 0 < coE a envR
    · have nn := someR a (by omega)
      simp only [nn, or_false] at s1 s2
      have nb : ¬ 0 < t.cu a + cuL a us := fun h => by
        obtain ⟨o, ho, hb⟩ := tupB a h
        obtain ⟨o', ho', hb'⟩ := coE_no sR q
        rw [ho] at ho'
        cases ho'
        rw [hb] at hb'
        cases hb'
      omega
    · by_cases q2 : 0 < t.co a + coL a us
      · by_cases q3 : 0 < cuE a envR
        · have nn := someR a (by omega)
          simp only [nn, or_false] at s1 s2
          have := s1 q2
          omega
        · omega
      · omega
  · have i1 := I.co a
    simp only at hc ⊢
    omega
  · have i1 := I.co a
    have i2 := I.cuR a
    have s1 := (stp.2.2 a).1
    have s2 := (stp.2.2 a).2
    have j1 := g4 a
    have j2 := g5 a
    have ci := cuI a
    simp only [coL, cuL, Nat.add_zero] at s1 s2 ⊢
    refine ⟨fun h => ?_, fun h => ?_⟩
    · by_cases q : 0 < coE a envR
      · exact .inl (by omega)
      · rcases s1 (by omega) with y | y
        · exact .inl (by omega)
        · exact .inr y
    · by_cases q : 0 < cuE a envR
      · exact .inr (.inl (by omega))
      · rcases s2 (by omega) with y | y | y
        · exact .inl (by omega)
        · rcases ci y with y | y | y
          · by_cases q3 : 0 < evc a
            · exact .inl (by omega)
            · exact .inr (.inl (by omega))
          · exact .inr (.inl (by omega))
          · exact .inl (by omega)
        · exact .inr (.inr y)
  · have hn : i ∉ muS as := fun q => (hdis i q).2 hi
    rw [g6 i hn, I.out i hn, u1 i hi]
end
end Ow

namespace Ow
open PySem L2

/-! ### places within what is owned -/
def atT : List Nat → T → Option T
  | [], t => some t
  | j :: p, t => (t.kids[j]?).bind fun u => atT p u
def D.kids : D → List D
  | .s _ => []
  | .n _ ds => ds
@[simp] def atD : List Nat → D → Option D
  | [], d => some d
  | j :: p, d => (d.kids[j]?).bind fun u => atD p u
theorem kids_er (t : T) : t.er.kids = erL t.kids := by
  cases t <;> simp [T.er, D.kids, T.kids, erL]
section
variable {K : PySem.W.Frag} {H H' : Hp}
theorem kids_sat {t : T} (h : t.sat K H) : satL K H t.kids := by
  cases t with
  | s v => trivial
  | n k a ts => exact h.2
  | w z k a ts => exact h.2
theorem kids_co {t : T} {a : Addr} : coL a t.kids ≤ t.co a := by
  cases t with
  | s v => exact Nat.zero_le _
  | n k b ts => rw [T.kids, T.co]; omega
  | w z k b ts => rw [T.kids, T.co]; omega
theorem kids_cu {t : T} {a : Addr} : cuL a t.kids ≤ t.cu a := by
  cases t with
  | s v => exact Nat.zero_le _
  | n k b ts => rw [T.kids, T.cu]; omega
  | w z k b ts => rw [T.kids, T.cu]; omega
theorem atD_run : ∀ {p : List Nat} {t : T} {d : D}, t.sat K H → atD p t.er = some d → ∃ u, atT p t = some u ∧ u.er = d ∧ u.sat K H
  | [], t, d, s, h => by
    rw [atD] at h
    cases h
    exact ⟨t, rfl, rfl, s⟩
  | j :: p, t, d, s, h => by
    rw [atD, kids_er] at h
    obtain ⟨c, h1, h⟩ := bind_some h
    obtain ⟨u, hu, rfl⟩ := er_at rfl h1
    obtain ⟨v, g1, g2, g3⟩ := atD_run (sat_at (kids_sat s) hu) h
    exact ⟨v, by rw [atT, hu]; exact g1, g2, g3⟩
theorem atT_snoc : ∀ {p : List Nat} {j : Nat} {t u : T}, atT p t = some u → atT (p ++ [j]) t = u.kids[j]?
  | [], j, t, u, h => by
    rw [atT] at h
    cases h
    rw [List.nil_append, atT]
    cases t.kids[j]? <;> rfl
  | i :: p, j, t, u, h => by
    rw [atT] at h
    obtain ⟨v, h1, h⟩ := bind_some h
    rw [List.cons_append, atT, h1]
    exact atT_snoc h
/-- the owned list at a place made another one -/
@[simp] def modD : List Nat → (List D → Option (List D)) → D → Option D
  | [], f, .n (.lst .o) ds => (f ds).map (.n (.lst .o) ·)
  | j :: p, f, .n (.lst .o) ds => (ds[j]?).bind fun x => (modD p f x).map fun y => .n (.lst .o) (ds.set j y)
  | j :: p, f, .n .tup ds => (ds[j]?).bind fun x => (modD p f x).map fun y => .n .tup (ds.set j y)
  | _, _, _ => none
/-- what changing the list at a place of t comes to -/
structure Md (K : PySem.W.Frag) (H : Hp) (p : List Nat) (f : List D → Option (List D)) (t : T) (d' : D) (a : Addr) (ts : List T) : Prop where
  at_ : atT p t = some (.n (.lst .o) a ts)
  nd : H a = some (.lst (vals ts))
  sat : satL K H ts
  own : coL a ts + 1 ≤ t.co a
  leo : ∀ b, coL b ts ≤ t.co b
  leu : ∀ b, cuL b ts ≤ t.cu b
  new : ∃ ds', f (erL ts) = some ds' ∧ ∀ ts', erL ts' = ds' → ∃ t' : T, t'.er = d' ∧ t'.val = t.val ∧ (∀ b, t'.co b + coL b ts = t.co b + coL b ts') ∧ (∀ b, t'.cu b + cuL b ts = t.cu b + cuL b ts') ∧
    ∀ H', (∀ b o, b ≠ a → 0 < t.co b + t.cu b → H b = some o → H' b = some o) → t.co a ≤ 1 → t.cu a = 0 → H' a = some (.lst (vals ts')) → satL K H' ts' → t'.sat K H'
theorem coL_set {ts : List T} {j : Nat} {u v : T} {b : Addr} (h : ts[j]? = some u) : coL b (ts.set j v) + u.co b = coL b ts + v.co b := by
  induction ts generalizing j with
  | nil => simp at h
  | cons t ts ih =>
    cases j with
    | zero =>
      simp at h
      subst h
      rw [List.set_cons_zero, coL, coL]; omega
    | succ j =>
      have := ih (j := j) (by simpa using h)
      rw [List.set_cons_succ, coL, coL]; omega
theorem cuL_set {ts : List T} {j : Nat} {u v : T} {b : Addr} (h : ts[j]? = some u) : cuL b (ts.set j v) + u.cu b = cuL b ts + v.cu b := by
  induction ts generalizing j with
  | nil => simp at h
  | cons t ts ih =>
    cases j with
    | zero =>
      simp at h
      subst h
      rw [List.set_cons_zero, cuL, cuL]; omega
    | succ j =>
      have := ih (j := j) (by simpa using h)
      rw [List.set_cons_succ, cuL, cuL]; omega
theorem vals_set {ts : List T} {j : Nat} {u v : T} (h : ts[j]? = some u) (e : v.val = u.val) : vals (ts.set j v) = vals ts := by
  rw [vals, List.map_set, e]
  apply List.ext_getElem?
  intro i
  rw [List.getElem?_set]
  by_cases q : j = i
  · subst q
    rw [if_pos rfl, List.getElem?_map, h]
    split
    · rfl
    · rename_i hl
      rw [List.length_map] at hl
      exact absurd (List.getElem?_eq_some_iff.mp h).1 hl
  · rw [if_neg q]
theorem erL_set {ts : List T} {j : Nat} {v : T} : erL (ts.set j v) = (erL ts).set j v.er := by rw [erL_map, erL_map, List.map_set]
theorem satL_set {ts : List T} {j : Nat} {u v : T} (hu : ts[j]? = some u) (a : Addr) (hv : v.sat K H') (s : satL K H ts) (co1 : coL a ts ≤ 1) (co2 : 1 ≤ u.co a) (cu0 : cuL a ts = 0) (hk : ∀ b o, b ≠ a → 0 < coL b ts + cuL b ts → H b = some o → H' b = some o) : satL K H' (ts.set j v) := by
  induction ts generalizing j with
  | nil => simp at hu
  | cons t ts ih =>
    rw [coL] at co1
    rw [cuL] at cu0
    have hk1 : ∀ b o, b ≠ a → 0 < coL b ts + cuL b ts → H b = some o → H' b = some o := fun b o hb h => hk b o hb (by rw [coL, cuL]; omega)
    cases j with
    | zero =>
      simp at hu
      subst hu
      rw [List.set_cons_zero]
      refine ⟨hv, satL_keep ts (fun b o h e => hk1 b o (fun z => ?_) h e) s.2⟩
      subst z; omega
    | succ j =>
      have hu' : ts[j]? = some u := by simpa using hu
      have := coL_mem (a := a) (List.mem_of_getElem? hu')
      rw [List.set_cons_succ]
      refine ⟨sat_keep t (fun b o h e => hk b o (fun z => ?_) (by rw [coL, cuL]; omega) e) s.1, ih hu' s.2 (by omega) (by omega) hk1⟩
      subst z; omega
def rek : T → List T → T
  | .s v, _ => .s v
  | .n k a _, ts => .n k a ts
  | .w z k a _, ts => .w z k a ts
theorem rek_val {t : T} {ts : List T} : (rek t ts).val = t.val := by cases t <;> rfl
theorem rek_er {t : T} {ts' : List T} {k : Kd} {ds : List D} (h : t.er = .n k ds) : (rek t ts').er = .n k (erL ts') := by
  cases t with
  | s v => rw [T.er] at h; cases h
  | n k' a ts => rw [T.er] at h; cases h; rw [rek, T.er]
  | w z k' a ts => rw [T.er] at h; cases h; rw [rek, T.er]
theorem rek_co {t : T} {ts' : List T} {k : Kd} {ds : List D} {b : Addr} (h : t.er = .n k ds) : (rek t ts').co b + coL b t.kids = t.co b + coL b ts' := by
  cases t with
  | s v => rw [T.er] at h; cases h
  | n k' a ts => rw [rek, T.co, T.co, T.kids]; omega
  | w z k' a ts => rw [rek, T.co, T.co, T.kids]; omega
theorem rek_cu {t : T} {ts' : List T} {k : Kd} {ds : List D} {b : Addr} (h : t.er = .n k ds) : (rek t ts').cu b + cuL b t.kids = t.cu b + cuL b ts' := by
  cases t with
  | s v => rw [T.er] at h; cases h
  | n k' a ts => rw [rek, T.cu, T.cu, T.kids]; omega
  | w z k' a ts => rw [rek, T.cu, T.cu, T.kids]; omega
theorem rek_sat {t : T} {ts' : List T} {a : Addr} (s : t.sat K H) (hv : vals ts' = vals t.kids) (hs : satL K H' ts') (k1 : ∀ b o, b ≠ a → 0 < t.co b + t.cu b → H b = some o → H' b = some o) (c1 : 1 ≤ coL a t.kids) (c2 : t.co a ≤ 1) (c3 : t.cu a = 0) : (rek t ts').sat K H' := by
  cases t with
  | s v => trivial
  | n k b ts =>
    rw [T.kids] at hv c1
    rw [T.co] at c2
    rw [T.cu] at c3
    have hb : b ≠ a := fun z => by
      subst z
      cases e : k.own <;> rw [e] at c2 c3 <;> simp at c2 c3 <;> omega
    refine ⟨⟨?_, s.1.2⟩, hs⟩
    rw [hv]
    exact k1 b _ hb (by rw [T.co, T.cu]; cases k.own <;> simp <;> omega) s.1.1
  | w z k b ts =>
    rw [T.kids] at hv c1
    rw [T.cu] at c3
    refine ⟨?_, hs⟩
    rw [hv]
    cases z with
    | true => have := s.1; cases k <;> exact this
    | false =>
      have hb : b ≠ a := fun y => by
        subst y
        simp at c3
      obtain ⟨o, ho⟩ := s.1
      exact ⟨o, k1 b _ hb (by rw [T.co, T.cu]; simp; omega) ho⟩
theorem mod_run : ∀ {p : List Nat} {f : List D → Option (List D)} {t : T} {d' : D}, t.sat K H → modD p f t.er = some d' → ∃ a ts, Md K H p f t d' a ts
  | [], f, t, d', s, h => by
    cases t with
    | s v => simp [T.er, modD] at h
    | w z k a ts =>
      rw [T.er] at h
      cases k <;> simp [Kd.wri, modD] at h
    | n k a ts =>
      rw [T.er] at h
      cases k with
      | lst o =>
        cases o with
        | o =>
          rw [modD] at h
          obtain ⟨ds', h1, rfl⟩ := map_some h
          refine ⟨a, ts, rfl, s.1.1, s.2, by rw [T.co]; simp [Kd.own]; omega, fun b => by rw [T.co]; omega, fun b => by rw [T.cu]; omega, ds', h1, fun ts' e => ⟨.n (.lst .o) a ts', by rw [T.er, e], rfl, fun b => by rw [T.co, T.co]; omega, fun b => by rw [T.cu, T.cu]; omega, fun H' _ _ _ hn hs => ⟨⟨hn, rfl⟩, hs⟩⟩⟩
        | s => simp [modD] at h
        | w => simp [modD] at h
      | tup => simp [modD] at h
      | dic o ks => simp [modD] at h
      | dct o ks => simp [modD] at h
  | j :: p, f, t, d', s, h => by
    have hk : ∃ k ds, t.er = .n k ds ∧ (k = .lst .o ∨ k = .tup) ∧ ((ds[j]?).bind fun x => (modD p f x).map fun y => D.n k (ds.set j y)) = some d' := by
      cases e : t.er with
      | s v => rw [e] at h; simp [modD] at h
      | n k ds =>
        rw [e] at h
        cases k with
        | lst o =>
          cases o with
          | o => rw [modD] at h; exact ⟨_, _, rfl, .inl rfl, h⟩
          | s => simp [modD] at h
          | w => simp [modD] at h
        | tup => rw [modD] at h; exact ⟨_, _, rfl, .inr rfl, h⟩
        | dic o ks => simp [modD] at h
        | dct o ks => simp [modD] at h
    obtain ⟨k, ds, e1, hkk, h⟩ := hk
    obtain ⟨c, h1, h⟩ := bind_some h
    obtain ⟨y, h2, rfl⟩ := map_some h
    have hkids : erL t.kids = ds := by rw [← kids_er, e1]; rfl
    obtain ⟨u, hu, rfl⟩ := er_at hkids h1
    have su := sat_at (kids_sat s) hu
    have mu := List.mem_of_getElem? hu
    obtain ⟨a, ts, M⟩ := mod_run su h2
    refine ⟨a, ts, by rw [atT, hu]; exact M.at_, M.nd, M.sat, Nat.le_trans M.own (Nat.le_trans (coL_mem mu) kids_co), fun b => Nat.le_trans (M.leo b) (Nat.le_trans (coL_mem mu) kids_co), fun b => Nat.le_trans (M.leu b) (Nat.le_trans (cuL_mem mu) kids_cu), ?_⟩
    obtain ⟨ds', h3, hn⟩ := M.new
    refine ⟨ds', h3, fun ts' ets' => ?_⟩
    obtain ⟨u', g1, g2, g3, g4, g5⟩ := hn ts' ets'
    have n1 : ∀ b, coL b (t.kids.set j u') + u.co b = coL b t.kids + u'.co b := fun b => coL_set hu
    have n2 : ∀ b, cuL b (t.kids.set j u') + u.cu b = cuL b t.kids + u'.cu b := fun b => cuL_set hu
    refine ⟨rek t (t.kids.set j u'), ?_, rek_val, fun b => ?_, fun b => ?_, fun H' k1 k2 k3 k4 k5 => ?_⟩
    · rw [rek_er e1, erL_set, g1, hkids]
    · have := rek_co (b := b) (ts' := t.kids.set j u') e1
      have := n1 b
      have := g3 b
      omega
    · have := rek_cu (b := b) (ts' := t.kids.set j u') e1
      have := n2 b
      have := g4 b
      omega
    · have c1 := Nat.le_trans (coL_mem (a := a) mu) kids_co
      have c2 := M.own
      have c3 : coL a t.kids ≤ t.co a := kids_co
      have c4 : cuL a t.kids ≤ t.cu a := kids_cu
      have c5 : u.co a ≤ coL a t.kids := coL_mem mu
      have c6 : u.cu a ≤ cuL a t.kids := cuL_mem mu
      refine rek_sat s (vals_set hu g2) (satL_set hu a ?_ (kids_sat s) (by omega) (by omega) (by omega) fun b o hb hp => k1 b o hb ?_) k1 (by omega) k2 k3
      · refine g5 H' (fun b o hb hp => k1 b o hb ?_) (by omega) (by omega) k4 k5
        have d1 := Nat.le_trans (coL_mem (a := b) mu) kids_co
        have d2 := Nat.le_trans (cuL_mem (a := b) mu) kids_cu
        omega
      · have d1 : coL b t.kids ≤ t.co b := kids_co
        have d2 : cuL b t.kids ≤ t.cu b := kids_cu
        omega
end
end Ow

namespace Ow
open PySem L2

section
variable {K : PySem.W.Frag} {H0 H H' : Hp} {env0 env : TEnv} {σ : L2.St} {F' G G' : List T} {i : Nat} {p : List Nat} {f : List D → Option (List D)} {t : T} {d' : D} {a : Addr} {ts ts' : List T}
/-- the list at a place of slot i made another one, of what it held and what is at hand -/
theorem mut_step (c : Cf K H0 env0 σ H (G ++ F') env) (hi : env[i]? = some (some t)) (M : Md K H p f t d' a ts) (hf : f (erL ts) = some (erL ts')) (s1 : satL K H ts') (s2 : satL K H G')
    (n1 : ∀ b, coL b ts' + coL b G' ≤ coL b ts + coL b G) (n2 : ∀ b, 0 < cuL b ts' + cuL b G' → 0 < cuL b (G ++ F') + cuE b env) :
    ∃ env', erE env' = (erE env).set i (some d') ∧ (∀ j, j ≠ i → env'[j]? = env[j]?) ∧ Cf K H0 env0 σ (upd H a (.lst (vals ts'))) (G' ++ F') env' := by
  obtain ⟨ds', h1, hn⟩ := M.new
  rw [hf] at h1
  cases h1
  obtain ⟨t', g1, g2, g3, g4, g5⟩ := hn ts' rfl
  have m1 := M.own
  have wa := c.wf a
  have ei : ∀ b, coE b (env.set i (some t')) + t.co b = coE b env + t'.co b := fun b => by
    have := coE_set (a := b) (some t') hi
    simpa only [oT] using this
  have ui : ∀ b, cuE b (env.set i (some t')) + t.cu b = cuE b env + t'.cu b := fun b => by
    have := cuE_set (a := b) (some t') hi
    simpa only [oT] using this
  have ti : ∀ b, t.co b ≤ coE b env := fun b => coE_get hi
  have tu : ∀ b, t.cu b ≤ cuE b env := fun b => cuE_get hi
  simp only [coL_append, cuL_append] at wa
  have ta := ti a
  have tua := tu a
  have la := M.leo a
  have lua := M.leu a
  have n1a := n1 a
  have n2a := n2 a
  rw [cuL_append] at n2a
  have keep : ∀ b o, b ≠ a → H b = some o → upd H a (.lst (vals ts')) b = some o := fun b o hb h => by rw [upd_ne hb]; exact h
  have nt : ∀ b, 0 < coL b ts' + cuL b ts' → b ≠ a := fun b h z => by subst z; omega
  have sF := satL_append.mp c.satF
  have st' : t'.sat K (upd H a (.lst (vals ts'))) := g5 _ (fun b o hb _ h => keep b o hb h) (by omega) (by omega) upd_same (satL_keep ts' (fun b o h e => keep b o (nt b h) e) s1)
  refine ⟨env.set i (some t'), by rw [erE_set, ← g1]; rfl, fun j hj => by rw [List.getElem?_set, if_neg (fun z => hj z.symm)], c.rel.swap hi g2, satL_append.mpr ⟨satL_keep G' (fun b o h e => keep b o (fun z => by subst z; omega) e) s2, satL_keep F' (fun b o h e => keep b o (fun z => by subst z; omega) e) sF.2⟩, ?_, fun b => ?_, Stp.trans c.stp ⟨fun b o h hc => ?_, fun b h => ?_, fun b => ?_⟩⟩
  · -- the other slots
    intro u hu
    obtain ⟨j, hj⟩ := List.mem_iff_getElem?.mp hu
    rw [List.getElem?_set] at hj
    by_cases q : i = j
    · rw [if_pos q] at hj
      split at hj
      · cases hj; exact st'
      · cases hj
    · rw [if_neg q] at hj
      have e2 : (env.set i none)[j]? = some (some u) := by rw [List.getElem?_set, if_neg q]; exact hj
      refine sat_keep u (fun b o h e => keep b o (fun z => ?_) e) (c.satE u (List.mem_of_getElem? hj))
      subst z
      have w1 := coE_get (a := b) e2
      have w2 := cuE_get (a := b) e2
      have w3 := coE_set (a := b) none hi
      have w4 := cuE_set (a := b) none hi
      simp only [oT] at w3 w4
      omega
  · have w1 := c.wf b
    have := ei b
    have := ui b
    have := ti b
    have := tu b
    have := g3 b
    have := g4 b
    have := n1 b
    have n2b := n2 b
    have := M.leo b
    have := M.leu b
    simp only [coL_append, cuL_append] at w1 n2b ⊢
    by_cases q : 0 < cuL b ts' + cuL b G'
    · have := n2b q
      omega
    · omega
  · refine keep b o (fun z => ?_) h
    subst z
    simp only at hc
    omega
  · by_cases q : b = a
    · subst q
      rw [upd_same] at h
      cases h
    · rw [upd_ne q] at h
      exact h
  · have := ei b
    have := ui b
    have := ti b
    have := tu b
    have := g3 b
    have := g4 b
    have := n1 b
    have n2b := n2 b
    have := M.leo b
    have := M.leu b
    simp only [coL_append, cuL_append] at n2b ⊢
    refine ⟨fun q => .inl (by omega), fun q => .inr (.inl ?_)⟩
    by_cases q : 0 < cuL b ts' + cuL b G'
    · exact n2b q
    · omega
end
/-- a place: slot i, the way to it -/
def trPl (K : PySem.W.Frag) (i : Nat) (pm : Env → Option (List Nat)) : TE := fun σ H Q => ∃ env p, pm (erE env) = some p ∧ Rel σ env ∧ SatE K H env ∧ ∀ H', Ex H H' → ∀ t u, env[i]? = some (some t) → atT p t = some u → Q u.val H'
/-- .. and it is there -/
def okPl (i : Nat) (pm : Env → Option (List Nat)) : Prop := ∀ env p, pm env = some p → ∃ d c, env[i]?.join = some d ∧ atD p d = some c
structure SPl (X : Cx) (i : Nat) (e : Expr) (pm : Env → Option (List Nat)) : Prop where
  ok : okPl i pm
  pe : PE X e (trPl X.K i pm)
@[simp] def plName (i : Nat) : Env → Option (List Nat) := fun env => (env[i]?.join).map fun _ => []
@[simp] def plItem (i : Nat) (pm : Env → Option (List Nat)) (mb : PM) : Env → Option (List Nat) := fun env => (pm env).bind fun p => (mb env).bind fun y => (toI y).bind fun n => (env[i]?.join).bind fun d => (atD p d).bind fun c => match c with
  | .n (.lst _) ds => (ixN ds.length n).map fun j => p ++ [j]
  | .n .tup ds => (ixN ds.length n).map fun j => p ++ [j]
  | _ => none
theorem atD_snoc : ∀ {p : List Nat} {j : Nat} {d c : D}, atD p d = some c → atD (p ++ [j]) d = c.kids[j]?
  | [], j, d, c, h => by
    rw [atD] at h
    cases h
    rw [List.nil_append, atD]
    cases d.kids[j]? <;> rfl
  | i :: p, j, d, c, h => by
    rw [atD] at h
    obtain ⟨v, h1, h⟩ := bind_some h
    rw [List.cons_append, atD, h1]
    exact atD_snoc h
theorem ixN_lt {n : Nat} {k : Int} {j : Nat} (h : ixN n k = some j) : j < n := (ixN_seq h).2.1
section
variable {X : Cx} {m ma mb : PM} {me m1 m2 : EM} {e a b : Expr} {pos apos cpos : Pos} {U P : List Nat} {i : Nat} {pm : Env → Option (List Nat)}
theorem spl_name {x : Str} (i : Nat) (hN : X.N[i]? = some x := by rfl) (hv : Vis X.env.scope x := by first | exact .inl rfl | exact .inr (.inl rfl) | exact .inr (.inr rfl))
    (hd : (x == ("__debug__" : Str)) = false := by decide) (hcd : (x == ("__classdict__" : Str)) = false := by decide) : SPl X i (.Name x pos) (plName i) where
  ok := fun env p h => by
    obtain ⟨d, h1, rfl⟩ := map_some h
    exact ⟨d, d, h1, rfl⟩
  pe := PE.weak (pe_var (i := i) hN hv hd hcd) fun σ H Q ⟨env, p, hm, r, s, k⟩ => by
    obtain ⟨d, h1, rfl⟩ := map_some hm
    obtain ⟨t, e1, e2⟩ := join_get h1
    exact ⟨t.val, r.2 i t e1, k H (Evl.Ex.refl H) t t e1 rfl⟩
theorem spl_item (ha : SPl X i a pm) (hb : SB X b mb) (hs : PlainIx b := by exact fun _ _ => rfl) : SPl X i (.Subscript a b pos) (plItem i pm mb) where
  ok := fun env q h => by
    obtain ⟨p, h1, h⟩ := bind_some h
    obtain ⟨y, h2, h⟩ := bind_some h
    obtain ⟨n, h3, h⟩ := bind_some h
    obtain ⟨d, h4, h⟩ := bind_some h
    obtain ⟨c, h5, h⟩ := bind_some h
    split at h
    · rename_i o ds
      obtain ⟨j, h6, rfl⟩ := map_some h
      exact ⟨d, _, h4, by rw [atD_snoc h5]; exact List.getElem?_eq_getElem (ixN_lt h6)⟩
    · rename_i ds
      obtain ⟨j, h6, rfl⟩ := map_some h
      exact ⟨d, _, h4, by rw [atD_snoc h5]; exact List.getElem?_eq_getElem (ixN_lt h6)⟩
    · cases h
  pe := PE.weak (pe_ix ix_it ha.pe hb hs) fun σ H Q ⟨env, q, hm, r, s, k⟩ => by
    obtain ⟨p, h1, h⟩ := bind_some hm
    obtain ⟨y, h2, h⟩ := bind_some h
    obtain ⟨n, h3, h⟩ := bind_some h
    obtain ⟨d, h4, h⟩ := bind_some h
    obtain ⟨c, h5, hh⟩ := bind_some h
    clear h
    refine ⟨env, p, h1, r, s, fun H1 x1 t u e1 e2 => ⟨env, y, h2, r, s.ex x1, fun v H2 e3 x2 s2 _ => ?_⟩⟩
    obtain ⟨t', f1, f2⟩ := join_get h4
    rw [e1] at f1
    cases f1
    subst f2
    have st := sat_ex (x1.trans x2) (s.get e1)
    obtain ⟨u', g1, g2, g3⟩ := atD_run st h5
    rw [e2] at g1
    cases g1
    have ev : v.er = .s (.int n) := e3.trans (toI_some h3)
    rw [er_int ev]
    split at hh
    · rename_i o ds
      obtain ⟨j, h6, rfl⟩ := map_some hh
      obtain ⟨a, w1, w2, w3, w4, _⟩ := rdLk g3 g2
      have hj := ixN_lt h6
      rw [← len_er w2] at hj h6
      have hw := List.getElem?_eq_getElem hj
      rw [w1]
      refine .inl (.inl ⟨a, _, n, (u.kids[j]).val, rfl, rfl, w3, ?_, k H2 (x1.trans x2) t _ e1 (by rw [atT_snoc e2]; exact hw)⟩)
      unfold atI
      rw [List.length_map, h6]
      exact vals_at hw
    · rename_i ds
      obtain ⟨j, h6, rfl⟩ := map_some hh
      obtain ⟨a, w1, w2, w3, w4, _⟩ := rdTk g3 g2
      have hj := ixN_lt h6
      rw [← len_er w2] at hj h6
      have hw := List.getElem?_eq_getElem hj
      rw [w1]
      refine .inl (.inr ⟨a, _, n, (u.kids[j]).val, rfl, rfl, w3, ?_, k H2 (x1.trans x2) t _ e1 (by rw [atT_snoc e2]; exact hw)⟩)
      unfold atI
      rw [List.length_map, h6]
      exact vals_at hw
    · cases hh
/-- the place first, then what is handed in: then the place is as it was -/
theorem goPl {K : PySem.W.Frag} {H0 H : Hp} {env0 env : TEnv} {σ : L2.St} {F : List T} {p : List Nat} {Q : VK} (ho : okPl i pm) (c : Cf K H0 env0 σ H F env) (hm : pm (erE env) = some p)
    (k : ∀ t u H', env[i]? = some (some t) → atT p t = some u → Ex H H' → Cf K H0 env0 σ H' F env → Q u.val H') : trPl K i pm σ H Q :=
  ⟨env, p, hm, c.rel, c.satE, fun H' x t u h1 h2 => k t u H' h1 h2 x (c.ex x)⟩
/-- xs.append(e) -/
@[simp] def sApp (i : Nat) (pm : Env → Option (List Nat)) (me : EM) : SM := fun env => (pm env).bind fun p => (me env).bind fun x => (env[i]?.join).bind fun d =>
  (modD p (fun ds => if ds.length < 16777216 then some (ds ++ [x.1]) else none) d).map fun d' => (.nx, x.2.set i (some d'))
theorem sizeLine_lt {n : Nat} (h : n < 16777216) : n < sizeLine := by rw [sizeLine_eq]; exact h
theorem if_some' {α : Type} {c : Prop} [Decidable c] {o : Option α} {z : α} (h : (if c then o else none) = some z) : c ∧ o = some z := by
  split at h
  · exact ⟨by assumption, h⟩
  · cases h
theorem if_some {α : Type} {c : Prop} [Decidable c] {x z : α} (h : (if c then some x else none) = some z) : c ∧ x = z := by
  split at h
  · cases h; exact ⟨by assumption, rfl⟩
  · cases h
theorem ss_append (ho : SPl X i a pm) (h : SE X [i] e me) (hbase : attributeBase a "append" X.env (eval a X.env) = eval a X.env := by rfl)
    (hfew : ((backTo cpos (starEach [e] X.env)).all (fun x => !x.1) && (backToKw cpos (keywordEach [] X.env)).all (fun x => x.1.isSome)
      && decide (([e] : List Expr).length + ([] : List Keyword).length + (if ([] : List Keyword).isEmpty then 0 else 1) < 30)) = true := by rfl)
    (hline : (apos.endLine == cpos.line) = true := by rfl) (hs : starEach [e] X.env = (false, eval e X.env) :: starEach [] X.env := by rfl) (hplain : (backTo cpos (starEach [] X.env)).any (·.1) = false := by rfl)
    (hsw : swapsWith (.Call (.Attribute a "append" apos) [e] [] cpos) none pos.line X.env = pure false := by rfl) : SS X P (.Expr (.Call (.Attribute a "append" apos) [e] [] cpos) pos) (sApp i pm me) :=
  PS.weak (ps_expr (pe_bm PySem.F.plainAttrs_list PySem.F.slot_list_append PySem.F.type_list_append mt_append ho.pe (pa_cons h pa_nil hs) hbase hfew hline hs hplain) hsw) fun De σ H ⟨env, o, e', hm, r, s, w, k⟩ => by
    obtain ⟨p, hp, hm⟩ := bind_some hm
    obtain ⟨x, hx, hm⟩ := bind_some hm
    obtain ⟨d, hd, hm⟩ := bind_some hm
    obtain ⟨d', hmd, e1⟩ := map_some hm
    cases e1
    obtain ⟨t, h1, rfl⟩ := join_get hd
    unfold tDrop tBM
    refine goPl ho.ok (Cf.start r s w) hp fun t' u H1 h1' h2 x1 c1 => ?_
    rw [h1] at h1'
    cases h1'
    obtain ⟨a1, ts1, M1⟩ := mod_run (c1.satE.get h1) hmd
    have ha1 := M1.at_
    rw [h2] at ha1
    cases ha1
    refine ⟨.inl ⟨rfl, _, .inl (.inl M1.nd)⟩, ?_⟩
    unfold tCons
    refine goE (d := x.1) (e' := x.2) c1 hx fun v env1 H2 e1 e2 c2 u1 => ?_
    have f3 : env1[i]? = some (some t) := (u1 i (by simp)).trans h1
    obtain ⟨a2, ts, M⟩ := mod_run (c2.satE.get f3) hmd
    have := M.at_
    rw [h2] at this
    cases this
    obtain ⟨ds', g1, _⟩ := M.new
    obtain ⟨g2, rfl⟩ := if_some g1
    refine ⟨a1, _, v.val, rfl, rfl, M.nd, sizeLine_lt (by rw [List.length_map, ← erL_length]; exact g2), ?_⟩
    obtain ⟨env2, w1, _, c3⟩ := mut_step (G := [v]) (F' := []) (G' := []) (ts' := ts1 ++ [v]) c2 f3 M (by rw [g1, erL_append, erL, erL, e1]) (satL_append.mpr ⟨M.sat, c2.satF.1, trivial⟩) trivial (fun b => by simp only [coL_append, coL]; omega)
      (fun b h => by have := M.leu b; have := cuE_get (a := b) f3; simp only [cuL_append, cuL] at h ⊢; omega)
    have ev : vals (ts1 ++ [v]) = vals ts1 ++ [v.val] := by simp [vals]
    rw [ev] at c3
    exact k [] σ env2 _ (by rw [w1, e2]) c3 (fun _ _ => rfl) rfl
/-- xs.pop(e) -/
@[simp] def ePopAt (i : Nat) (pm : Env → Option (List Nat)) (me : EM) : EM := fun env => (pm env).bind fun p => (me env).bind fun x => (toI x.1).bind fun n => (env[i]?.join).bind fun d => (atD p d).bind fun c => match c with
  | .n (.lst .o) ds => if ds.length ≤ 16777216 then (ixN ds.length n).bind fun j => (ds[j]?).bind fun z => (modD p (fun _ => some (ds.eraseIdx j)) d).map fun d' => (z, x.2.set i (some d')) else none
  | _ => none
theorem coL_erase {ts : List T} {j : Nat} {u : T} {b : Addr} (h : ts[j]? = some u) : coL b (ts.eraseIdx j) + u.co b = coL b ts := by
  induction ts generalizing j with
  | nil => simp at h
  | cons t ts ih =>
    cases j with
    | zero => simp at h; subst h; rw [List.eraseIdx_cons_zero, coL]; omega
    | succ j => have := ih (j := j) (by simpa using h); rw [List.eraseIdx_cons_succ, coL, coL]; omega
theorem cuL_erase {ts : List T} {j : Nat} {u : T} {b : Addr} (h : ts[j]? = some u) : cuL b (ts.eraseIdx j) + u.cu b = cuL b ts := by
  induction ts generalizing j with
  | nil => simp at h
  | cons t ts ih =>
    cases j with
    | zero => simp at h; subst h; rw [List.eraseIdx_cons_zero, cuL]; omega
    | succ j => have := ih (j := j) (by simpa using h); rw [List.eraseIdx_cons_succ, cuL, cuL]; omega
theorem map_eraseIdx {α β : Type} (f : α → β) : ∀ (xs : List α) (j : Nat), (xs.eraseIdx j).map f = (xs.map f).eraseIdx j
  | [], j => by simp
  | x :: xs, 0 => by simp
  | x :: xs, j + 1 => by simp [map_eraseIdx f xs j]
theorem se_popAt (ho : SPl X i a pm) (h : SE X (i :: U) e me) (hU : i ∉ U) (hbase : attributeBase a "pop" X.env (eval a X.env) = eval a X.env := by rfl)
    (hfew : ((backTo cpos (starEach [e] X.env)).all (fun x => !x.1) && (backToKw cpos (keywordEach [] X.env)).all (fun x => x.1.isSome)
      && decide (([e] : List Expr).length + ([] : List Keyword).length + (if ([] : List Keyword).isEmpty then 0 else 1) < 30)) = true := by rfl)
    (hline : (apos.endLine == cpos.line) = true := by rfl) (hs : starEach [e] X.env = (false, eval e X.env) :: starEach [] X.env := by rfl) (hplain : (backTo cpos (starEach [] X.env)).any (·.1) = false := by rfl) :
    SE X U (.Call (.Attribute a "pop" apos) [e] [] cpos) (ePopAt i pm me) :=
  PE.weak (pe_bm PySem.F.plainAttrs_list PySem.F.slot_list_pop PySem.F.type_list_pop mt_popAt ho.pe (pa_cons h pa_nil hs) hbase hfew hline hs hplain) fun σ H Q ⟨env, zd, e', hm, r, s, w, k⟩ => by
    obtain ⟨p, hp, hm⟩ := bind_some hm
    obtain ⟨x, hx, hm⟩ := bind_some hm
    obtain ⟨n, hn, hm⟩ := bind_some hm
    obtain ⟨d, hd, hm⟩ := bind_some hm
    obtain ⟨c, hc, hm⟩ := bind_some hm
    split at hm
    case h_2 => cases hm
    rename_i ds
    obtain ⟨hlen, hm⟩ := if_some' hm
    obtain ⟨j, hj, hm⟩ := bind_some hm
    obtain ⟨z, hz, hm⟩ := bind_some hm
    obtain ⟨d', hmd, e1⟩ := map_some hm
    cases e1
    obtain ⟨t, h1, rfl⟩ := join_get hd
    unfold tBM
    refine goPl ho.ok (Cf.start r s w) hp fun t' u H1 h1' h2 x1 c1 => ?_
    rw [h1] at h1'
    cases h1'
    obtain ⟨a1, ts1, M1⟩ := mod_run (c1.satE.get h1) hmd
    have ha1 := M1.at_
    rw [h2] at ha1
    cases ha1
    refine ⟨.inl ⟨rfl, _, .inl (.inl M1.nd)⟩, ?_⟩
    unfold tCons
    refine goE (d := x.1) (e' := x.2) c1 hx fun v env1 H2 e1 e2 c2 u1 => ?_
    have f3 : env1[i]? = some (some t) := (u1 i (by simp)).trans h1
    obtain ⟨a2, ts, M⟩ := mod_run (c2.satE.get f3) hmd
    have := M.at_
    rw [h2] at this
    cases this
    obtain ⟨u2, q1, q2, q3⟩ := atD_run (c2.satE.get f3) hc
    rw [h2] at q1
    cases q1
    have q4 : erL ts1 = ds := by rw [T.er] at q2; cases q2; rfl
    obtain ⟨zt, hzt, rfl⟩ := er_at q4 hz
    rw [er_int (e1.trans (toI_some hn))]
    obtain ⟨b1, b2, b3, b4⟩ := ixN_seq hj
    have ll : (vals ts1).length = ds.length := by rw [List.length_map, len_er q4]
    refine ⟨a1, vals ts1, n, j, zt.val, rfl, rfl, M.nd, by omega, by omega, by rw [ll]; exact b1, vals_at hzt, ?_⟩
    obtain ⟨env2, w1, w2, c3⟩ := mut_step (G := [v]) (F' := []) (G' := [zt]) (ts' := ts1.eraseIdx j) c2 f3 M (by rw [erL_map, map_eraseIdx, ← erL_map, q4]) (satL_iff.mpr fun y hy => satL_iff.mp M.sat y (List.mem_of_mem_eraseIdx hy)) ⟨sat_at M.sat hzt, trivial⟩
      (fun b => by have := coL_erase (b := b) hzt; simp only [coL]; omega) (fun b hb => by have := cuL_erase (b := b) hzt; have := M.leu b; have := cuE_get (a := b) f3; simp only [cuL, cuL_append] at hb ⊢; omega)
    have ev : vals (ts1.eraseIdx j) = (vals ts1).eraseIdx j := map_eraseIdx _ _ _
    rw [ev] at c3
    exact k zt env2 _ rfl (by rw [w1, e2]) c3 fun y hy => (w2 y fun q => hU (q ▸ hy)).trans (u1 y (List.mem_cons_of_mem _ hy))
/-- xs.insert(n, e) -/
@[simp] def sIns (i : Nat) (pm : Env → Option (List Nat)) (mn me : EM) : SM := fun env => (pm env).bind fun p => (mn env).bind fun y => (me y.2).bind fun x => (toI y.1).bind fun n => (env[i]?.join).bind fun d =>
  (modD p (fun ds => if (ds.length < 16777216 ∧ 0 ≤ n ∧ n < 2 ^ 63) then some (ds.take n.toNat ++ [x.1] ++ ds.drop n.toNat) else none) d).map fun d' => (.nx, x.2.set i (some d'))
theorem ss_insert {b : Expr} {mn : EM} (ho : SPl X i a pm) (hb : SE X [i] b mn) (h : SE X [i] e me) (hbase : attributeBase a "insert" X.env (eval a X.env) = eval a X.env := by rfl)
    (hfew : ((backTo cpos (starEach [b, e] X.env)).all (fun x => !x.1) && (backToKw cpos (keywordEach [] X.env)).all (fun x => x.1.isSome)
      && decide (([b, e] : List Expr).length + ([] : List Keyword).length + (if ([] : List Keyword).isEmpty then 0 else 1) < 30)) = true := by rfl)
    (hline : (apos.endLine == cpos.line) = true := by rfl) (hs : starEach [b, e] X.env = (false, eval b X.env) :: starEach [e] X.env := by rfl) (hs2 : starEach [e] X.env = (false, eval e X.env) :: starEach [] X.env := by rfl) (hplain : (backTo cpos (starEach [e] X.env)).any (·.1) = false := by rfl)
    (hsw : swapsWith (.Call (.Attribute a "insert" apos) [b, e] [] cpos) none pos.line X.env = pure false := by rfl) : SS X P (.Expr (.Call (.Attribute a "insert" apos) [b, e] [] cpos) pos) (sIns i pm mn me) :=
  PS.weak (ps_expr (pe_bm PySem.F.plainAttrs_list PySem.F.slot_list_insert PySem.F.type_list_insert L2.mt_insert ho.pe (pa_cons hb (pa_cons h pa_nil hs2) hs) hbase hfew hline hs hplain) hsw) fun De σ H ⟨env, o, e', hm, r, s, w, k⟩ => by
    obtain ⟨p, hp, hm⟩ := bind_some hm
    obtain ⟨y, hy, hm⟩ := bind_some hm
    obtain ⟨x, hx, hm⟩ := bind_some hm
    obtain ⟨n, hn, hm⟩ := bind_some hm
    obtain ⟨d, hd, hm⟩ := bind_some hm
    obtain ⟨d', hmd, e1⟩ := map_some hm
    cases e1
    obtain ⟨t, h1, rfl⟩ := join_get hd
    unfold tDrop tBM
    refine goPl ho.ok (Cf.start r s w) hp fun t' u H1 h1' h2 x1 c1 => ?_
    rw [h1] at h1'
    cases h1'
    obtain ⟨a1, ts1, M1⟩ := mod_run (c1.satE.get h1) hmd
    have ha1 := M1.at_
    rw [h2] at ha1
    cases ha1
    refine ⟨.inl ⟨rfl, _, .inl (.inl M1.nd)⟩, ?_⟩
    unfold tCons
    refine goE (d := y.1) (e' := y.2) c1 hy fun vn env0 H0 en e0 c0 u0 => ?_
    refine goE (d := x.1) (e' := x.2) c0 (by rw [e0]; exact hx) fun v env1 H2 e1 e2 c2 u1 => ?_
    have f3 : env1[i]? = some (some t) := (u1 i (by simp)).trans ((u0 i (by simp)).trans h1)
    obtain ⟨a2, ts, M⟩ := mod_run (c2.satE.get f3) hmd
    have := M.at_
    rw [h2] at this
    cases this
    obtain ⟨ds', g1, _⟩ := M.new
    obtain ⟨⟨g2, g3, g4⟩, rfl⟩ := if_some g1
    have en2 := er_int (en.trans (toI_some hn))
    subst en2
    refine ⟨a1, vals ts1, n, v.val, rfl, rfl, M.nd, sizeLine_lt (by rw [List.length_map, ← erL_length]; exact g2), g3, g4, ?_⟩
    obtain ⟨env2, w1, _, c3⟩ := mut_step (G := [v, .s (.int n)]) (F' := []) (G' := []) (ts' := ts1.take n.toNat ++ [v] ++ ts1.drop n.toNat) c2 f3 M (by rw [g1]; simp [erL_map, e1]) (satL_iff.mpr fun y hy => by
        rcases List.mem_append.mp hy with q | q
        · rcases List.mem_append.mp q with q | q
          · exact satL_iff.mp M.sat y (List.mem_of_mem_take q)
          · rw [List.mem_singleton] at q; subst q; exact c2.satF.1
        · exact satL_iff.mp M.sat y (List.mem_of_mem_drop q)) trivial
      (fun b => by have := coL_append (a := b) (ts := ts1.take n.toNat) (us := ts1.drop n.toNat); rw [List.take_append_drop] at this; simp only [coL_append, coL]; omega)
      (fun b hb => by have := cuL_append (a := b) (ts := ts1.take n.toNat) (us := ts1.drop n.toNat); rw [List.take_append_drop] at this; have := M.leu b; have := cuE_get (a := b) f3; simp only [cuL_append, cuL] at hb ⊢; omega)
    have ev : vals (ts1.take n.toNat ++ [v] ++ ts1.drop n.toNat) = (vals ts1).take n.toNat ++ [v.val] ++ (vals ts1).drop n.toNat := by simp [vals]
    rw [ev] at c3
    exact k [] σ env2 _ (by rw [w1, e2]) c3 (fun _ _ => rfl) rfl
/-- xs[n] = e -/
@[simp] def sPut (i : Nat) (pm : Env → Option (List Nat)) (mb : PM) (me : EM) : SM := fun env => (me env).bind fun x => (pm x.2).bind fun p => (mb x.2).bind fun y => (toI y).bind fun n => (x.2[i]?.join).bind fun d =>
  (modD p (fun ds => (ixN ds.length n).map fun j => ds.set j x.1) d).map fun d' => (.nx, x.2.set i (some d'))
theorem ss_put {b : Expr} {spos : Pos} (h : SE X [] e me) (ho : SPl X i a pm) (hb : SB X b mb) (ha : ∀ v, assign (.Subscript a b pos) X.env v = (do
      let ov ← holding [v] (eval a X.env)
      let iv ← holding [v, ov] (eval b X.env)
      standAt pos
      holding [v, ov, iv] (setItem ov iv v)
      release [v, ov, iv] []) := by intro _; rfl) (hs : swapsWithSole [.Subscript a b pos] e spos.line X.env = pure false := by rfl) (hw : swappedStores [.Subscript a b pos] e X.env = pure none := by rfl)
    (h1 : (assignEach [.Subscript a b pos] X.env).map (·.2) = [assign (.Subscript a b pos) X.env] := by rfl) : SS X P (.Assign [.Subscript a b pos] e spos) (sPut i pm mb me) :=
  PS.weak (ps_asg h (pg_sub ho.pe hb set_list ha) hs hw h1) fun De σ H ⟨env, o, e', hm, r, s, w, k⟩ => by
    obtain ⟨x, hx, hm⟩ := bind_some hm
    obtain ⟨p, hp, hm⟩ := bind_some hm
    obtain ⟨y, hy, hm⟩ := bind_some hm
    obtain ⟨n, hn, hm⟩ := bind_some hm
    obtain ⟨d, hd, hm⟩ := bind_some hm
    obtain ⟨d', hmd, e1⟩ := map_some hm
    cases e1
    unfold tAsg gSub
    refine goE (d := x.1) (e' := x.2) (Cf.start r s w) hx fun v env1 H1 e1 e2 c1 u1 => ?_
    rw [← e2] at hd hp hy
    obtain ⟨t, f3, rfl⟩ := join_get hd
    refine goPl ho.ok c1 hp fun t' u H2 h1' h2 x2 c2 => ?_
    rw [f3] at h1'
    cases h1'
    refine goB c2 hy fun v2 H3 e3 x3 s3 _ c3 => ?_
    rw [er_int (e3.trans (toI_some hn))]
    obtain ⟨a1, ts1, M⟩ := mod_run (c3.satE.get f3) hmd
    have := M.at_
    rw [h2] at this
    cases this
    obtain ⟨ds', g1, _⟩ := M.new
    obtain ⟨j, g2, rfl⟩ := map_some g1
    have hj := ixN_lt g2
    rw [erL_length] at hj
    have hu := List.getElem?_eq_getElem hj
    refine ⟨a1, vals ts1, n, j, rfl, rfl, M.nd, by rw [List.length_map, ← erL_length]; exact g2, ?_⟩
    obtain ⟨env2, w1, _, c4⟩ := mut_step (G := [v]) (F' := []) (G' := []) (ts' := ts1.set j v) c3 f3 M (by rw [g1, erL_set, e1]) (satL_iff.mpr fun y hy => by
        rcases List.mem_or_eq_of_mem_set hy with q | q
        · exact satL_iff.mp M.sat y q
        · subst q; exact c3.satF.1) trivial
      (fun b => by have := coL_set (b := b) (v := v) hu; simp only [coL]; omega) (fun b hb => by have := cuL_set (b := b) (v := v) hu; have := M.leu b; have := cuE_get (a := b) f3; simp only [cuL_append, cuL] at hb ⊢; omega)
    have ev : vals (ts1.set j v) = (vals ts1).set j v.val := by rw [vals, List.map_set]
    rw [ev] at c4
    exact k [] σ env2 _ (by rw [w1, e2]) c4 (fun _ _ => rfl) rfl
/-- a name read for the last time: its tree is handed on -/
@[simp] def eMove (i : Nat) : EM := fun env => (env[i]?.join).map fun d => (d, env.set i none)
theorem se_move {x : Str} (i : Nat) (hU : i ∉ U) (hN : X.N[i]? = some x := by rfl) (hv : Vis X.env.scope x := by first | exact .inl rfl | exact .inr (.inl rfl) | exact .inr (.inr rfl))
    (hd : (x == ("__debug__" : Str)) = false := by decide) (hcd : (x == ("__classdict__" : Str)) = false := by decide) : SE X U (.Name x pos) (eMove i) := PE.weak (pe_var (i := i) hN hv hd hcd) fun σ H Q ⟨env, d, e', hm, r, s, w, k⟩ => by
  obtain ⟨d', h1, e1⟩ := map_some hm
  cases e1
  obtain ⟨t, f1, f2⟩ := join_get h1
  refine ⟨t.val, r.2 i t f1, k t (env.set i none) H f2 erE_set ((Cf.start r s w).less r.drop ⟨s.get f1, trivial⟩ (s.set fun u hu => by cases hu) (fun a => ?_) fun a => ?_) fun j hj => ?_⟩
  · have := coE_set (a := a) none f1
    simp only [coL, oT] at this ⊢; omega
  · have := cuE_set (a := a) none f1
    simp only [cuL, oT] at this ⊢; omega
  · rw [List.getElem?_set, if_neg (fun (z : i = j) => hU (by rw [z]; exact hj))]
end
end Ow

namespace Ow
open PySem L2

/-! ### isinstance -/
def tyN : D → Option String
  | .s .non => some "NoneType"
  | .s (.bl _) => some "bool"
  | .s (.int _) => some "int"
  | .s (.str _) => some "str"
  | .n (.lst _) _ => some "list"
  | .n .tup _ => some "tuple"
  | .n (.dic _ _) _ => some "dict"
  | _ => none
@[simp] theorem tyN_c0  : tyN (.s .non) = some "NoneType" := rfl
@[simp] theorem tyN_c1 {b : Bool} : tyN (.s (.bl b)) = some "bool" := rfl
@[simp] theorem tyN_c2 {i : Int} : tyN (.s (.int i)) = some "int" := rfl
@[simp] theorem tyN_c3 {z : PySem.Str} : tyN (.s (.str z)) = some "str" := rfl
@[simp] theorem tyN_c4 {ds : List D} {o : Fl} : tyN (.n (.lst o) ds) = some "list" := rfl
@[simp] theorem tyN_c5 {ds : List D} : tyN (.n .tup ds) = some "tuple" := rfl
theorem ty_of {K : PySem.W.Frag} {H : Hp} {t : T} {n : String} (s : t.sat K H) (h : tyN t.er = some n) : TyX K H t.val (.type n) := by
  cases t with
  | s v =>
    rw [T.er] at h
    unfold hid at h
    cases v with
    | non => cases h; exact .base .non
    | bl b => cases h; exact .base (.bl b)
    | int i => cases h; exact .base (.int i)
    | str x => cases h; exact .base (.str x)
    | byt _ => cases h
    | flt _ => cases h
    | ref _ => cases h
    | ty _ => cases h
  | n k a ts =>
    rw [T.er] at h
    have h1 := s.1.1
    cases k with
    | lst o => cases h; exact .base (.lst h1)
    | tup => cases h; exact .base (.tup h1)
    | dic o ks => cases h; exact .base (.dK h1)
    | dct o ks => cases h
  | w z k a ts =>
    rw [T.er] at h
    have h1 := s.1
    cases z with
    | true =>
      cases k with
      | lst o =>
        cases h
        rcases h1 with (q | ⟨_, q⟩) | ⟨ob, its, n, e1, e2, _⟩
        · cases q
        · cases q
        · exact .kList e1 e2
      | tup =>
        cases h
        rcases h1 with (q | ⟨_, q⟩) | ⟨ob, its, n, e1, e2, _⟩
        · cases q
        · cases q
        · exact .kTuple e1 e2
      | dic o ks => cases h1
      | dct o ks => cases h1
    | false =>
      obtain ⟨ob, h1⟩ := h1
      cases k with
      | lst o => cases h; exact .base (.frz h1)
      | tup => cases h; exact .fTuple h1
      | dic o ks => cases h; exact .fDict h1
      | dct o ks => cases h
@[simp] def isiD (T : String) (d : D) : Option V := (tyN d).bind fun n => (kitB n T).map .bl
@[simp] def mIsi (T : String) (m : PM) : PM := fun env => (m env).bind fun d => (isiD T d).bind sv
theorem kit_ll : kitB "list" "list" = some true := by decide +kernel
section
variable {X : Cx} {e : Expr} {m : PM} {pos p q : Pos}
theorem sp_isi {x : Str} {n : String} (hm : X.mg "isinstance" = none) (hmT : X.mg x = none) (hb : bootBuiltins x = some (.type n)) (h : SB X e m) (hi : bootBuiltins "isinstance" = some (.builtin "isinstance")) (hg : Gl X "isinstance" := by rfl) (hgT : Gl X x := by rfl) (hn : x ≠ "__name__" := by decide) (hd : (x == ("__debug__" : Str)) = false := by decide)
    (he : starEach [e, .Name x q] X.env = (false, eval e X.env) :: starEach [.Name x q] X.env := by rfl) (he2 : starEach [.Name x q] X.env = (false, eval (.Name x q) X.env) :: starEach [] X.env := by rfl) (hpl : (backTo pos (starEach [.Name x q] X.env)).any (·.1) = false := by rfl) :
    SP X (.Call (.Name "isinstance" p) [e, .Name x q] [] pos) (mIsi n m) := PE.weak (pe_callB call_isi hg hm hi (pa_cons h (pa_cons (pe_bltn (v := .ty n) hgT hmT hb rfl hn hd) pa_nil he2) he) (by decide) (by decide) he hpl) fun σ H Q ⟨env, d, hm, r, s, k⟩ => by
  obtain ⟨c, h1, hm⟩ := bind_some hm
  obtain ⟨v, h2, hm⟩ := bind_some hm
  obtain ⟨h3, rfl⟩ := sv_some hm
  obtain ⟨a, h4, h2⟩ := bind_some h2
  obtain ⟨b, h5, rfl⟩ := map_some h2
  unfold tCB tCons
  refine ⟨env, c, h1, r, s, fun t H1 e1 x1 s1 _ => ?_⟩
  subst e1
  exact ⟨t.val, .ty n, _, .type n, b, rfl, .ty n, ty_of s1 h4, kit_ty h5, k (.s (.bl b)) H1 rfl x1 trivial own_s⟩
end

/-! ### a loop over an owned list whose items are changed -/
def forMD (j : Nat) (mb : SM) : List D → List D → Env → Option (List D × Env)
  | done, [], env => some (done, env)
  | done, d :: ds, env => (mb (env.set j (some d))).bind fun x => match x.1 with
    | .nx => (x.2[j]?.join).bind fun d' => forMD j mb (done ++ [d']) ds (x.2.set j none)
    | .ct => (x.2[j]?.join).bind fun d' => forMD j mb (done ++ [d']) ds (x.2.set j none)
    | _ => none
@[simp] def sForM (i j : Nat) (mb : SM) : SM := fun env => (env[i]?.join).bind fun d => match d with
  | .n (.lst .o) ds => (forMD j mb [] ds (env.set i none)).map fun x => (.nx, x.2.set i (some (.n (.lst .o) x.1)))
  | _ => none
section
variable {X : Cx} {pos p : Pos} {P : List Nat} {mb : SM} {body : List Stmt}
theorem skel_sat {K : PySem.W.Frag} {H : Hp} {a : Addr} {vs : List V} (h : H a = some (.lst vs)) : (T.n (.lst .o) a (vs.map T.s)).sat K H := by
  refine ⟨⟨?_, rfl⟩, ?_⟩
  · rw [vals, List.map_map, h]
    congr 1
    show HO.lst vs = HO.lst _
    congr 1
    simp [Function.comp_def, T.val]
  · rw [satL_iff]
    intro t ht
    obtain ⟨v, _, rfl⟩ := List.mem_map.mp ht
    trivial
theorem skel_vals {vs : List V} : vals (vs.map T.s) = vs := by
  induction vs with
  | nil => rfl
  | cons v vs ih => rw [List.map_cons, vals, List.map_cons]; exact congrArg _ ih
theorem skel_co {vs : List V} {a : Addr} : coL a (vs.map T.s) = 0 := by
  induction vs with
  | nil => rfl
  | cons v vs ih => rw [List.map_cons, coL, ih]; rfl
theorem skel_cu {vs : List V} {a : Addr} : cuL a (vs.map T.s) = 0 := by
  induction vs with
  | nil => rfl
  | cons v vs ih => rw [List.map_cons, cuL, ih]; rfl
theorem ss_forM {x y : Str} (i j : Nat) (hij : i ≠ j) (hc : X.calm = true) (hp : PassesOwn (model X.prog X.w) X.A X.env X.xe) (hN : X.N.Nodup) (hb : SSs X (j :: i :: P) body mb) (hP : j ∉ P) (hi : X.N[i]? = some x := by rfl) (hv : Vis X.env.scope x := by first | exact .inl rfl | exact .inr (.inl rfl) | exact .inr (.inr rfl))
    (hj : X.N[j]? = some y := by rfl) (hy : Loc X.env.scope y := by first | exact .inl rfl | exact .inr rfl) (hf : X.fn y = true ∨ X.env.scope.names.lookup y = some .local := by first | exact .inl rfl | exact .inr rfl | assumption)
    (hd : (x == ("__debug__" : Str)) = false := by decide) (hcd : (x == ("__classdict__" : Str)) = false := by decide) {ty : Pos} (hs : ∀ z, foldedSetIterable (.Name x p) X.env z = pure z := by intro _; rfl) :
    SS X P (.For (.Name y ty) (.Name x p) body [] pos) (sForM i j mb) :=
  PS.weak (ps_for hp hc (pi_list (pe_var (i := i) hi hv hd hcd)) (pg_name (i := j) hN hj hy hf) hb hs) fun De σ H ⟨env, o, e', hm, r, s, w, k⟩ => by
    obtain ⟨d, hd, hm⟩ := bind_some hm
    split at hm
    case h_2 => cases hm
    rename_i ds
    obtain ⟨z, hz, e1⟩ := map_some hm
    cases e1
    obtain ⟨t, h1, h2⟩ := join_get hd
    obtain ⟨a, ts, rfl, h3, h4, h5⟩ := rdN (s.get h1) h2 rfl (by simp)
    have hl : ts.length = ds.length := len_er h3
    have se := s.get h1
    refine ⟨.ref a, r.2 i _ h1, a, rfl, ⟨_, .inl (.inl h4)⟩, ?_⟩
    have hσi : σ[i]? = some (some (.ref a)) := r.2 i _ h1
    have ilt : i < env.length := (List.getElem?_eq_some_iff.mp h1).1
    -- what is at hand between two turns: the list's node, the items done, the items left
    refine ⟨fun n mm σi Hi => n ≤ ts.length ∧ mm = ts.length - n ∧ ∃ (dn rs : List T) (envi : TEnv), vals (dn ++ rs) = vals ts ∧ dn.length = n ∧ forMD j mb (erL dn) (erL rs) (erE envi) = some z ∧ Cf X.K H env σi Hi (T.n (.lst .o) a ((vals ts).map T.s) :: (dn ++ rs)) envi ∧ σi[i]? = some (some (.ref a)) ∧ ∀ q ∈ P, σi[q]? = σ[q]?,
      ⟨ts.length, Nat.zero_le _, rfl, [], ts, env.set i none, rfl, rfl, by rw [h3, erE_set]; exact hz, ?_, hσi, fun _ _ => rfl⟩, fun n mm σi Hi W => ?_⟩
    · refine (Cf.start r s w).less r.drop ⟨skel_sat h4, h5⟩ (s.set fun u hu => by cases hu) (fun b => ?_) fun b => ?_
      · have := coE_set (a := b) none h1
        simp only [coL, oT, T.co, skel_co, List.nil_append] at this ⊢
        omega
      · have := cuE_set (a := b) none h1
        simp only [cuL, oT, T.cu, skel_cu, List.nil_append] at this ⊢
        omega
    obtain ⟨le, ms, dn, rs, envi, hvs, hdn, hf, c, pi, pq⟩ := W
    have hnode : Hi a = some (.lst (vals ts)) := by
      have := c.satF.1.1.1
      rw [skel_vals] at this
      exact this
    have hlen : dn.length + rs.length = ts.length := by
      have := congrArg List.length hvs
      simpa using this
    cases rs with
    | nil =>
      refine .inl ⟨⟨_, .inl (.inl hnode), by rw [List.length_map]; simp at hlen; omega⟩, ?_⟩
      rw [erL, forMD] at hf
      cases hf
      rw [List.append_nil] at hvs c
      -- the list again
      have hil : i < envi.length := by
        have := c.rel.1
        have q := (List.getElem?_eq_some_iff.mp pi).1
        omega
      have r2 : Rel σi (envi.set i (some (T.n (.lst .o) a dn))) := by
        refine ⟨by rw [List.length_set, c.rel.1], fun q u hu => ?_⟩
        rw [List.getElem?_set] at hu
        by_cases e : i = q
        · subst e
          rw [if_pos rfl, if_pos hil] at hu
          cases hu
          exact pi
        · rw [if_neg e] at hu
          exact c.rel.2 q u hu
      refine k [] σi (envi.set i (some (T.n (.lst .o) a dn))) Hi (by rw [erE_set]; rfl) (c.less r2 trivial (c.satE.set fun u hu => ?_) (fun b => ?_) fun b => ?_) pq rfl
      · cases hu
        exact ⟨⟨by rw [hvs]; exact hnode, rfl⟩, c.satF.2⟩
      · have := set_co (env := envi) (j := i) (t := T.n (.lst .o) a dn) (a := b)
        simp only [coL, T.co, skel_co] at this ⊢
        omega
      · have := set_cu (env := envi) (j := i) (t := T.n (.lst .o) a dn) (a := b)
        simp only [cuL, T.cu, skel_cu] at this ⊢
        omega
    | cons u rs =>
      have hn : n < ts.length := by simp at hlen; omega
      have hx : (vals ts)[n]? = some u.val := by
        rw [← hvs, vals, List.map_append, List.getElem?_append_right (by rw [List.length_map]; omega), List.length_map, hdn, Nat.sub_self]
        rfl
      refine .inr ⟨⟨_, _, .inl (.inl hnode), hx⟩, fun σ' H' => ∃ m', m' < mm ∧ (n + 1 ≤ ts.length ∧ m' = ts.length - (n + 1) ∧ ∃ (dn rs : List T) (envi : TEnv), vals (dn ++ rs) = vals ts ∧ dn.length = n + 1 ∧ forMD j mb (erL dn) (erL rs) (erE envi) = some z ∧ Cf X.K H env σ' H' (T.n (.lst .o) a ((vals ts).map T.s) :: (dn ++ rs)) envi ∧ σ'[i]? = some (some (.ref a)) ∧ ∀ q ∈ P, σ'[q]? = σ[q]?), fun σ' H' h => h, fun x H3 hy => ?_⟩
      obtain ⟨rfl, hy⟩ := hy
      have hy2 := hy _ (.inl (.inl hnode))
      rw [hx] at hy2
      cases hy2
      rw [erL, forMD] at hf
      obtain ⟨y2, hb2, hf⟩ := bind_some hf
      have sF := c.satF
      have sR := satL_append.mp sF.2
      have c2 : Cf X.K H env (σi.set j (some u.val)) H3 (T.n (.lst .o) a ((vals ts).map T.s) :: (dn ++ rs)) (envi.set j (some u)) := c.less c.rel.set ⟨sF.1, satL_append.mpr ⟨sR.1, sR.2.2⟩⟩ (c.satE.set fun v hv => by cases hv; exact sR.2.1) (fun b => by
          have := set_co (env := envi) (j := j) (t := u) (a := b)
          simp only [coL, coL_append] at this ⊢
          omega) fun b => by
          have := set_cu (env := envi) (j := j) (t := u) (a := b)
          simp only [cuL, cuL_append] at this ⊢
          omega
      refine ⟨envi.set j (some u), y2.1, y2.2, by rw [erE_set]; exact hb2, c2.rel, c2.satE, c2.base, fun F σ3 env3 H4 e3 c4 p4 => ?_⟩
      have c5 := c2.step c4
      have pii : σ3[i]? = some (some (.ref a)) := by rw [p4 i (by simp), List.getElem?_set, if_neg (fun q => hij q.symm)]; exact pi
      have p5 : ∀ q ∈ P, σ3[q]? = σ[q]? := fun q hq => by
        rw [p4 q (by simp [hq]), List.getElem?_set, if_neg (fun e => hP (by rw [e]; exact hq))]
        exact pq q hq
      have fin : F = [] → ((y2.2[j]?.join).bind fun d' => forMD j mb (erL dn ++ [d']) (erL rs) (y2.2.set j none)) = some z → ∃ m', m' < mm ∧ (n + 1 ≤ ts.length ∧ m' = ts.length - (n + 1) ∧ ∃ (dn rs : List T) (envi : TEnv), vals (dn ++ rs) = vals ts ∧ dn.length = n + 1 ∧ forMD j mb (erL dn) (erL rs) (erE envi) = some z ∧ Cf X.K H env σ3 H4 (T.n (.lst .o) a ((vals ts).map T.s) :: (dn ++ rs)) envi ∧ σ3[i]? = some (some (.ref a)) ∧ ∀ q ∈ P, σ3[q]? = σ[q]?) := fun hF hf => by
        subst hF
        obtain ⟨d', hd', hf⟩ := bind_some hf
        rw [← e3] at hd' hf
        obtain ⟨u', g1, rfl⟩ := join_get hd'
        have hval : u'.val = u.val := by
          have := c5.rel.2 j u' g1
          rw [p4 j (by simp), List.getElem?_set, if_pos rfl] at this
          split at this
          · exact (Option.some.inj (Option.some.inj this)).symm
          · cases this
        refine ⟨mm - 1, by omega, by omega, by omega, dn ++ [u'], rs, env3.set j none, ?_, by simp [hdn], ?_, ?_, pii, p5⟩
        · rw [← hvs]
          simp [vals, hval]
        · rw [erL_append, erE_set]
          exact hf
        · have sF5 := c5.satF
          have sR5 := satL_append.mp sF5.2
          refine c5.less c5.rel.drop ⟨sF5.1, satL_append.mpr ⟨satL_append.mpr ⟨sR5.1, c5.satE.get g1, trivial⟩, sR5.2⟩⟩ (c5.satE.set fun v hv => by cases hv) (fun b => ?_) fun b => ?_
          · have := coE_set (a := b) none g1
            simp only [coL, coL_append, oT, List.nil_append] at this ⊢
            omega
          · have := cuE_set (a := b) none g1
            simp only [cuL, cuL_append, oT, List.nil_append] at this ⊢
            omega
      obtain ⟨yo, ye⟩ := y2
      cases yo with
      | nx => exact fun hF => fin hF hf
      | ct => exact fun hF => fin hF hf
      | bk => cases hf
      | rt d => cases hf
end
end Ow

namespace Ow
open PySem L2 PyProof.Rows
/-! ### what the printed terms name -/
section
variable {X : Cx} {a b e : Expr} {ma mb m : PM} {pos : Pos}
def fNeg : D → Option V
  | .s (.int i) => some (.int (-i))
  | _ => none
@[simp] theorem fNeg_c0 {i : Int} : fNeg (.s (.int i)) = some (.int (-i)) := rfl
theorem sp_neg (ha : SB X a ma) : SP X (.UnaryOp .USub a pos) (mOp1 fNeg ma) := PE.weak (pe_un un_neg ha) fun σ H Q ⟨env, d, hm, hr, hs, k⟩ => by
  obtain ⟨x, hx, hm⟩ := bind_some hm
  obtain ⟨v, hv, hm⟩ := bind_some hm
  obtain ⟨s1, rfl⟩ := sv_some hm
  refine ⟨env, x, hx, hr, hs, fun t H1 e1 x1 s2 _ => ?_⟩
  subst e1
  unfold fNeg at hv
  split at hv
  · rename_i i e
    cases hv
    rw [er_int e]
    exact ⟨i, rfl, k (.s (.int (-i))) H1 rfl x1 trivial own_s⟩
  · cases hv
/-! comparisons as tests -/
variable {m1 m2 : EM} {k : Nat} {P : List Nat}
theorem st_cmp {op : CmpOp} {r : R2} {f : D → D → Option V} (ho : OpR X (compareOp op) r) (hf : Op2 X.K r f) (ha : SB X a ma) (hb : SB X b mb) (hm : behindInMarks op b = false) : ST X (.Compare a [op] [b] pos) (mB (mOp2 f ma mb)) :=
  PT.weak (pt_cmpR ho ha hb hm) fun σ H Q ⟨env, c, hc, hr, hs, k⟩ => by
    obtain ⟨d, hd, hc⟩ := bind_some hc
    have hd2 := toB_some hc
    subst hd2
    exact rd2 (ta := trB X.K ma) (tb := trB X.K mb) (Q := fun x H' => ∃ k, x = .bl k ∧ Q k H') hf ⟨env, .s (.bl c), hd, hr, hs, fun t H' e1 x1 s1 _ => ⟨c, by rw [er_scl e1 rfl]; rfl, k H' x1⟩⟩
theorem set_cmp {op : CmpOp} {r : R2} {f : D → D → Option V} (ho : OpR X (compareOp op) r) (hf : Op2 X.K r f) (ha : SE X [] a m1) (hb : SE X [] b m2) (hm : behindInMarks op b = false) : SET X (.Compare a [op] [b] pos) (eB (eOp2 f m1 m2)) :=
  PT.weak (pt_cmpR ho ha hb hm) fun σ H Q ⟨env, c, e', hc, hr, hs, w, k⟩ => by
    obtain ⟨x, hx, hc⟩ := bind_some hc
    obtain ⟨b', hb', e1⟩ := map_some hc
    cases e1
    exact eop_rd (U := []) (Q := fun x H' => ∃ k, x = .bl k ∧ Q k H') hf ⟨env, x.1, x.2, hx, hr, hs, w, fun t env' H' e1 e2 c' _ => ⟨c, by rw [er_scl (e1.trans (toB_some hb')) rfl]; rfl, k env' H' e2 c'.toNil⟩⟩
theorem st_eq (hr : Room k X.A) (ha : SB X a ma) (hb : SB X b mb) : ST X (.Compare a [.Eq] [b] pos) (mB (mOp2 fEq ma mb)) := st_cmp (op_eqD (hu64 hr)) op2_eq ha hb (nomark _)
theorem st_ne (hr : Room k X.A) (ha : SB X a ma) (hb : SB X b mb) : ST X (.Compare a [.NotEq] [b] pos) (mB (mOp2 fNe ma mb)) := st_cmp (op_neD (hu64 hr)) op2_ne ha hb (nomark _)
theorem st_in (hr : Room k X.A) (ha : SB X a ma) (hb : SB X b mb) (hm : behindInMarks .In b = false := by with_unfolding_all rfl) : ST X (.Compare a [.In] [b] pos) (mB (mOp2 fIn ma mb)) := st_cmp (op_inD (hu65 hr)) op2_in ha hb hm
theorem st_notIn (hr : Room k X.A) (ha : SB X a ma) (hb : SB X b mb) (hm : behindInMarks .NotIn b = false := by with_unfolding_all rfl) : ST X (.Compare a [.NotIn] [b] pos) (mB (mOp2 fNotIn ma mb)) := st_cmp (op_notInD (hu65 hr)) op2_notIn ha hb hm
theorem st_isN (ha : SB X a ma) (hb : SB X b mb) : ST X (.Compare a [.Is] [b] pos) (mB (mOp2 fIsN ma mb)) := st_cmp op_isN op2_isN ha hb (nomark _)
theorem st_notN (ha : SB X a ma) (hb : SB X b mb) : ST X (.Compare a [.IsNot] [b] pos) (mB (mOp2 fNotN ma mb)) := st_cmp op_notN op2_notN ha hb (nomark _)
theorem st_lt (ha : SB X a ma) (hb : SB X b mb) : ST X (.Compare a [.Lt] [b] pos) (mB (mOp2 fLt ma mb)) := st_cmp op_lt op2_I0 ha hb (nomark _)
theorem st_le (ha : SB X a ma) (hb : SB X b mb) : ST X (.Compare a [.LtE] [b] pos) (mB (mOp2 fLe ma mb)) := st_cmp op_le op2_I0 ha hb (nomark _)
theorem st_gt (ha : SB X a ma) (hb : SB X b mb) : ST X (.Compare a [.Gt] [b] pos) (mB (mOp2 fGt ma mb)) := st_cmp op_gt op2_I0 ha hb (nomark _)
theorem st_ge (ha : SB X a ma) (hb : SB X b mb) : ST X (.Compare a [.GtE] [b] pos) (mB (mOp2 fGe ma mb)) := st_cmp op_ge op2_I0 ha hb (nomark _)
theorem set_eq (hr : Room k X.A) (ha : SE X [] a m1) (hb : SE X [] b m2) : SET X (.Compare a [.Eq] [b] pos) (eB (eOp2 fEq m1 m2)) := set_cmp (op_eqD (hu64 hr)) op2_eq ha hb (nomark _)
theorem set_ne (hr : Room k X.A) (ha : SE X [] a m1) (hb : SE X [] b m2) : SET X (.Compare a [.NotEq] [b] pos) (eB (eOp2 fNe m1 m2)) := set_cmp (op_neD (hu64 hr)) op2_ne ha hb (nomark _)
theorem set_lt (ha : SE X [] a m1) (hb : SE X [] b m2) : SET X (.Compare a [.Lt] [b] pos) (eB (eOp2 fLt m1 m2)) := set_cmp op_lt op2_I0 ha hb (nomark _)
theorem set_le (ha : SE X [] a m1) (hb : SE X [] b m2) : SET X (.Compare a [.LtE] [b] pos) (eB (eOp2 fLe m1 m2)) := set_cmp op_le op2_I0 ha hb (nomark _)
theorem set_gt (ha : SE X [] a m1) (hb : SE X [] b m2) : SET X (.Compare a [.Gt] [b] pos) (eB (eOp2 fGt m1 m2)) := set_cmp op_gt op2_I0 ha hb (nomark _)
theorem set_ge (ha : SE X [] a m1) (hb : SE X [] b m2) : SET X (.Compare a [.GtE] [b] pos) (eB (eOp2 fGe m1 m2)) := set_cmp op_ge op2_I0 ha hb (nomark _)
/-! x op= e -/
@[simp] def sAugF (i : Nat) (f : D → D → Option V) (m : PM) : SM := fun env => (m env).bind fun y => (env[i]?.join).bind fun x => (f x y).bind fun v => (sv v).map fun d => (.nx, env.set i (some d))
theorem ss_augF {x : Str} {pos' : Pos} {op : Operator} {r : R2} {f : D → D → Option V} (i : Nat) (hN : X.N.Nodup) (hP : i ∉ P) (ho : PIp X op r) (hf : Op2 X.K r f) (h : SB X e m) (hi : X.N[i]? = some x := by rfl) (hx : Loc X.env.scope x := by first | exact .inl rfl | exact .inr rfl)
    (hfn : X.fn x = true ∨ X.env.scope.names.lookup x = some .local := by first | exact .inl rfl | exact .inr rfl | assumption) : SS X P (.AugAssign (.Name x pos') op e pos) (sAugF i f m) := PS.weak (ps_aug (i := i) hN hi hx h ho hfn) fun De σ H ⟨env, o, e', hm, r, s, w, k⟩ => by
  obtain ⟨y, hy, hm⟩ := bind_some hm
  obtain ⟨z, hz, hm⟩ := bind_some hm
  obtain ⟨v, hv, hm⟩ := bind_some hm
  obtain ⟨d, hd, e1⟩ := map_some hm
  cases e1
  obtain ⟨hs1, rfl⟩ := sv_some hd
  obtain ⟨t, h1, rfl⟩ := join_get hz
  refine ⟨_, r.2 i _ h1, env, _, hy, r, s, fun u H1 e1 x1 s1 _ => ?_⟩
  subst e1
  have c1 : Cf X.K H env σ H1 [] env := (Cf.start r s w).ex x1
  refine hf t u v H1 _ (sat_ex x1 (s.get h1)) s1 hv ?_
  refine k [] (σ.set i (some v)) (env.set i (some (.s v))) H1 ?_ (c1.less (Rel.set (t := .s v) c1.rel) trivial (c1.satE.set fun u hu => by cases hu; trivial) (fun a' => ?_) fun a' => ?_) (set_pin hP) rfl
  · rw [erE_set]
    show (erE env).set i (some (T.er (.s v))) = _
    rw [T.er, hid_scl hs1]
  · have := set_co (env := env) (j := i) (t := .s v) (a := a')
    simp only [coL, T.co] at this ⊢; omega
  · have := set_cu (env := env) (j := i) (t := .s v) (a := a')
    simp only [cuL, T.cu] at this ⊢; omega
theorem ipw_mul : PIp X .Mult (rI CMulB fun i j => .int (i * j)) := opI fun _ _ _ _ _ _ _ hc q => imul_int q hc.ok
theorem ipw_add : PIp X .Add (rI0 fun i j => .int (i + j)) := iop_add
theorem ipw_sub : PIp X .Sub (rI0 fun i j => .int (i - j)) := iop_sub
theorem ss_augAdd {x : Str} {pos' : Pos} (i : Nat) (hN : X.N.Nodup) (hP : i ∉ P) (h : SB X e m) (hi : X.N[i]? = some x := by rfl) (hx : Loc X.env.scope x := by first | exact .inl rfl | exact .inr rfl) (hfn : X.fn x = true ∨ X.env.scope.names.lookup x = some .local := by first | exact .inl rfl | exact .inr rfl | assumption) :
    SS X P (.AugAssign (.Name x pos') .Add e pos) (sAugF i fAdd m) := ss_augF i hN hP ipw_add op2_I0 h hi hx hfn
theorem ss_augSub {x : Str} {pos' : Pos} (i : Nat) (hN : X.N.Nodup) (hP : i ∉ P) (h : SB X e m) (hi : X.N[i]? = some x := by rfl) (hx : Loc X.env.scope x := by first | exact .inl rfl | exact .inr rfl) (hfn : X.fn x = true ∨ X.env.scope.names.lookup x = some .local := by first | exact .inl rfl | exact .inr rfl | assumption) :
    SS X P (.AugAssign (.Name x pos') .Sub e pos) (sAugF i fSub m) := ss_augF i hN hP ipw_sub op2_I0 h hi hx hfn
theorem ss_augMul {x : Str} {pos' : Pos} (i : Nat) (hN : X.N.Nodup) (hP : i ∉ P) (h : SB X e m) (hi : X.N[i]? = some x := by rfl) (hx : Loc X.env.scope x := by first | exact .inl rfl | exact .inr rfl) (hfn : X.fn x = true ∨ X.env.scope.names.lookup x = some .local := by first | exact .inl rfl | exact .inr rfl | assumption) :
    SS X P (.AugAssign (.Name x pos') .Mult e pos) (sAugF i fMul m) := ss_augF i hN hP ipw_mul (op2_I fun _ _ h => of_decide_eq_true h) h hi hx hfn
end
theorem okb {N : List Str} {sc scope : Scope} {own : List (Str × Nat)} (h : blkC N sc scope own = true) : blkC N sc scope own = true := h
theorem lnl : ∀ (env : Env) (ds : List D), lNil env = some ds → ds.length = 0 := fun env ds h => by cases h; rfl
theorem lcl {m : PM} {n : LM} {k : Nat} (h : ∀ (env : Env) (ds : List D), n env = some ds → ds.length = k) : ∀ (env : Env) (ds : List D), lCons m n env = some ds → ds.length = k + 1 := fun env ds e => by
  obtain ⟨x, _, e⟩ := bind_some e
  obtain ⟨ys, hy, rfl⟩ := map_some e
  rw [List.length_cons, h env ys hy]
theorem bt_sum : bootBuiltins "sum" = some (.builtin "sum") := by decide +kernel
theorem bt_len : bootBuiltins "len" = some (.builtin "len") := by decide +kernel
theorem bt_min : bootBuiltins "min" = some (.builtin "min") := by decide +kernel
theorem bt_max : bootBuiltins "max" = some (.builtin "max") := by decide +kernel
theorem bt_abs : bootBuiltins "abs" = some (.builtin "abs") := by decide +kernel
theorem bt_any : bootBuiltins "any" = some (.builtin "any") := by decide +kernel
theorem bt_all : bootBuiltins "all" = some (.builtin "all") := by decide +kernel
theorem bt_sorted : bootBuiltins "sorted" = some (.builtin "sorted") := by decide +kernel
theorem bt_isinstance : bootBuiltins "isinstance" = some (.builtin "isinstance") := by decide +kernel
theorem bt_list : bootBuiltins "list" = some (.type "list") := by decide +kernel
theorem bt_tuple : bootBuiltins "tuple" = some (.type "tuple") := by decide +kernel
theorem bt_int : bootBuiltins "int" = some (.type "int") := by decide +kernel
theorem bt_bool : bootBuiltins "bool" = some (.type "bool") := by decide +kernel
theorem bt_str : bootBuiltins "str" = some (.type "str") := by decide +kernel
theorem bt_dict : bootBuiltins "dict" = some (.type "dict") := by decide +kernel
/-- the promise of a law: True, whatever the script -/
def scriptT (K : PySem.W.Frag) (H : Hp) (a : Addr) (ns : List Int) : Prop := ∃ t : T, t.val = .ref a ∧ t.er = .n (.lst .w) (ns.map fun i => .s (.int i)) ∧ t.sat K H
theorem er_ints (ns : List Int) : erL (ns.map fun i => T.s (.int i)) = ns.map fun i => D.s (.int i) := by
  rw [erL_map, List.map_map]
  rfl
theorem script_t {K : PySem.W.Frag} {H : Hp} {a : Addr} {ns : List Int} (ho : Only H) (h : SqL K H a (ns.map V.int)) : scriptT K H a ns := by
  have hs : ∀ {H}, satL K H (ns.map fun i => T.s (.int i)) := satL_iff.mpr fun t ht => by
    obtain ⟨i, _, rfl⟩ := List.mem_map.mp ht
    trivial
  rcases h with (q | ⟨o, q⟩) | q
  · rcases ho a with z | ⟨o, xs, z⟩
    · rw [z] at q; cases q
    · rw [z] at q; cases q
  · exact ⟨.w false (.lst .w) a (ns.map fun i => T.s (.int i)), rfl, by rw [T.er, er_ints]; rfl, ⟨o, by rw [vals_ints]; exact q⟩, hs⟩
  · refine ⟨.w true (.lst .w) a (ns.map fun i => T.s (.int i)), rfl, by rw [T.er, er_ints]; rfl, ?_, hs⟩
    show SqL K (fun _ => none) a (vals _)
    rw [vals_ints]
    exact .inr q
/-- the law's own end: its def answers True -/
def scriptD (ns : List Int) : D := .n (.lst .w) (ns.map fun i => .s (.int i))
def spLaw (K : PySem.W.Frag) (f : FM) : Sp := fun vs H Q E => ∃ (a : Addr) (ns : List Int), vs = [.ref a] ∧ Only H ∧ SqL K H a (ns.map V.int) ∧ f [scriptD ns] = some (.s (.bl true)) ∧ ∀ H', Q (.bl true) H'
theorem frz_ints (ns : List Int) : (ns.map fun i => D.s (.int i)).map D.frz = ns.map fun i => D.s (.int i) := by
  rw [List.map_map]
  congr 1
theorem frzD_map : ∀ ds : List D, frzD ds = ds.map D.frz
  | [] => rfl
  | d :: ds => by rw [frzD, frzD_map ds, List.map_cons]
theorem law_end {P : Program} {w : World} {K : PySem.W.Frag} {mg : Str → Option Value} {base : Heap} {k : Nat} {f : Addr} {fd : FuncData} {x : Str} {fm : FM} (h : FnOk P w K mg base CX0 k f fd [x] (spP K 1 fm)) : FnOk P w K mg base CX0 k f fd [x] (spLaw K fm) := by
  refine ⟨fun vs H Q E ⟨a, ns, e, _⟩ => by rw [e]; rfl, fun A outer s H args us vs Q E hr e0 hb r ⟨a, ns, e, ho, hs, hf, q⟩ => h.run A outer s H args us vs Q E hr e0 hb r ?_⟩
  obtain ⟨t, h1, h2, h3⟩ := script_t ho hs
  refine ⟨[t], .s (.bl true), by rw [e, vals, List.map_cons, h1]; rfl, rfl, ⟨h3, trivial⟩, ?_, fun u H' eu x su _ => ?_⟩
  · rw [erL, erL, frzD, frzD, h2, D.frz, frzD_map, frz_ints]
    exact hf
  · rw [er_scl eu rfl]
    exact q H'
end Ow

namespace Ow
open PySem L2

/-! ### numbers -/
section
variable {i j : Int}
theorem fI_ok {C : Int → Int → Bool} {g : Int → Int → V} (h : C i j = true) : fI C g (.s (.int i)) (.s (.int j)) = some (g i j) := if_pos h
@[simp] theorem fAdd_int : fAdd (.s (.int i)) (.s (.int j)) = some (.int (i + j)) := rfl
@[simp] theorem fSub_int : fSub (.s (.int i)) (.s (.int j)) = some (.int (i - j)) := rfl
@[simp] theorem fLt_int : fLt (.s (.int i)) (.s (.int j)) = some (.bl (decide (i < j))) := rfl
@[simp] theorem fLe_int : fLe (.s (.int i)) (.s (.int j)) = some (.bl (decide (i ≤ j))) := rfl
@[simp] theorem fGt_int : fGt (.s (.int i)) (.s (.int j)) = some (.bl (decide (j < i))) := rfl
@[simp] theorem fGe_int : fGe (.s (.int i)) (.s (.int j)) = some (.bl (decide (j ≤ i))) := rfl
@[simp] theorem fMul_int (h : CMulB i j) : fMul (.s (.int i)) (.s (.int j)) = some (.int (i * j)) := fI_ok (decide_eq_true h)
@[simp] theorem fMod_int (h : 0 < j) : fMod (.s (.int i)) (.s (.int j)) = some (.int (i % j)) := fI_ok (C := fun _ j => decide (0 < j)) (decide_eq_true h)
theorem fDiv_int (h : 0 < j) (h2 : j.natAbs.log2 < 9000) : fDiv (.s (.int i)) (.s (.int j)) = some (.int (i / j)) := fI_ok (C := fun i j => decide (0 < j ∧ j.natAbs.log2 < 9000)) (decide_eq_true ⟨h, h2⟩)
theorem fPow_int (h : 0 ≤ j ∧ j ≤ 1000000 ∧ i.natAbs < 2 ^ 64) : fPow (.s (.int i)) (.s (.int j)) = some (.int (i ^ j.toNat)) := fI_ok (C := fun i j => decide (0 ≤ j ∧ j ≤ 1000000 ∧ i.natAbs < 2 ^ 64)) (decide_eq_true h)
end
/-- log2 n < k from n < 2 ^ k, k = 0 too -/
theorem log2_lt {n k : Nat} (hk : 0 < k) (h : n < 2 ^ k) : n.log2 < k := PySem.Flt.log2_lt_of hk h
theorem div_ok {j : Int} (h : 0 < j) (h2 : j < 2 ^ 300) : j.natAbs.log2 < 9000 := Nat.lt_trans (log2_lt (k := 300) (by decide) (by omega)) (by decide)
theorem mul_ok {i j : Int} (h1 : i.natAbs < 2 ^ 300) (h2 : j.natAbs < 2 ^ 300) : CMulB i j := by
  have a := PySem.Flt.log2_lt_of (k := 300) (by decide) h1
  have b := PySem.Flt.log2_lt_of (k := 300) (by decide) h2
  exact wide_mulB (by omega) (by omega)

/-! ### data that stands for plain Lean values -/
class Enc (α : Type) where
  en : Fl → α → D
  pd : α → PyData
  dep : Nat
  dat : ∀ o x, (en o x).dat = some (pd x)
  can : ∀ x, (pd x).canLay0 = true
  deep : ∀ x, (pd x).depth ≤ dep
  inj : ∀ x y, PyData.eqv (pd x) (pd y) = true ↔ x = y
  frz : ∀ o x, (en o x).frz = en o.frz x
  noF : ∀ x, (en .o x).noF = true
  pureS : ∀ o x, o ≠ .o → (en o x).pure = true
open Enc
instance : Enc Int where
  en _ i := .s (.int i)
  pd i := .int i
  dep := 0
  dat _ _ := rfl
  can _ := rfl
  deep _ := Nat.le_refl _
  inj x y := by simp [PyData.eqv]
  frz _ _ := rfl
  noF _ := rfl
  pureS _ _ _ := rfl
instance : Enc Bool where
  en _ i := .s (.bl i)
  pd i := .bool i
  dep := 0
  dat _ _ := rfl
  can _ := rfl
  deep _ := Nat.le_refl _
  inj x y := by simp [PyData.eqv]
  frz _ _ := rfl
  noF _ := rfl
  pureS _ _ _ := rfl
theorem datL_map {α : Type} [Enc α] (o : Fl) : ∀ xs : List α, datL (xs.map (en o)) = some (xs.map pd)
  | [] => rfl
  | x :: xs => by rw [List.map_cons, datL, dat, datL_map o xs]; rfl
theorem canL_map {α : Type} [Enc α] : ∀ xs : List α, PyData.canLayAll0 (xs.map pd) = true
  | [] => rfl
  | x :: xs => by rw [List.map_cons, PyData.canLayAll0, can, canL_map xs]; rfl
theorem deepL_map {α : Type} [Enc α] : ∀ xs : List α, PyData.depthAll (xs.map pd) ≤ dep α
  | [] => Nat.zero_le _
  | x :: xs => by rw [List.map_cons, PyData.depthAll]; exact Nat.max_le.mpr ⟨deep x, deepL_map xs⟩
theorem injL_map {α : Type} [Enc α] : ∀ xs ys : List α, PyData.eqvAll (xs.map pd) (ys.map pd) = true ↔ xs = ys
  | [], [] => by simp [PyData.eqvAll]
  | [], y :: ys => by simp [PyData.eqvAll]
  | x :: xs, [] => by simp [PyData.eqvAll]
  | x :: xs, y :: ys => by
    rw [List.map_cons, List.map_cons, PyData.eqvAll, Bool.and_eq_true, inj, injL_map xs ys]
    simp
theorem frzL_map {α : Type} [Enc α] (o : Fl) (xs : List α) : frzD (xs.map (en o)) = xs.map (en o.frz) := by
  rw [frzD_map, List.map_map]
  exact List.map_congr_left fun x _ => frz o x
theorem noFL_map {α : Type} [Enc α] : ∀ xs : List α, noFL (xs.map (en .o)) = true
  | [] => rfl
  | x :: xs => by rw [List.map_cons, noFL, noF, noFL_map xs]; rfl
theorem pureL_map {α : Type} [Enc α] {o : Fl} (h : o ≠ .o) : ∀ xs : List α, pureL (xs.map (en o)) = true
  | [] => rfl
  | x :: xs => by rw [List.map_cons, pureL, pureS o x h, pureL_map h xs]; rfl
instance {α : Type} [Enc α] : Enc (List α) where
  en o xs := .n (.lst o) (xs.map (en o))
  pd xs := .list (xs.map pd)
  dep := dep α + 1
  dat o xs := by rw [D.dat, datL_map]; rfl
  can xs := by rw [PyData.canLay0, canL_map]
  deep xs := by rw [PyData.depth]; exact Nat.add_le_add_right (deepL_map xs) 1
  inj xs ys := by rw [PyData.eqv, injL_map]
  frz o xs := by rw [D.frz, frzL_map]; rfl
  noF xs := by rw [D.noF, noFL_map]; rfl
  pureS o xs h := by
    rw [D.pure, pureL_map h]
    cases o <;> first | rfl | exact absurd rfl h
instance {α β : Type} [Enc α] [Enc β] : Enc (α × β) where
  en o x := .n .tup [en o x.1, en o x.2]
  pd x := .tuple [pd x.1, pd x.2]
  dep := max (dep α) (dep β) + 1
  dat o x := by simp [D.dat, datL, dat]
  can x := by simp [PyData.canLay0, PyData.canLayAll0, can]
  deep x := by
    have := deep x.1
    have := deep x.2
    simp only [PyData.depth, PyData.depthAll]
    omega
  inj x y := by
    simp only [PyData.eqv, PyData.eqvAll, Bool.and_eq_true, inj, Bool.and_true]
    exact Prod.ext_iff.symm
  frz o x := by simp [D.frz, frzD, frz]
  noF x := by simp [D.noF, noFL, noF]
  pureS o x h := by simp [D.pure, pureL, pureS o _ h]
@[simp] theorem en_int (o : Fl) (i : Int) : en o i = D.s (.int i) := rfl
@[simp] theorem en_bool (o : Fl) (i : Bool) : en o i = D.s (.bl i) := rfl
theorem en_list {α : Type} [Enc α] (o : Fl) (xs : List α) : en o xs = D.n (.lst o) (xs.map (en o)) := rfl
theorem en_pair {α β : Type} [Enc α] [Enc β] (o : Fl) (x : α × β) : en o x = D.n .tup [en o x.1, en o x.2] := rfl
theorem shaped_en {α : Type} [Enc α] (h : dep α ≤ 64) (x : α) : SeqAt.shaped (pd x) = true := by
  unfold SeqAt.shaped
  rw [can, decide_eq_true (Nat.le_trans (deep x) h)]
  rfl
theorem eqB_en {α : Type} [Enc α] [DecidableEq α] (h : dep α ≤ 64) (o o' : Fl) (x y : α) : fEqB (en o x) (en o' y) = some (decide (x = y)) := by
  unfold fEqB
  rw [dat, dat]
  simp only [Option.bind_some]
  rw [shaped_en h, shaped_en h]
  simp only [Bool.and_self, if_true]
  congr 1
  rw [Bool.eq_iff_iff, inj, decide_eq_true_iff]
theorem eq_en {α : Type} [Enc α] [DecidableEq α] (h : dep α ≤ 64) (o o' : Fl) (x y : α) : fEq (en o x) (en o' y) = some (.bl (decide (x = y))) := by
  rw [fEq, eqB_en h]; rfl
theorem ne_en {α : Type} [Enc α] [DecidableEq α] (h : dep α ≤ 64) (o o' : Fl) (x y : α) : fNe (en o x) (en o' y) = some (.bl (!decide (x = y))) := by
  rw [fNe, eqB_en h]; rfl
@[simp] theorem eq_int (i j : Int) : fEq (.s (.int i)) (.s (.int j)) = some (.bl (decide (i = j))) := eq_en (α := Int) (by decide) .s .s i j
@[simp] theorem ne_int (i j : Int) : fNe (.s (.int i)) (.s (.int j)) = some (.bl (!decide (i = j))) := ne_en (α := Int) (by decide) .s .s i j
theorem in_en {α : Type} [Enc α] [DecidableEq α] (h : dep α ≤ 63) (o o' : Fl) (x : α) (ys : List α) : fIn (en o x) (en o' ys) = some (.bl (decide (x ∈ ys))) := by
  unfold fIn
  rw [dat, en_list]
  simp only [Option.bind_some]
  rw [datL_map, Option.bind_some, shaped_en (by omega)]
  have hl : SeqAt.shaped (.list (ys.map pd)) = true := shaped_en (α := List α) (by show dep α + 1 ≤ 64; omega) ys
  rw [hl]
  simp only [Bool.and_self, if_true]
  congr 2
  rw [Bool.eq_iff_iff, List.any_map, List.any_eq_true, decide_eq_true_iff]
  constructor
  · rintro ⟨y, hy, e⟩
    have := (inj y x).mp e
    rw [← this]; exact hy
  · intro hx
    exact ⟨x, hx, (inj x x).mpr rfl⟩
theorem intsD_map : ∀ xs : List Int, intsD (xs.map fun i => D.s (.int i)) = some xs
  | [] => rfl
  | x :: xs => by rw [List.map_cons, intsD, intsD_map xs]; rfl
theorem boolsD_map : ∀ xs : List Bool, boolsD (xs.map fun i => D.s (.bl i)) = some xs
  | [] => rfl
  | x :: xs => by rw [List.map_cons, boolsD, boolsD_map xs]; rfl

/-! ### loops -/
theorem forD_inv {α : Type} {g : Tg} {mb : SM} {en : α → D} {xs : List α} {e : Env} (I : List α → Env → Prop) (h0 : I [] e)
    (hs : ∀ pre x post e, xs = pre ++ x :: post → I pre e → ∃ e1 e' o, bD g (en x) e = some e1 ∧ mb e1 = some (o, e') ∧ (o = .nx ∨ o = .ct) ∧ I (pre ++ [x]) e') : ∃ e', forD g mb (xs.map en) e = some (.nx, e') ∧ I xs e' := by
  suffices h : ∀ (post pre : List α) (e : Env), xs = pre ++ post → I pre e → ∃ e', forD g mb (post.map en) e = some (.nx, e') ∧ I xs e' from h xs [] e rfl h0
  intro post
  induction post with
  | nil =>
    intro pre e hx hi
    rw [List.append_nil] at hx
    subst hx
    exact ⟨e, rfl, hi⟩
  | cons x post ih =>
    intro pre e hx hi
    obtain ⟨e1, e2, o, h1, h2, h3, h4⟩ := hs pre x post e hx hi
    obtain ⟨e', h5, h6⟩ := ih (pre ++ [x]) e2 (by rw [hx]; simp) h4
    refine ⟨e', ?_, h6⟩
    rw [List.map_cons, forD, h1, Option.bind_some, h2, Option.bind_some]
    rcases h3 with rfl | rfl <;> exact h5
/-- a loop that may be left by return: either it runs through, or it is left with what it hands back -/
theorem forD_ret {α : Type} {g : Tg} {mb : SM} {en : α → D} {xs : List α} {e : Env} {R : D → Prop} (I : List α → Env → Prop) (h0 : I [] e)
    (hs : ∀ pre x post e, xs = pre ++ x :: post → I pre e → ∃ e1 e' o, bD g (en x) e = some e1 ∧ mb e1 = some (o, e') ∧ (((o = .nx ∨ o = .ct) ∧ I (pre ++ [x]) e') ∨ ∃ d, o = .rt d ∧ R d)) :
    (∃ e', forD g mb (xs.map en) e = some (.nx, e') ∧ I xs e') ∨ ∃ d e', forD g mb (xs.map en) e = some (.rt d, e') ∧ R d := by
  suffices h : ∀ (post pre : List α) (e : Env), xs = pre ++ post → I pre e → (∃ e', forD g mb (post.map en) e = some (.nx, e') ∧ I xs e') ∨ ∃ d e', forD g mb (post.map en) e = some (.rt d, e') ∧ R d from h xs [] e rfl h0
  intro post
  induction post with
  | nil =>
    intro pre e hx hi
    rw [List.append_nil] at hx
    subst hx
    exact .inl ⟨e, rfl, hi⟩
  | cons x post ih =>
    intro pre e hx hi
    obtain ⟨e1, e2, o, h1, h2, h3⟩ := hs pre x post e hx hi
    rw [List.map_cons, forD, h1, Option.bind_some, h2, Option.bind_some]
    rcases h3 with ⟨h3, h4⟩ | ⟨d, rfl, hd⟩
    · have := ih (pre ++ [x]) e2 (by rw [hx]; simp) h4
      rcases h3 with rfl | rfl <;> exact this
    · exact .inr ⟨d, e2, rfl, hd⟩
theorem lcD_map {α : Type} {g : Tg} {mt : BM} {me : PM} {en : α → D} {e0 : Env} {p : α → Bool} {f : α → D} {e1 : α → Env} : ∀ (xs : List α), (∀ x ∈ xs, bD g (en x) e0 = some (e1 x)) → (∀ x ∈ xs, mt (e1 x) = some (p x)) → (∀ x ∈ xs, p x = true → me (e1 x) = some (f x)) → lcD g mt me e0 (xs.map en) = some ((xs.filter p).map f)
  | [], _, _, _ => rfl
  | x :: xs, h1, h2, h3 => by
    have ih := lcD_map (g := g) (mt := mt) (me := me) (en := en) (e0 := e0) (p := p) (f := f) (e1 := e1) xs (fun y hy => h1 y (List.mem_cons_of_mem _ hy)) (fun y hy => h2 y (List.mem_cons_of_mem _ hy)) (fun y hy => h3 y (List.mem_cons_of_mem _ hy))
    rw [List.map_cons, lcD, h1 x (List.mem_cons_self ..), Option.bind_some, h2 x (List.mem_cons_self ..), Option.bind_some]
    cases hp : p x with
    | true => rw [if_pos rfl, h3 x (List.mem_cons_self ..) hp, Option.bind_some, ih, List.filter_cons, if_pos hp]; rfl
    | false => rw [if_neg Bool.false_ne_true, ih, List.filter_cons, if_neg (by rw [hp]; decide)]
theorem lcD_all {α : Type} {g : Tg} {me : PM} {en : α → D} {e0 : Env} {f : α → D} {e1 : α → Env} (xs : List α) (h1 : ∀ x ∈ xs, bD g (en x) e0 = some (e1 x)) (h3 : ∀ x ∈ xs, me (e1 x) = some (f x)) : lcD g bYes me e0 (xs.map en) = some (xs.map f) := by
  have := lcD_map (mt := bYes) (p := fun _ => true) xs h1 (fun _ _ => rfl) (fun x hx _ => h3 x hx)
  have e : xs.filter (fun _ => true) = xs := List.filter_eq_self.mpr (by simp)
  rw [e] at this
  exact this
theorem whD_inv {mc : TM} {mb : SM} {I J : Env → Prop} (μ : Env → Nat) (h : ∀ e, I e → (∃ e1, mc e = some (true, e1) ∧ ∃ e2 o, mb e1 = some (o, e2) ∧ (o = .nx ∨ o = .ct) ∧ I e2 ∧ μ e2 < μ e) ∨ ∃ e1, mc e = some (false, e1) ∧ J e1) : ∀ (n : Nat) (e : Env), I e → μ e < n → ∃ e', whD mc mb n e = some (.nx, e') ∧ J e'
  | 0, _, _, hn => absurd hn (Nat.not_lt_zero _)
  | n + 1, e, hi, hn => by
    rcases h e hi with ⟨e1, h1, e2, o, h2, h3, h4, h5⟩ | ⟨e1, h1, h2⟩
    · obtain ⟨e', g1, g2⟩ := whD_inv μ h n e2 h4 (by omega)
      refine ⟨e', ?_, g2⟩
      rw [whD, h1, Option.bind_some, if_pos rfl]
      dsimp only
      rw [h2, Option.bind_some]
      rcases h3 with rfl | rfl <;> exact g1
    · refine ⟨e1, ?_, h2⟩
      rw [whD, h1, Option.bind_some, if_neg Bool.false_ne_true]
/-- a statement done: what follows -/
theorem seq_nx {m n : SM} {e e1 : Env} (h : m e = some (.nx, e1)) : sSeq m n e = n e1 := by
  unfold sSeq
  rw [h]; rfl
theorem seq_rt {m n : SM} {e e1 : Env} {d : D} (h : m e = some (.rt d, e1)) : sSeq m n e = some (.rt d, e1) := by
  unfold sSeq
  rw [h]; rfl
theorem if_t {c : TM} {m n : SM} {e e1 : Env} (h : c e = some (true, e1)) : sIf c m n e = m e1 := by
  unfold sIf
  rw [h]; rfl
theorem if_f {c : TM} {m n : SM} {e e1 : Env} (h : c e = some (false, e1)) : sIf c m n e = n e1 := by
  unfold sIf
  rw [h]; rfl
theorem rgDn_eq (lo : Int) (n : Nat) : rgDn lo n = (List.range n).map fun (i : Nat) => D.s (.int (lo + (i : Int))) := rfl
theorem log2_small {i : Int} {k : Nat} (hk : 0 < k) (h : i.natAbs < 2 ^ k) : i.natAbs.log2 < k := PySem.Flt.log2_lt_of hk h
theorem mulW_small {i j : Int} (h1 : i.natAbs < 2 ^ 200) (h2 : j.natAbs < 2 ^ 200) : CMulB i j := by
  have a := PySem.Flt.log2_lt_of (k := 200) (by decide) h1
  have b := PySem.Flt.log2_lt_of (k := 200) (by decide) h2
  exact wide_mulB (by omega) (by omega)
end Ow

namespace Ow
open PySem L2 Enc

/-! ### typed forms of the steps -/
theorem ixN_ok {n : Nat} {k : Int} (h0 : 0 ≤ k) (h1 : k < n) : ixN n k = some k.toNat := by
  unfold ixN
  rw [if_pos h0, if_pos h1]
theorem ixN_neg {n : Nat} {k : Int} (h0 : k < 0) (h1 : -(n : Int) ≤ k) : ixN n k = some (k + n).toNat := by
  unfold ixN
  rw [if_neg (by omega)]
  first
    | rw [if_pos (by omega)]
    | (split <;> first | rfl | omega)
section
variable {α : Type} [Enc α]
theorem len_en (o : Fl) (xs : List α) : fLen [en o xs] = some (.int (xs.length : Int)) := by
  rw [en_list, fLen, List.length_map]
theorem item_en (o : Fl) (xs : List α) {k : Int} (h0 : 0 ≤ k) (h1 : k < xs.length) : fItem (en o xs) (.s (.int k)) = some (en o (xs[k.toNat]'(by omega))) := by
  rw [en_list]
  show atI (xs.map (en o)) k = _
  unfold atI
  rw [List.length_map, ixN_ok h0 h1, Option.bind_some, List.getElem?_map, List.getElem?_eq_getElem (by omega)]
  rfl
theorem item_at (o : Fl) (xs : List α) {k : Int} {x : α} (h0 : 0 ≤ k) (h1 : xs[k.toNat]? = some x) : fItem (en o xs) (.s (.int k)) = some (en o x) := by
  obtain ⟨h2, h3⟩ := List.getElem?_eq_some_iff.mp h1
  rw [item_en o xs h0 (by omega), h3]
theorem asL_en (o : Fl) (xs : List α) : asL (en o xs) = some (xs.map (en o)) := rfl
/-- xs.append(v) -/
theorem app1 {i : Nat} {me : EM} {e e1 : Env} {xs : List α} {v : α} (h1 : me e = some (en .o v, e1)) (h2 : e[i]? = some (some (en .o xs))) (hl : xs.length < 16777216) :
    sApp i (plName i) me e = some (.nx, e1.set i (some (en .o (xs ++ [v])))) := by
  unfold sApp plName
  rw [h2, h1]
  simp [en_list, hl]
theorem set_modify {β : Type} {xs : List β} {k : Nat} {f : β → β} (h : k < xs.length) : xs.set k (f xs[k]) = xs.modify k f := by
  apply List.ext_getElem?
  intro j
  rw [List.getElem?_set, List.getElem?_modify]
  by_cases q : k = j
  · subst q
    rw [if_pos rfl, if_pos h, List.getElem?_eq_getElem h]
    simp
  · rw [if_neg q]
    cases xs[j]? <;> simp [q]
/-- xs[k].append(v) -/
theorem app2 {i : Nat} {me : EM} {mb : PM} {e e1 : Env} {xs : List (List α)} {v : α} {k : Int} (h1 : me e = some (en .o v, e1)) (h2 : e[i]? = some (some (en .o xs))) (h3 : mb e = some (.s (.int k))) (h0 : 0 ≤ k) (hk : k < xs.length) (hl : (xs[k.toNat]'(by omega)).length < 16777216) :
    sApp i (plItem i (plName i) mb) me e = some (.nx, e1.set i (some (en .o (xs.modify k.toNat (· ++ [v]))))) := by
  unfold sApp plItem plName
  rw [h2, h1, h3]
  have hk2 : k.toNat < xs.length := by omega
  simp only [Option.join_some, Option.map_some, Option.bind_some, toI, atD, en_list, List.length_map, ixN_ok h0 hk, List.nil_append]
  rw [modD]
  rw [List.getElem?_map, List.getElem?_eq_getElem hk2]
  rw [Option.map_some, Option.bind_some, en_list, modD, List.length_map, if_pos hl]
  simp only [Option.map_some]
  congr 5
  rw [← set_modify hk2, List.map_set, en_list, List.map_append]
  rfl
end
end Ow

namespace Ow
open PySem L2 Enc

/-! ### targets -/
theorem bD_nm (j : Nat) (d : D) (e : Env) : bD (.nm j) d e = some (e.set j (some d)) := by rw [bD]
theorem bD_tp2 (i j : Nat) (x y : D) (e : Env) : bD (.tp [.nm i, .nm j]) (.n .tup [x, y]) e = some ((e.set i (some x)).set j (some y)) := by
  rw [bD, if_pos (by rfl), bDs, bD_nm, Option.bind_some, bDs, bD_nm, Option.bind_some, bDs]
/-! ### whole loops -/
theorem pure_ints {α : Type} (f : α → Int) : ∀ xs : List α, pureL (xs.map fun i => D.s (.int (f i))) = true
  | [] => rfl
  | x :: xs => by rw [List.map_cons, pureL, pure_ints f xs]; rfl
theorem rgDn_pure (lo : Int) (n : Nat) : pureL (rgDn lo n) = true := by
  rw [rgDn_eq]; exact pure_ints _ _
theorem wR_ok {m : Env → Option (Int × Int)} {env : Env} {lo hi : Int} (h : m env = some (lo, hi)) (h0 : 0 ≤ lo) (h1 : lo ≤ 16777216) (h2 : 0 ≤ hi) (h3 : hi ≤ 16777216) : wR m env = some (rgDn lo (hi - lo).toNat) := by
  unfold wR
  rw [h]
  simp only [Option.bind_some]
  rw [if_pos (decide_eq_true (RgOk.of_le h0 h3 h1 h2))]
theorem list_get_of_app {α : Type} {xs pre post : List α} {x : α} (h : xs = pre ++ x :: post) : xs[pre.length]? = some x := by
  rw [h]; simp
/-- a loop over a range of whole numbers -/
theorem forR_inv {m : Env → Option (Int × Int)} {j : Nat} {mb : SM} {env : Env} {lo hi : Int} {n : Nat} (h : m env = some (lo, hi)) (hn : n = (hi - lo).toNat) (h0 : 0 ≤ lo) (h1 : lo ≤ 16777216) (h2 : 0 ≤ hi) (h3 : hi ≤ 16777216) (I : Nat → Env → Prop) (hz : I 0 env)
    (hs : ∀ k e, k < n → I k e → ∃ e' o, mb (e.set j (some (D.s (.int (lo + (k : Int)))))) = some (o, e') ∧ (o = .nx ∨ o = .ct) ∧ I (k + 1) e') : ∃ e', sFor (wR m) (.nm j) mb env = some (.nx, e') ∧ I n e' := by
  subst hn
  obtain ⟨e', h5, h6⟩ := forD_inv (g := .nm j) (mb := mb) (en := fun (i : Nat) => D.s (.int (lo + (i : Int)))) (xs := List.range (hi - lo).toNat) (e := env) (fun pre e => I pre.length e) hz (fun pre x post e hx hi' => by
    have hg := list_get_of_app hx
    have hlt : pre.length < (hi - lo).toNat := by
      have := congrArg List.length hx
      simp at this
      omega
    rw [List.getElem?_range hlt] at hg
    cases hg
    obtain ⟨e', o, g1, g2, g3⟩ := hs pre.length e hlt hi'
    exact ⟨_, e', o, rfl, g1, g2, by rw [List.length_append]; exact g3⟩)
  refine ⟨e', ?_, by rw [List.length_range] at h6; exact h6⟩
  unfold sFor
  rw [wR_ok h h0 h1 h2 h3]
  simp only [Option.bind_some]
  rw [if_pos (rgDn_pure _ _), rgDn_eq]
  exact h5
/-- a loop over a range that may be left by return -/
theorem forR_ret {m : Env → Option (Int × Int)} {j : Nat} {mb : SM} {env : Env} {lo hi : Int} {n : Nat} {R : D → Prop} (h : m env = some (lo, hi)) (hn : n = (hi - lo).toNat) (h0 : 0 ≤ lo) (h1 : lo ≤ 16777216) (h2 : 0 ≤ hi) (h3 : hi ≤ 16777216) (I : Nat → Env → Prop) (hz : I 0 env)
    (hs : ∀ k e, k < n → I k e → ∃ e' o, mb (e.set j (some (D.s (.int (lo + (k : Int)))))) = some (o, e') ∧ (((o = .nx ∨ o = .ct) ∧ I (k + 1) e') ∨ ∃ d, o = .rt d ∧ R d)) : (∃ e', sFor (wR m) (.nm j) mb env = some (.nx, e') ∧ I n e') ∨ ∃ d e', sFor (wR m) (.nm j) mb env = some (.rt d, e') ∧ R d := by
  subst hn
  have key := forD_ret (g := .nm j) (mb := mb) (en := fun (i : Nat) => D.s (.int (lo + (i : Int)))) (xs := List.range (hi - lo).toNat) (e := env) (R := R) (fun pre e => I pre.length e) hz (fun pre x post e hx hi' => by
    have hg := list_get_of_app hx
    have hlt : pre.length < (hi - lo).toNat := by
      have := congrArg List.length hx
      simp at this
      omega
    rw [List.getElem?_range hlt] at hg
    cases hg
    obtain ⟨e', o, g1, g2⟩ := hs pre.length e hlt hi'
    exact ⟨_, e', o, rfl, g1, by rw [List.length_append]; exact g2⟩)
  have e0 : sFor (wR m) (.nm j) mb env = forD (.nm j) mb ((List.range (hi - lo).toNat).map fun (i : Nat) => D.s (.int (lo + (i : Int)))) env := by
    unfold sFor
    rw [wR_ok h h0 h1 h2 h3]
    simp only [Option.bind_some]
    rw [if_pos (rgDn_pure _ _), rgDn_eq]
  rw [e0]
  rcases key with ⟨e', h5, h6⟩ | k
  · exact .inl ⟨e', h5, by rw [List.length_range] at h6; exact h6⟩
  · exact .inr k
section
variable {α : Type} [Enc α]
/-- a loop over a list that is walked whole -/
theorem forL_inv {mi : LM} {g : Tg} {mb : SM} {env : Env} {o : Fl} {xs : List α} (h : mi env = some (xs.map (en o))) (hp : pureL (xs.map (en o)) = true) (I : List α → Env → Prop) (hz : I [] env)
    (hs : ∀ pre x post e, xs = pre ++ x :: post → I pre e → ∃ e1 e' oo, bD g (en o x) e = some e1 ∧ mb e1 = some (oo, e') ∧ (oo = .nx ∨ oo = .ct) ∧ I (pre ++ [x]) e') : ∃ e', sFor mi g mb env = some (.nx, e') ∧ I xs e' := by
  unfold sFor
  rw [h]
  simp only [Option.bind_some]
  rw [if_pos hp]
  exact forD_inv I hz hs
end
/-! ### single steps -/
section
variable {m n : PM} {ml : LM} {e : Env} {d d2 : D}
theorem lc1 (h : m e = some d) : lCons m lNil e = some [d] := by unfold lCons; rw [h]; rfl
theorem lc2 (h : m e = some d) (h2 : n e = some d2) : lCons m (lCons n lNil) e = some [d, d2] := by unfold lCons; rw [h, h2]; rfl
theorem call_l {f : List D → Option V} {ds : List D} {v : V} (h : ml e = some ds) (h2 : f ds = some v) : mCall f ml e = sv v := by
  unfold mCall
  rw [h, Option.bind_some, h2, Option.bind_some]
theorem fn_l {f : FM} {ds : List D} (h : ml e = some ds) (h2 : f (frzD ds) = some d) (h3 : d.noF = true) : mFn f ml e = some d := by
  unfold mFn
  rw [h, Option.bind_some, h2, Option.bind_some, h3]; rfl
theorem andV_t (h : m e = some (.s (.bl true))) {b : Bool} (h2 : n e = some (.s (.bl b))) : mAndV m n e = some (.s (.bl b)) := by
  unfold mAndV
  rw [h, h2]; rfl
theorem ret_p (h : m e = some d) : sRet (lift m) e = some (.rt d, e) := by unfold sRet lift; rw [h]; rfl
theorem set_p {i : Nat} (h : m e = some d) : sSet i (lift m) e = some (.nx, e.set i (some d)) := by unfold sSet lift; rw [h]; rfl
theorem runP_rt {k : Nat} {mS : SM} {ds : List D} {e' : Env} (h : mS (initD k ds) = some (.rt d, e')) (hx : d.isx = false) : runP k mS ds = some d := by unfold runP; rw [h, Option.bind_some]; dsimp only; rw [hx]; rfl
theorem runP_nx {k : Nat} {mS : SM} {ds : List D} {e' : Env} (h : mS (initD k ds) = some (.nx, e')) : runP k mS ds = some (.s .non) := by unfold runP; rw [h]; rfl
theorem op2_i {f : D → D → Option V} {v : V} (h : m e = some d) (h2 : n e = some d2) (h3 : f d d2 = some v) : mOp2 f m n e = sv v := by unfold mOp2; rw [h, h2]; simp [h3]
theorem tB {b : Bool} (h : m e = some (.s (.bl b))) : mB m e = some b := by unfold mB; rw [h]; rfl
theorem tTru {b : Bool} (h : m e = some (.s (.bl b))) : mTru m e = some b := by unfold mTru; rw [h]; rfl
theorem tNot {t : BM} {b : Bool} (h : t e = some b) : mNotT t e = some (!b) := by unfold mNotT; rw [h]; rfl
theorem tOr_f {t u : BM} {b : Bool} (h : t e = some false) (h2 : u e = some b) : mOr t u e = some b := by unfold mOr; rw [h, h2]; rfl
theorem tOr_t {t u : BM} (h : t e = some true) : mOr t u e = some true := by unfold mOr; rw [h]; rfl
theorem tAnd_t {t u : BM} {b : Bool} (h : t e = some true) (h2 : u e = some b) : mAnd t u e = some b := by unfold mAnd; rw [h, h2]; rfl
theorem tAnd_f {t u : BM} (h : t e = some false) : mAnd t u e = some false := by unfold mAnd; rw [h]; rfl
theorem lT {t : BM} {b : Bool} (h : t e = some b) : liftT t e = some (b, e) := by unfold liftT; rw [h]; rfl
/-- a test that sends nothing back -/
theorem if_pass {t : BM} {a : SM} (h : t e = some false) : sIf (liftT t) a sNx e = some (.nx, e) := (if_f (lT h)).trans rfl
theorem lc_all {α : Type} {mi : LM} {g : Tg} {me : PM} {vs : List Nat} {en : α → D} {f : α → D} {e1 : α → Env} (xs : List α) (h : mi e = some (xs.map en)) (hl : xs.length ≤ 16777216) (h1 : ∀ x ∈ xs, bD g (en x) (wipeD e vs) = some (e1 x)) (h2 : ∀ x ∈ xs, me (e1 x) = some (f x)) : mLc mi g bYes me vs e = some (.n (.lst .o) (xs.map f)) := by
  unfold mLc
  rw [h, Option.bind_some, List.length_map, if_pos hl, lcD_all xs h1 h2]; rfl
theorem lc_map {α : Type} {mi : LM} {g : Tg} {mt : BM} {me : PM} {vs : List Nat} {en : α → D} {p : α → Bool} {f : α → D} {e1 : α → Env} (xs : List α) (h : mi e = some (xs.map en)) (hl : xs.length ≤ 16777216) (h1 : ∀ x ∈ xs, bD g (en x) (wipeD e vs) = some (e1 x)) (ht : ∀ x ∈ xs, mt (e1 x) = some (p x)) (h2 : ∀ x ∈ xs, p x = true → me (e1 x) = some (f x)) : mLc mi g mt me vs e = some (.n (.lst .o) ((xs.filter p).map f)) := by
  unfold mLc
  rw [h, Option.bind_some, List.length_map, if_pos hl, lcD_map xs h1 ht h2]; rfl
end
end Ow

namespace Ow
open PySem L2 Enc
section
variable {X : Cx} {P : List Nat} {st : Stmt}
/-- a statement that is never come to -/
theorem ss_none : SS X P st (fun _ => none) := ⟨fun pins s σ H D I ⟨env, o, e', hm, _⟩ => by cases hm⟩
end
/-! ### the first place of a whole number -/
def fIdx (x y : D) : Option V := match x, y with
  | .n (.lst _) ds, .s (.int i) => (intsD ds).bind fun ns => if i ∈ ns then some (.int (ns.idxOf i : Nat)) else none
  | _, _ => none
def mIdx (ma mb : PM) : PM := fun env => (ma env).bind fun x => (mb env).bind fun y => (fIdx x y).bind sv
theorem eqV_ii (i j : Int) : eqV (.int i) (.int j) = decide (i = j) := by
  first | rfl | (simp [eqV]) | (unfold eqV; rfl)
theorem idx_first : ∀ (ns : List Int) (i : Int) (m : Nat) (z : Int), m < ns.idxOf i → ns[m]? = some z → z ≠ i
  | [], _, _, _, h, _ => by simp at h
  | x :: xs, i, m, z, h, hz => by
    rw [List.idxOf_cons] at h
    by_cases e : x = i
    · simp [e] at h
    · have e0 : (x == i) = false := by simp [e]
      rw [e0] at h
      dsimp only [cond_false] at h
      cases m with
      | zero => rw [List.getElem?_cons_zero] at hz; cases hz; exact e
      | succ m =>
        rw [List.getElem?_cons_succ] at hz
        exact idx_first xs i m z (by omega) hz
section
variable {X : Cx} {o e : Expr} {ma mb : PM} {apos cpos : Pos}
theorem sp_index (ho : SB X o ma) (ha : SB X e mb)
    (hbase : attributeBase o "index" X.env (eval o X.env) = eval o X.env := by rfl)
    (hfew : ((backTo cpos (starEach ([e]) X.env)).all (fun x => !x.1) && (backToKw cpos (keywordEach [] X.env)).all (fun x => x.1.isSome)
      && decide (([e] : List Expr).length + ([] : List Keyword).length + (if ([] : List Keyword).isEmpty then 0 else 1) < 30)) = true := by rfl)
    (hline : (apos.endLine == cpos.line) = true := by rfl) (hs : starEach [e] X.env = (false, eval e X.env) :: starEach [] X.env := by rfl) : SP X (.Call (.Attribute o "index" apos) [e] [] cpos) (mIdx ma mb) :=
  PE.weak (pe_bm (T := "list") PySem.F.plainAttrs_list PySem.F.slot_list_index PySem.F.type_list_index mt_index ho (pa_cons ha pa_nil hs) hbase hfew hline hs (by rfl)) fun σ H Q ⟨env, d, hm, r, s, k⟩ => by
    obtain ⟨x, hx, hm⟩ := bind_some hm
    obtain ⟨y, hy, hm⟩ := bind_some hm
    obtain ⟨v, hv, hm⟩ := bind_some hm
    obtain ⟨s1, rfl⟩ := sv_some hm
    refine ⟨env, x, hx, r, s, fun t H1 e1 x1 s1' b1 => ?_⟩
    subst e1
    unfold fIdx at hv
    split at hv
    case h_2 => cases hv
    rename_i oo ds i g1
    obtain ⟨ns, g3, hv⟩ := bind_some hv
    split at hv
    case isFalse => cases hv
    rename_i hi
    cases hv
    obtain ⟨a, ts, f1, f2, f3, f4, f5, f6⟩ := rdL s1' g1
    rw [f1]
    refine ⟨.inl ⟨rfl, _, f3⟩, ?_⟩
    refine ⟨env, _, hy, r, s.ex x1, fun u H2 e2 x2 s2 b2 => ?_⟩
    have hu := er_int e2
    rw [← f2] at g3
    rw [intsD_of g3, vals_ints] at f3
    have hlt : ns.idxOf i < ns.length := List.idxOf_lt_length_of_mem hi
    obtain ⟨a', ts', f1', f2', f3', _⟩ := rdL (sat_ex x2 s1') g1
    rw [f1] at f1'
    cases f1'
    refine ⟨a, ns.map V.int, .int i, ns.idxOf i, .int i, rfl, by rw [hu]; rfl, ?_, rfl, ?_, ?_, ?_, ?_, ?_⟩
    · have : ts' = ns.map fun i => T.s (.int i) := intsD_of (by rw [f2', ← f2]; exact g3)
      rw [this, vals_ints] at f3'
      exact f3'
    · rw [List.all_map, List.all_eq_true]; intro _ _; rfl
    · rw [List.getElem?_map, List.getElem?_eq_getElem hlt, List.getElem_idxOf hlt]; rfl
    · rw [eqV_ii]; exact decide_eq_true rfl
    · intro m z' hm' hz'
      rw [List.getElem?_map] at hz'
      obtain ⟨z, hz, rfl⟩ := map_some hz'
      rw [eqV_ii]
      exact decide_eq_false (idx_first ns i m z hm' hz)
    · exact k (.s (.int (ns.idxOf i : Nat))) H2 rfl (x1.trans x2) trivial own_s
end
end Ow

namespace Ow
open PySem L2 Enc
/-! ### dicts -/
section
variable {K : PySem.W.Frag} {H0 H H' : Hp} {env0 env : TEnv} {σ : L2.St} {F' G G' : List T} {i : Nat} {t : T} {a : Addr} {ts ts' : List T}
theorem mut_gen {o' : HO} {t' : T} (c : Cf K H0 env0 σ H (G ++ F') env) (hi : env[i]? = some (some t)) (g2 : t'.val = t.val) (m1 : coL a ts + 1 ≤ t.co a) (leo : ∀ b, coL b ts ≤ t.co b) (leu : ∀ b, cuL b ts ≤ t.cu b)
    (g3 : ∀ b, t'.co b + coL b ts = t.co b + coL b ts') (g4 : ∀ b, t'.cu b + cuL b ts = t.cu b + cuL b ts')
    (g5 : ∀ H', (∀ b o, b ≠ a → 0 < t.co b + t.cu b → H b = some o → H' b = some o) → t.co a ≤ 1 → t.cu a = 0 → H' a = some o' → satL K H' ts' → t'.sat K H') (s1 : satL K H ts') (s2 : satL K H G')
    (n1 : ∀ b, coL b ts' + coL b G' ≤ coL b ts + coL b G) (n2 : ∀ b, 0 < cuL b ts' + cuL b G' → 0 < cuL b (G ++ F') + cuE b env) :
    ∃ env', erE env' = (erE env).set i (some t'.er) ∧ (∀ j, j ≠ i → env'[j]? = env[j]?) ∧ Cf K H0 env0 σ (upd H a o') (G' ++ F') env' := by
  have wa := c.wf a
  have ei : ∀ b, coE b (env.set i (some t')) + t.co b = coE b env + t'.co b := fun b => by
    have := coE_set (a := b) (some t') hi
    simpa only [oT] using this
  have ui : ∀ b, cuE b (env.set i (some t')) + t.cu b = cuE b env + t'.cu b := fun b => by
    have := cuE_set (a := b) (some t') hi
    simpa only [oT] using this
  have ti : ∀ b, t.co b ≤ coE b env := fun b => coE_get hi
  have tu : ∀ b, t.cu b ≤ cuE b env := fun b => cuE_get hi
  simp only [coL_append, cuL_append] at wa
  have ta := ti a
  have tua := tu a
  have la := leo a
  have lua := leu a
  have n1a := n1 a
  have n2a := n2 a
  rw [cuL_append] at n2a
  have keep : ∀ b o, b ≠ a → H b = some o → upd H a o' b = some o := fun b o hb h => by rw [upd_ne hb]; exact h
  have nt : ∀ b, 0 < coL b ts' + cuL b ts' → b ≠ a := fun b h z => by subst z; omega
  have sF := satL_append.mp c.satF
  have st' : t'.sat K (upd H a o') := g5 _ (fun b o hb _ h => keep b o hb h) (by omega) (by omega) upd_same (satL_keep ts' (fun b o h e => keep b o (nt b h) e) s1)
  refine ⟨env.set i (some t'), by rw [erE_set]; rfl, fun j hj => by rw [List.getElem?_set, if_neg (fun z => hj z.symm)], c.rel.swap hi g2, satL_append.mpr ⟨satL_keep G' (fun b o h e => keep b o (fun z => by subst z; omega) e) s2, satL_keep F' (fun b o h e => keep b o (fun z => by subst z; omega) e) sF.2⟩, ?_, fun b => ?_, Stp.trans c.stp ⟨fun b o h hc => ?_, fun b h => ?_, fun b => ?_⟩⟩
  · -- the other slots
    intro u hu
    obtain ⟨j, hj⟩ := List.mem_iff_getElem?.mp hu
    rw [List.getElem?_set] at hj
    by_cases q : i = j
    · rw [if_pos q] at hj
      split at hj
      · cases hj; exact st'
      · cases hj
    · rw [if_neg q] at hj
      have e2 : (env.set i none)[j]? = some (some u) := by rw [List.getElem?_set, if_neg q]; exact hj
      refine sat_keep u (fun b o h e => keep b o (fun z => ?_) e) (c.satE u (List.mem_of_getElem? hj))
      subst z
      have w1 := coE_get (a := b) e2
      have w2 := cuE_get (a := b) e2
      have w3 := coE_set (a := b) none hi
      have w4 := cuE_set (a := b) none hi
      simp only [oT] at w3 w4
      omega
  · have w1 := c.wf b
    have := ei b
    have := ui b
    have := ti b
    have := tu b
    have := g3 b
    have := g4 b
    have := n1 b
    have n2b := n2 b
    have := leo b
    have := leu b
    simp only [coL_append, cuL_append] at w1 n2b ⊢
    by_cases q : 0 < cuL b ts' + cuL b G'
    · have := n2b q
      omega
    · omega
  · refine keep b o (fun z => ?_) h
    subst z
    simp only at hc
    omega
  · by_cases q : b = a
    · subst q
      rw [upd_same] at h
      cases h
    · rw [upd_ne q] at h
      exact h
  · have := ei b
    have := ui b
    have := ti b
    have := tu b
    have := g3 b
    have := g4 b
    have := n1 b
    have n2b := n2 b
    have := leo b
    have := leu b
    simp only [coL_append, cuL_append] at n2b ⊢
    refine ⟨fun q => .inl (by omega), fun q => .inr (.inl ?_)⟩
    by_cases q : 0 < cuL b ts' + cuL b G'
    · exact n2b q
    · omega
end
/-- keys, values as plain lists -/
def keyD : D → Option Key
  | .s (.int i) => some (.inl i)
  | .s (.str z) => some (.inr z)
  | _ => none
@[simp] theorem keyD_int {i : Int} : keyD (.s (.int i)) = some (.inl i) := rfl
@[simp] theorem keyD_str {z : PySem.Str} : keyD (.s (.str z)) = some (.inr z) := rfl
theorem keyD_some {d : D} {k : Key} (h : keyD d = some k) : d = .s (kV k) := by
  unfold keyD at h
  split at h
  · cases h; rfl
  · cases h; rfl
  · cases h
def sclD : List D → Option (List V)
  | [] => some []
  | .s v :: ds => if scl v = true then (sclD ds).map (v :: ·) else none
  | _ => none
def dicD (o : Fl) (kvs : List (Key × V)) : D := .n (.dic o (kvs.map (·.1))) (kvs.map fun p => .s p.2)
def dicP : D → Option (List (Key × V))
  | .n (.dic o ks) ds => if (nw o && decide (ks.length = ds.length)) = true then (sclD ds).map (ks.zip ·) else none
  | _ => none
theorem sclD_er : ∀ {ts : List T} {vs : List V}, sclD (erL ts) = some vs → ts = vs.map T.s ∧ vs.all scl = true
  | [], vs, h => by cases h; exact ⟨rfl, rfl⟩
  | t :: ts, vs, h => by
    rw [erL] at h
    cases t with
    | s v =>
      rw [T.er, sclD] at h
      split at h
      · rename_i hv
        obtain ⟨us, h1, rfl⟩ := map_some h
        obtain ⟨rfl, h2⟩ := sclD_er h1
        have hv2 : scl v = true := by
          unfold hid at hv
          split at hv
          · assumption
          · cases hv
        rw [hid_scl hv2]
        refine ⟨rfl, ?_⟩
        rw [List.all_cons, hv2, h2]; rfl
      · cases h
    | n k a us => rw [T.er] at h; cases h
    | w z k a us => rw [T.er] at h; cases h
theorem sclD_map : ∀ {vs : List V}, vs.all scl = true → sclD (vs.map D.s) = some vs
  | [], _ => rfl
  | v :: vs, h => by
    rw [List.all_cons, Bool.and_eq_true] at h
    rw [List.map_cons, sclD, if_pos h.1, sclD_map h.2]; rfl
theorem dicP_dicD {o : Fl} (ho : nw o = true) {kvs : List (Key × V)} (h : (kvs.map (·.2)).all scl = true) : dicP (dicD o kvs) = some kvs := by
  have e : (kvs.map fun p => D.s p.2) = (kvs.map (·.2)).map D.s := by rw [List.map_map]; rfl
  have z : (kvs.map (·.1)).zip (kvs.map (·.2)) = kvs := by
    induction kvs with
    | nil => rfl
    | cons p kvs ih =>
      rw [List.map_cons, List.all_cons, Bool.and_eq_true] at h
      rw [List.map_cons, List.map_cons, List.zip_cons_cons, ih h.2 (by rw [List.map_map]; rfl)]
  unfold dicP dicD
  dsimp only
  rw [if_pos (by rw [ho]; simp), e, sclD_map h, Option.map_some, z]
theorem rdD {K : PySem.W.Frag} {H : Hp} {t : T} {kvs : List (Key × V)} (hs : t.sat K H) (h : dicP t.er = some kvs) : ∃ o a ts, t = .n (.dic o (kvs.map (·.1))) a ts ∧ ts = kvs.map (fun p => T.s p.2) ∧ H a = some (.dK kvs) ∧ (kvs.map (·.2)).all scl = true := by
  unfold dicP at h
  split at h
  case h_2 => cases h
  rename_i o ks ds he
  split at h
  case isFalse => cases h
  rename_i hc
  rw [Bool.and_eq_true, decide_eq_true_iff] at hc
  obtain ⟨vs, h1, rfl⟩ := map_some h
  obtain ⟨a, ts, rfl, f2, f3, f4⟩ := rdN hs he (by cases o <;> first | rfl | cases hc.1) (by simp)
  rw [← f2] at h1 hc
  obtain ⟨rfl, hv⟩ := sclD_er h1
  have hl : ks.length = vs.length := by rw [hc.2, erL_length, List.length_map]
  have z1 : (ks.zip vs).map (·.1) = ks := List.map_fst_zip (Nat.le_of_eq hl)
  have z2 : (ks.zip vs).map (·.2) = vs := List.map_snd_zip (Nat.le_of_eq hl.symm)
  refine ⟨o, a, _, by rw [z1], ?_, ?_, by rw [z2]; exact hv⟩
  · have : ((ks.zip vs).map fun p => T.s p.2) = ((ks.zip vs).map (·.2)).map T.s := by rw [List.map_map]; rfl
    rw [this, z2]
  · rw [f3]
    show some (HO.dK (ks.zip (vals (vs.map T.s)))) = _
    have : vals (vs.map T.s) = vs := by
      show (vs.map T.s).map T.val = vs
      rw [List.map_map]
      exact List.map_id _
    rw [this]
def mDin (mx my : PM) : BM := fun env => (mx env).bind fun x => (my env).bind fun y => (keyD x).bind fun k => (dicP y).map fun kvs => (valV kvs k).isSome
def mDnin (mx my : PM) : BM := fun env => (mx env).bind fun x => (my env).bind fun y => (keyD x).bind fun k => (dicP y).map fun kvs => !(valV kvs k).isSome
def mDget (my mx : PM) : PM := fun env => (my env).bind fun y => (mx env).bind fun x => (keyD x).bind fun k => (dicP y).bind fun kvs => (valV kvs k).bind sv
theorem key_er {u : T} {d : D} {k : Key} (e : u.er = d) (h : keyD d = some k) : u.val = kV k := by
  subst e
  have := keyD_some h
  cases u with
  | s v =>
    rw [T.er] at this
    injection this with this
    show v = kV k
    unfold hid at this
    split at this
    · exact this
    · cases k <;> cases this
  | n k' a ts => rw [T.er] at this; cases this
  | w z k' a ts => rw [T.er] at this; cases this
section
variable {X : Cx} {k : Nat} {i o : Expr} {mx my : PM} {pos : Pos}
theorem st_din (hr : Room k X.A) (hi : SB X i mx) (ho : SB X o my) (h1 : behindInMarks .In o = false := by first | exact nobehind _ (by decide) (by decide) | rfl) : ST X (.Compare i [.In] [o] pos) (mDin mx my) :=
  PT.weak (pt_cmp (pc_din (hu_of hr) hi ho) h1) fun σ H Q ⟨env, b, hm, r, s, q⟩ => by
    obtain ⟨x, hx, hm⟩ := bind_some hm
    obtain ⟨y, hy, hm⟩ := bind_some hm
    obtain ⟨kk, hk, hm⟩ := bind_some hm
    obtain ⟨kvs, hd, rfl⟩ := map_some hm
    refine ⟨env, x, hx, r, s, fun u H1 e1 x1 s1 b1 => ⟨env, y, hy, r, s.ex x1, fun t H2 e2 x2 s2 b2 => ?_⟩⟩
    subst e2
    obtain ⟨oo, a, ts, f1, f2, f3, f4⟩ := rdD s2 hd
    rw [key_er e1 hk, f1]
    exact ⟨a, valV kvs kk, rfl, DGet.k f3, _, rfl, q H2 (x1.trans x2)⟩
theorem st_dnin (hr : Room k X.A) (hi : SB X i mx) (ho : SB X o my) (h1 : behindInMarks .NotIn o = false := by first | exact nobehind _ (by decide) (by decide) | rfl) : ST X (.Compare i [.NotIn] [o] pos) (mDnin mx my) :=
  PT.weak (pt_cmp (pc_dnotin (hu_of hr) hi ho) h1) fun σ H Q ⟨env, b, hm, r, s, q⟩ => by
    obtain ⟨x, hx, hm⟩ := bind_some hm
    obtain ⟨y, hy, hm⟩ := bind_some hm
    obtain ⟨kk, hk, hm⟩ := bind_some hm
    obtain ⟨kvs, hd, rfl⟩ := map_some hm
    refine ⟨env, x, hx, r, s, fun u H1 e1 x1 s1 b1 => ⟨env, y, hy, r, s.ex x1, fun t H2 e2 x2 s2 b2 => ?_⟩⟩
    subst e2
    obtain ⟨oo, a, ts, f1, f2, f3, f4⟩ := rdD s2 hd
    rw [key_er e1 hk, f1]
    exact ⟨a, valV kvs kk, rfl, DGet.k f3, _, rfl, q H2 (x1.trans x2)⟩
theorem sp_dget (hr : Room k X.A) (ho : SB X o my) (hi : SB X i mx) (hs : NoSl i := by exact fun _ _ => rfl) : SP X (.Subscript o i pos) (mDget my mx) :=
  PE.weak (pe_dget (hu_of hr) ho hi hs) fun σ H Q ⟨env, d, hm, r, s, q⟩ => by
    obtain ⟨y, hy, hm⟩ := bind_some hm
    obtain ⟨x, hx, hm⟩ := bind_some hm
    obtain ⟨kk, hk, hm⟩ := bind_some hm
    obtain ⟨kvs, hd, hm⟩ := bind_some hm
    obtain ⟨v, hv, hm⟩ := bind_some hm
    obtain ⟨s0, rfl⟩ := sv_some hm
    refine ⟨env, y, hy, r, s, fun t H1 e1 x1 s1 b1 => ⟨env, x, hx, r, s.ex x1, fun u H2 e2 x2 s2 b2 => ?_⟩⟩
    subst e1
    obtain ⟨oo, a, ts, f1, f2, f3, f4⟩ := rdD (sat_ex x2 s1) hd
    rw [key_er e2 hk, f1]
    exact ⟨a, v, rfl, hv ▸ DGet.k f3, q (.s v) H2 (by rw [T.er, hid_scl s0]) (x1.trans x2) trivial own_s⟩
end
/-- an owned dict -/
def dicO : D → Option (List (Key × V))
  | .n (.dic .o ks) ds => dicP (.n (.dic .o ks) ds)
  | _ => none
theorem dicO_dicD {kvs : List (Key × V)} (h : (kvs.map (·.2)).all scl = true) : dicO (dicD .o kvs) = some kvs := dicP_dicD (o := .o) rfl h
theorem rdO {K : PySem.W.Frag} {H : Hp} {t : T} {kvs : List (Key × V)} (hs : t.sat K H) (h : dicO t.er = some kvs) : ∃ a, t = .n (.dic .o (kvs.map (·.1))) a (kvs.map fun p => T.s p.2) ∧ H a = some (.dK kvs) ∧ (kvs.map (·.2)).all scl = true := by
  unfold dicO at h
  split at h
  case h_2 => cases h
  rename_i ks ds he
  rw [← he] at h
  obtain ⟨o, a, ts, f1, f2, f3, f4⟩ := rdD hs h
  rw [f1, T.er] at he
  injection he with e1 e2
  injection e1 with e3 e4
  subst e3 f2
  exact ⟨a, f1, f3, f4⟩
theorem coL_sc (b : Addr) : ∀ vs : List (Key × V), coL b (vs.map fun p => T.s p.2) = 0
  | [] => rfl
  | v :: vs => by rw [List.map_cons, coL, coL_sc b vs, T.co]
theorem cuL_sc (b : Addr) : ∀ vs : List (Key × V), cuL b (vs.map fun p => T.s p.2) = 0
  | [] => rfl
  | v :: vs => by rw [List.map_cons, cuL, cuL_sc b vs, T.cu]
theorem satL_sc {K : PySem.W.Frag} {H : Hp} : ∀ vs : List (Key × V), satL K H (vs.map fun p => T.s p.2)
  | [] => trivial
  | v :: vs => ⟨trivial, satL_sc vs⟩
theorem ho_sc (kvs : List (Key × V)) : (Kd.dic .o (kvs.map (·.1))).ho (vals (kvs.map fun p => T.s p.2)) = .dK kvs := by
  show HO.dK ((kvs.map (·.1)).zip (vals (kvs.map fun p => T.s p.2))) = _
  have : vals (kvs.map fun p => T.s p.2) = kvs.map (·.2) := by
    show (kvs.map fun p => T.s p.2).map T.val = _
    rw [List.map_map]; rfl
  rw [this]
  congr 1
  induction kvs with
  | nil => rfl
  | cons p kvs ih =>
    rw [List.map_cons, List.map_cons, List.zip_cons_cons, ih (by show (kvs.map fun p => T.s p.2).map T.val = _; rw [List.map_map]; rfl)]
theorem er_sc {kvs : List (Key × V)} {a : Addr} (h : (kvs.map (·.2)).all scl = true) : (T.n (.dic .o (kvs.map (·.1))) a (kvs.map fun p => T.s p.2)).er = dicD .o kvs := by
  rw [T.er, dicD]
  congr 1
  induction kvs with
  | nil => rfl
  | cons p kvs ih =>
    rw [List.map_cons, List.all_cons, Bool.and_eq_true] at h
    rw [List.map_cons, List.map_cons, erL, ih h.2, T.er, hid_scl h.1]
/-- the dict of a slot made another one -/
theorem dic_step {K : PySem.W.Frag} {H0 H : Hp} {env0 env : TEnv} {σ : L2.St} {F : List T} {j : Nat} {t : T} {a : Addr} {kvs kvs' : List (Key × V)} (c : Cf K H0 env0 σ H F env) (hi : env[j]? = some (some t)) (ht : t = .n (.dic .o (kvs.map (·.1))) a (kvs.map fun p => T.s p.2)) (h' : (kvs'.map (·.2)).all scl = true) :
    ∃ env', erE env' = (erE env).set j (some (dicD .o kvs')) ∧ (∀ i, i ≠ j → env'[i]? = env[i]?) ∧ Cf K H0 env0 σ (upd H a (.dK kvs')) F env' := by
  subst ht
  have key := mut_gen (a := a) (G := []) (G' := []) (F' := F) (ts := kvs.map fun p => T.s p.2) (ts' := kvs'.map fun p => T.s p.2) (o' := .dK kvs') (t' := .n (.dic .o (kvs'.map (·.1))) a (kvs'.map fun p => T.s p.2)) c hi rfl (by rw [T.co, coL_sc]; simp) (fun b => by rw [coL_sc]; omega) (fun b => by rw [cuL_sc]; omega)
    (fun b => by rw [T.co, T.co, coL_sc, coL_sc]; simp) (fun b => by rw [T.cu, T.cu, cuL_sc, cuL_sc]; simp)
    (fun H' _ _ _ h _ => ⟨⟨by rw [ho_sc]; exact h, rfl⟩, satL_sc _⟩) (satL_sc _) trivial (fun b => by rw [coL_sc]; simp [coL]) (fun b h => by rw [cuL_sc] at h; simp [cuL] at h)
  rw [er_sc h'] at key
  exact key
def sDput (j : Nat) (mx mv : PM) : SM := fun env => (mv env).bind fun v => (env[j]?.join).bind fun d => (mx env).bind fun x => (keyD x).bind fun k => (dicO d).bind fun kvs => match v with
  | .s w => if (scl w && decide (kvs.length < 16777216)) = true then some (.nx, env.set j (some (dicD .o (putK kvs k w)))) else none
  | _ => none
def sDdel (j : Nat) (mx : PM) : SM := fun env => (env[j]?.join).bind fun d => (mx env).bind fun x => (keyD x).bind fun k => (dicO d).bind fun kvs => if (valV kvs k).isSome = true then some (.nx, env.set j (some (dicD .o (dropK kvs k)))) else none
theorem putK_scl {kvs : List (Key × V)} {k : Key} {w : V} (h : (kvs.map (·.2)).all scl = true) (hw : scl w = true) : ((putK kvs k w).map (·.2)).all scl = true := by
  rw [List.all_map, List.all_eq_true] at *
  intro p hp
  unfold putK at hp
  split at hp
  · obtain ⟨q, hq, rfl⟩ := List.mem_map.mp hp
    dsimp only [Function.comp]
    split
    · exact hw
    · exact h q hq
  · rw [List.mem_append, List.mem_singleton] at hp
    rcases hp with hp | rfl
    · exact h p hp
    · exact hw
theorem dropK_scl {kvs : List (Key × V)} {k : Key} (h : (kvs.map (·.2)).all scl = true) : ((dropK kvs k).map (·.2)).all scl = true := by
  rw [List.all_map, List.all_eq_true] at *
  intro p hp
  exact h p (List.mem_filter.mp hp).1
section
variable {X : Cx} {k : Nat} {P : List Nat} {i o e : Expr} {mx mv : PM} {pos tpos : Pos} {j : Nat}
theorem ss_ddel (ho : SPl X j o (plName j)) (hi : SB X i mx) : SS X P (.Delete [.Subscript o i tpos] pos) (sDdel j mx) :=
  PS.weak (ps_ddel ho.pe hi) fun De σ H ⟨env, oo, e', hm, r, s, w, q⟩ => by
    obtain ⟨d, hd, hm⟩ := bind_some hm
    obtain ⟨x, hx, hm⟩ := bind_some hm
    obtain ⟨kk, hk, hm⟩ := bind_some hm
    obtain ⟨kvs, hp, hm⟩ := bind_some hm
    split at hm
    case isFalse => cases hm
    rename_i hv
    cases hm
    obtain ⟨t, f3, rfl⟩ := join_get hd
    have c := Cf.start (σ := σ) r s w
    have hpl : plName j (erE env) = some [] := by unfold plName; rw [hd]; rfl
    unfold sDDel
    refine goPl ho.ok c hpl fun t' u H2 h1' h2 x2 c2 => ?_
    rw [f3] at h1'
    cases h1'
    cases h2
    refine goB c2 hx fun v2 H3 e3 x3 s3 _ c3 => ?_
    obtain ⟨a, g1, g2, g3⟩ := rdO (c3.satE.get f3) hp
    rw [key_er e3 hk]
    refine ⟨a, kvs, kk, by rw [g1]; rfl, g2, rfl, hv, ?_⟩
    obtain ⟨env2, w1, _, c4⟩ := dic_step (kvs' := dropK kvs kk) c3 f3 g1 (dropK_scl g3)
    exact q [] σ env2 _ w1 c4 (fun _ _ => rfl) rfl
theorem ss_dput (hr : Room k X.A) (hv : SB X e mv) (ho : SPl X j o (plName j)) (hi : SB X i mx) (hs : swapsWith e (some (.Subscript o i tpos)) pos.line X.env = pure false := by rfl) : SS X P (.Assign [.Subscript o i tpos] e pos) (sDput j mx mv) :=
  PS.weak (ps_dput (hu_of hr) ho.pe hi hv hs) fun De σ H ⟨env, oo, e', hm, r, s, w, q⟩ => by
    obtain ⟨v, hvv, hm⟩ := bind_some hm
    obtain ⟨d, hd, hm⟩ := bind_some hm
    obtain ⟨x, hx, hm⟩ := bind_some hm
    obtain ⟨kk, hk, hm⟩ := bind_some hm
    obtain ⟨kvs, hp, hm⟩ := bind_some hm
    have hex : ∃ w, v = .s w := by
      cases v with
      | s w => exact ⟨w, rfl⟩
      | n _ _ => cases hm
    obtain ⟨wv, rfl⟩ := hex
    dsimp only at hm
    split at hm
    case isFalse => cases hm
    rename_i hc
    rw [Bool.and_eq_true, decide_eq_true_iff] at hc
    cases hm
    obtain ⟨t, f3, rfl⟩ := join_get hd
    have c := Cf.start (σ := σ) r s w
    have hpl : plName j (erE env) = some [] := by unfold plName; rw [hd]; rfl
    unfold sDPut
    refine goB c hvv fun tv H1 e1 x1 s1 _ c1 => ?_
    have hval : tv.val = wv := by
      cases tv with
      | s z =>
        rw [T.er] at e1
        injection e1 with e1
        unfold hid at e1
        split at e1
        · exact e1
        · subst e1; exact absurd hc.1 (by decide)
      | n k' a' ts => rw [T.er] at e1; cases e1
      | w z k' a' ts => rw [T.er] at e1; cases e1
    refine goPl ho.ok c1 hpl fun t' u H2 h1' h2 x2 c2 => ?_
    rw [f3] at h1'
    cases h1'
    cases h2
    refine goB c2 hx fun v2 H3 e3 x3 s3 _ c3 => ?_
    obtain ⟨a, g1, g2, g3⟩ := rdO (c3.satE.get f3) hp
    rw [key_er e3 hk, hval]
    refine ⟨a, _, by rw [g1]; rfl, DPut.k g2 (by rw [sizeLine_eq]; exact hc.2), ?_⟩
    obtain ⟨env2, w1, _, c4⟩ := dic_step (kvs' := putK kvs kk wv) c3 f3 g1 (putK_scl g3 hc.1)
    exact q [] σ env2 _ w1 c4 (fun _ _ => rfl) rfl
theorem sp_dnew : SP X (.Dict [] [] pos) (fun _ => some (dicD .o [])) := PE.weak pe_dnewK fun σ H Q ⟨env, d, hm, r, s, q⟩ => by
  cases hm
  intro p hp
  obtain ⟨x2, s2, o2⟩ := new_node (k := .dic .o []) (us := []) rfl (Evl.Ex.refl H) s trivial (by intro a; simp [coL, cuL]) hp
  exact q (.n (.dic .o []) p []) _ rfl x2 s2 o2
end
end Ow

namespace Ow
open PySem L2 Enc
/-! ### sorted whole numbers -/
def srt (ns : List Int) : List Int := ns.mergeSort fun a b => decide (a ≤ b)
theorem srt_perm (ns : List Int) : (srt ns).Perm ns := List.mergeSort_perm ..
theorem srt_rise (ns : List Int) : (srt ns).Pairwise (· ≤ ·) := by
  have := List.pairwise_mergeSort (le := fun a b : Int => decide (a ≤ b)) (fun a b c h1 h2 => by simp at *; omega) (fun a b => by simp; omega) ns
  exact this.imp (fun h => by simpa using h)
theorem srt_eq {ns ms : List Int} (h : ms.Perm ns) (h2 : ms.Pairwise (· ≤ ·)) : ms = srt ns := List.Perm.eq_of_pairwise (le := (· ≤ ·)) (fun a b _ _ h1 h2 => by omega) h2 (srt_rise ns) (h.trans (srt_perm ns).symm)
def fSorted (ds : List D) : Option (List D) := (li ds).map fun ns => (srt ns).map fun i => .s (.int i)
theorem erL_ints (ns : List Int) : erL (ns.map fun i => T.s (.int i)) = ns.map fun i => D.s (.int i) := by
  induction ns with
  | nil => rfl
  | cons n ns ih => rw [List.map_cons, List.map_cons, erL, ih]; rfl
theorem sat_ints {K : PySem.W.Frag} {H : Hp} (ns : List Int) : satL K H (ns.map fun i => T.s (.int i)) := by
  induction ns with
  | nil => trivial
  | cons n ns ih => exact ⟨trivial, ih⟩
theorem co_ints (b : Addr) (ns : List Int) : coL b (ns.map fun i => T.s (.int i)) = 0 := by
  induction ns with
  | nil => rfl
  | cons n ns ih => rw [List.map_cons, coL, ih, T.co]
theorem cu_ints (b : Addr) (ns : List Int) : cuL b (ns.map fun i => T.s (.int i)) = 0 := by
  induction ns with
  | nil => rfl
  | cons n ns ih => rw [List.map_cons, cuL, ih, T.cu]
theorem opnl_sorted {K : PySem.W.Frag} : OpNL K (rSortedI K) fSorted := fun ts ds H Q hs h q => by
  obtain ⟨ns, h1, rfl⟩ := map_some h
  obtain ⟨a, e1, e2⟩ := li_of hs h1
  refine ⟨a, ns, e1, e2, fun ns' p h2 h3 hp => ?_⟩
  rw [srt_eq h2 h3, ← vals_ints]
  exact q _ p (erL_ints _) (sat_ints _) (fun b z => by rw [co_ints] at z; omega) (fun b z => by rw [cu_ints] at z; omega) hp
theorem fSorted_en (o : Fl) (ns : List Int) : fSorted [en o ns] = some ((srt ns).map fun i => D.s (.int i)) := by
  unfold fSorted
  rw [en_list, li_c0]
  have : (ns.map (en o) : List D) = ns.map fun i => D.s (.int i) := rfl
  rw [this, intsD_map]; rfl
section
variable {X : Cx} {e : Expr} {ml : LM} {p pos : Pos}
theorem sp_sorted (hm : X.mg "sorted" = none) (ha : SBA X [e] ml) (hb : bootBuiltins "sorted" = some (.builtin "sorted") := by decide +kernel) (hg : Gl X "sorted" := by rfl)
    (he : starEach [e] X.env = (false, eval e X.env) :: starEach [] X.env := by rfl) (hpl : (backTo pos (starEach [] X.env)).any (·.1) = false := by rfl) : SP X (.Call (.Name "sorted" p) [e] [] pos) (mCallL fSorted ml) :=
  sp_callBL cr_sortedI opnl_sorted hb hm ha hg (he := he) (hpl := hpl)
end
end Ow

namespace Ow
open PySem L2 Enc
/-! ### dicts made turn by turn -/
def svD : D → Option V
  | .s w => if scl w = true then some w else none
  | _ => none
theorem svD_er {u : T} {d : D} {w : V} (e : u.er = d) (h : svD d = some w) : u.val = w ∧ scl w = true := by
  subst e
  cases u with
  | s z =>
    rw [T.er, svD] at h
    split at h
    · rename_i hz
      cases h
      have : scl z = true := by
        unfold hid at hz
        split at hz
        · assumption
        · cases hz
      rw [hid_scl this]
      exact ⟨rfl, this⟩
    · cases h
  | n k' a ts => rw [T.er] at h; cases h
  | w z k' a ts => rw [T.er] at h; cases h
def dcD (g : Tg) (mt : BM) (mx mv : PM) (e0 : Env) : List D → List (Key × V) → Option (List (Key × V))
  | [], kvs => some kvs
  | d :: ds, kvs => (bD g d e0).bind fun e1 => (mt e1).bind fun b => if b = true then (mx e1).bind fun x => (keyD x).bind fun k => (mv e1).bind fun v => (svD v).bind fun w => dcD g mt mx mv e0 ds (putK kvs k w) else dcD g mt mx mv e0 ds kvs
def mDc (mi : LM) (g : Tg) (mt : BM) (mx mv : PM) (vs : List Nat) : PM := fun env => (mi env).bind fun ds => if ds.length ≤ 16777216 then (dcD g mt mx mv (wipeD env vs) ds []).map fun kvs => dicD .o kvs else none
structure DcW (H H1 : Hp) (Dl : Addr) (g : Tg) (mt : BM) (mx mv : PM) (e0 : Env) (ds : List D) (rs : List (Key × V)) (i m : Nat) (H' : Hp) : Prop where
  le : i ≤ ds.length
  ms : m = ds.length - i
  ex : Ex H1 H'
  acc : ∃ kvs, H' Dl = some (.dK kvs) ∧ (kvs.map (·.2)).all scl = true ∧ kvs.length ≤ i ∧ dcD g mt mx mv e0 (ds.drop i) kvs = some rs
theorem putK_len (kvs : List (Key × V)) (k : Key) (w : V) : (putK kvs k w).length ≤ kvs.length + 1 := by
  unfold putK
  split
  · rw [List.length_map]; omega
  · rw [List.length_append]; exact Nat.le_refl _
section
variable {X : Cx} {kx vx tg iter : Expr} {ifs : List Expr} {scope : Scope} {own : List (Str × Nat)} {pos : Pos} {mi : LM} {g : Tg} {mt : BM} {mx mv : PM}
theorem dc_rd {K : PySem.W.Frag} {σ : L2.St} {H : Hp} {Q : VK} {vs : List Nat} (hsl : ∀ i ∈ g.sl, i ∈ vs) (h : trP K (mDc mi g mt mx mv vs) σ H Q) : tDc (trI K mi) (gOf K g) (trT K mt) (trB K mx) (trB K mv) vs σ H Q := by
  obtain ⟨env, d, hm, r, s, k⟩ := h
  obtain ⟨ds, hi, hm⟩ := bind_some hm
  split at hm
  case isFalse => cases hm
  rename_i hlen
  obtain ⟨rs, hrs, rfl⟩ := map_some hm
  refine ⟨env, ds, hi, r, s, fun J src H1 x1 ss bs w Dl hD => ?_⟩
  rw [← wipe_er] at hrs
  refine ⟨DcW H H1 Dl g mt mx mv (erE (wipeT env vs)) ds rs, ⟨ds.length, ?_⟩, fun i m H2 W => ?_⟩
  · exact ⟨Nat.zero_le _, rfl, Evl.Ex.new hD, [], upd_same, rfl, Nat.le_refl _, hrs⟩
  obtain ⟨le, ms, ex, kvs, hacc, hscl, lacc, hrr⟩ := W
  have ss2 : satL K H2 src := satL_ex ex ss
  by_cases hi2 : i < ds.length
  · refine .inr ⟨w.go i H2 ss2 hi2, fun H' => ∃ m', m' < m ∧ DcW H H1 Dl g mt mx mv (erE (wipeT env vs)) ds rs (i + 1) m' H', fun H' h => h, fun x H3 hy => ?_⟩
    have hd := List.getElem?_eq_getElem hi2
    obtain ⟨t, rfl, et, x3, s3, c3, u3⟩ := w.yld i H2 x H3 ss2 hy _ hd
    have hdr : ds.drop i = ds[i] :: ds.drop (i + 1) := List.drop_eq_getElem_cons hi2
    rw [hdr, dcD] at hrr
    obtain ⟨e1, hb1, hrr⟩ := bind_some hrr
    obtain ⟨b, hb2, hb3⟩ := bind_some hrr
    rw [← et] at hb1
    have sw : SatE K H3 (wipeT env vs) := (wipe_sat ((s.ex x1).ex ex) vs).ex x3
    refine g_run g t (wipe σ vs) (wipeT env vs) e1 _ (wipe_rel r vs) s3 hb1 fun σ2 env2 B => ?_
    refine ⟨wipe_same B.len (fun i hi => (B.out i hi).1) hsl, ?_⟩
    have s2 : SatE K H3 env2 := fun u hu => by
      rcases B.sat u hu with q | q
      · exact sw u q
      · exact q
    have hl3 : H3 Dl = some (.dK kvs) := x3 Dl _ hacc
    refine ⟨env2, b, by rw [B.er]; exact hb2, B.rel, s2, fun H4 x4 => ?_⟩
    have hl4 : H4 Dl = some (.dK kvs) := x4 Dl _ hl3
    have ex4 : Ex H1 H4 := (ex.trans x3).trans x4
    cases b with
    | true =>
      rw [if_pos rfl] at hb3
      obtain ⟨x, hx, hb3⟩ := bind_some hb3
      obtain ⟨kk, hk, hb3⟩ := bind_some hb3
      obtain ⟨v, hv, hb3⟩ := bind_some hb3
      obtain ⟨wv, hw, hb3⟩ := bind_some hb3
      dsimp only
      rw [if_pos rfl]
      refine ⟨env2, x, by rw [B.er]; exact hx, B.rel, s2.ex x4, fun u H5 eu x5 s5 b5 => ⟨env2, v, by rw [B.er]; exact hv, B.rel, (s2.ex x4).ex x5, fun u2 H6 eu2 x6 s6 b6 => ?_⟩⟩
      have hl6 : H6 Dl = some (.dK kvs) := x6 Dl _ (x5 Dl _ hl4)
      obtain ⟨v1, v2⟩ := svD_er eu2 hw
      have hlt : kvs.length < 16777216 := by omega
      refine ⟨kvs, kk, key_er eu hk, hl6, by rw [sizeLine_eq]; exact hlt, m - 1, by omega, ?_⟩
      rw [v1]
      refine ⟨hi2, by omega, Evl.Ex.mut ((ex4.trans x5).trans x6) hD, putK kvs kk wv, upd_same, putK_scl hscl v2, ?_, hb3⟩
      have := putK_len kvs kk wv
      omega
    | false =>
      rw [if_neg Bool.false_ne_true] at hb3
      dsimp only
      rw [if_neg Bool.false_ne_true]
      exact ⟨m - 1, by omega, hi2, by omega, ex4, kvs, hl4, hscl, by omega, hb3⟩
  · have hi3 : ds.length ≤ i := Nat.le_of_not_lt hi2
    refine .inl ⟨w.stop i H2 ss2 hi3, ?_⟩
    rw [List.drop_eq_nil_of_le hi3, dcD] at hrr
    cases hrr
    refine k (.n (.dic .o (rs.map (·.1))) Dl (rs.map fun p => T.s p.2)) H2 (er_sc hscl) (x1.trans ex) ⟨⟨by rw [ho_sc]; exact hacc, rfl⟩, satL_sc _⟩ fun a => ?_
    have c4 : H1 a = none → H a = none := Evl.fresh_back x1
    rw [T.co, T.cu, coL_sc, cuL_sc]
    by_cases q : Dl = a
    · subst q
      refine ⟨by simp [Kd.own], fun _ => c4 hD, fun q => absurd q (by simp [Kd.own])⟩
    · rw [if_neg (fun z => q z.2), if_neg (fun z => q z.2)]
      exact ⟨by omega, fun z => absurd z (by omega), fun z => absurd z (by omega)⟩
theorem sp_dc (hc : X.calm = true) (hN : X.N.Nodup) (hi : SI X tg iter mi) (ok : blkC X.N X.env.scope scope own = true)
    (hg : ∀ (s : Shared) (H : Hp) (C : Addr) (cl : List (Str × Addr)) (fp : List Addr), SG (X.blk s H scope (compEnvC scope cl C X.env) fp) tg g) (ht : ∀ (s : Shared) (H : Hp) (C : Addr) (cl : List (Str × Addr)) (fp : List Addr), STs (X.blk s H scope (compEnvC scope cl C X.env) fp) ifs mt)
    (hk : ∀ (s : Shared) (H : Hp) (C : Addr) (cl : List (Str × Addr)) (fp : List Addr), SB (X.blk s H scope (compEnvC scope cl C X.env) fp) kx mx)
    (he : ∀ (s : Shared) (H : Hp) (C : Addr) (cl : List (Str × Addr)) (fp : List Addr), SB (X.blk s H scope (compEnvC scope cl C X.env) fp) vx mv) (hsl : ∀ i ∈ g.sl, i ∈ own.map (·.2)) (hs : ∀ x, foldedSetIterable iter X.env x = pure x := by intro _; rfl) :
    SP X (.DictComp kx vx [⟨tg, iter, ifs, 0⟩] scope pos) (mDc mi g mt mx mv (own.map (·.2))) :=
  PE.weak (pe_dc (own := own) (g := gOf X.K g) (tt := trT X.K mt) (tk := trB X.K mx) (tv := trB X.K mv) hc hN hi (blkOk_by ok) hg ht hk he hs) fun σ H Q h => dc_rd hsl h
end
end Ow

namespace Ow
open PySem L2 Enc
section
variable {K : PySem.W.Frag} {H0 H : Hp} {env0 env : TEnv} {σ : L2.St} {F ts : List T} {k : Kd} {p : Addr}
/-- trees at hand put into a new one -/
theorem Cf.node (c : Cf K H0 env0 σ H (ts ++ F) env) (hk : k.isw = false) (hp : H p = none) : Cf K H0 env0 σ (upd H p (k.ho (vals ts))) (T.n k p ts :: F) env := by
  have x : Ex H (upd H p (k.ho (vals ts))) := Evl.Ex.new hp
  have c' := c.ex x
  have sF := satL_append.mp c'.satF
  have z1 : ¬ 0 < coL p (ts ++ F) := fun h => coL_some _ c.satF h hp
  have z2 : ¬ 0 < cuL p (ts ++ F) := fun h => cuL_some _ c.satF h hp
  have z3 : ¬ 0 < coE p env := fun h => coE_some c.satE h hp
  have z4 : ¬ 0 < cuE p env := fun h => cuE_some c.satE h hp
  rw [coL_append] at z1
  rw [cuL_append] at z2
  refine ⟨c'.rel, ⟨⟨⟨upd_same, hk⟩, sF.1⟩, sF.2⟩, c'.satE, fun a => ?_, ⟨fun a o h hc => ?_, fun a h => ?_, fun a => ?_⟩⟩
  · have w := c.wf a
    simp only [coL_append, cuL_append] at w
    simp only [coL, cuL, T.co, T.cu]
    by_cases q : p = a
    · subst q
      by_cases o : k.own = true
      · rw [if_pos ⟨o, rfl⟩, if_neg (fun z => by rw [o] at z; exact absurd z.1 (by decide))]
        omega
      · have o' : k.own = false := by simpa using o
        rw [if_neg (fun z => o z.1), if_pos ⟨o', rfl⟩]
        omega
    · rw [if_neg (fun z => q z.2), if_neg (fun z => q z.2)]
      omega
  · exact x a o (c.stp.1 a o h hc)
  · exact c.stp.2.1 a (Evl.fresh_back x h)
  · have s3 := c.stp.2.2 a
    simp only [coL_append, cuL_append] at s3
    simp only [coL, cuL, T.co, T.cu]
    by_cases q : p = a
    · subst q
      have hn := c.stp.2.1 p hp
      exact ⟨fun _ => .inr hn, fun _ => .inr (.inr hn)⟩
    · rw [if_neg (fun z => q z.2), if_neg (fun z => q z.2)]
      refine ⟨fun h => s3.1 (by omega), fun h => s3.2 (by omega)⟩
end
section
variable {X : Cx} {e a b : Expr} {me m1 m2 : EM} {pos p : Pos} {U : List Nat}
/-- a pair of what may change things -/
def eTup2 (m1 m2 : EM) : EM := fun env => (m1 env).bind fun x => (m2 x.2).map fun y => (.n .tup [x.1, y.1], y.2)
theorem se_tup2 {x1} (ha : SE X U a m1) (hb : SE X U b m2) (h1s : starEach [a, b] X.env = (false, eval a X.env) :: starEach [b] X.env := by rfl) (h2s : starEach [b] X.env = (false, eval b X.env) :: starEach [] X.env := by rfl) : SE X U (.Tuple [a, b] x1 pos) (eTup2 m1 m2) :=
  PE.weak (pe_tup (pa_cons ha (pa_cons hb pa_nil h2s) h1s)) fun σ H Q ⟨env, d, e', hm, r, s, w, k⟩ => by
    obtain ⟨x, hx, hm⟩ := bind_some hm
    obtain ⟨y, hy, e1⟩ := map_some hm
    cases e1
    unfold tTup tCons tNil
    refine goE (d := x.1) (e' := x.2) (Cf.start r s w) hx fun t1 env1 H1 e1 e2 c1 u1 => ?_
    rw [← e2] at hy
    refine goE (d := y.1) (e' := y.2) c1 hy fun t2 env2 H2 e3 e4 c2 u2 => ?_
    refine ⟨sizeLine_le (by simp), fun q hq => ?_⟩
    have c3 : Cf X.K H env σ H2 ([t1, t2] ++ []) env2 := c2.less c2.rel ⟨c2.satF.2.1, c2.satF.1, trivial⟩ c2.satE (fun a => by simp only [coL, List.append_nil]; omega) (fun a => by simp only [cuL, List.append_nil]; omega)
    have c4 := c3.node (k := .tup) rfl hq
    exact k (.n .tup q [t1, t2]) env2 _ (by rw [T.er, erL, erL, erL, e1, e3]) e4 c4 (fun i hi => (u2 i hi).trans (u1 i hi))
/-- sorted(..) of what may change things -/
def eSorted (me : EM) : EM := fun env => (me env).bind fun x => (fSorted [x.1]).map fun ds => (.n (.lst .o) ds, x.2)
theorem se_sorted (hm : X.mg "sorted" = none) (ha : SE X U e me) (hb : bootBuiltins "sorted" = some (.builtin "sorted") := by decide +kernel) (hg : Gl X "sorted" := by rfl)
    (hn : ("sorted" : Str) ≠ "__name__" := by decide) (hdb : (("sorted" : Str) == ("__debug__" : Str)) = false := by decide) (he : starEach [e] X.env = (false, eval e X.env) :: starEach [] X.env := by rfl) (hpl : (backTo pos (starEach [] X.env)).any (·.1) = false := by rfl) : SE X U (.Call (.Name "sorted" p) [e] [] pos) (eSorted me) :=
  PE.weak (pe_callB cr_sortedI hg hm hb (pa_cons ha pa_nil he) hn hdb he hpl) fun σ H Q ⟨env, d, e', hmm, r, s, w, k⟩ => by
    obtain ⟨x, hx, hmm⟩ := bind_some hmm
    obtain ⟨ds, hs, e1⟩ := map_some hmm
    cases e1
    unfold tCB tCons tNil
    refine goE (d := x.1) (e' := x.2) (Cf.start r s w) hx fun t1 env1 H1 e1 e2 c1 u1 => ?_
    obtain ⟨ns, h1, rfl⟩ := map_some hs
    obtain ⟨a, g1, g2⟩ := li_of (ts := [t1]) ⟨c1.satF.1, trivial⟩ (by rw [erL, erL, e1]; exact h1)
    refine ⟨a, ns, g1, g2, fun ns' q h2 h3 hq => ?_⟩
    rw [srt_eq h2 h3, ← vals_ints]
    have c3 : Cf X.K H env σ H1 (((srt ns).map fun i => T.s (.int i)) ++ []) env1 := c1.less c1.rel (by rw [List.append_nil]; exact sat_ints _) c1.satE (fun b => by rw [List.append_nil, co_ints]; omega) (fun b => by rw [List.append_nil, cu_ints]; omega)
    have c4 := c3.node (k := .lst .o) rfl hq
    exact k (.n (.lst .o) q _) env1 _ (by rw [T.er, erL_ints]) e2 c4 u1
end
end Ow

namespace Ow
open PySem L2 Enc
section
variable {X : Cx} {P : List Nat}
theorem sw_dc {kx vx : Expr} {gs : List Comprehension} {sc : Scope} {po pn : Pos} {y : PySem.Str} {n : Nat} {ev : PySem.Env} (h1 : ev.scope.kind = .function) (h2 : ev.scope.names.lookup y = some .local) (h3 : (pn.line == po.line) = true)
    (h4 : (sc.names.any fun (z, q) => z == y && (q == .local || q == .cell)) = false) :
    swapsWith (.DictComp kx vx gs sc po) (some (.Name y pn)) n ev = pure true := by
  have e1 : ev.kindOf y = some .local := h2
  have e2 : ev.blockKind = .function := by
    rw [Env.blockKind, h1]; rfl
  unfold swapsWith
  simp only [e2, e1, h4, Expr.pos, h3]
  rfl
theorem ss_setDc {kx vx tg it : Expr} {ifs : List Expr} {sc : Scope} {own : List (PySem.Str × Nat)} {mi : LM} {g : Tg} {mt : BM} {mx mv : PM} {y : PySem.Str} {pn po ps : Pos} (i : Nat) (hP : i ∉ P) (hc : X.calm = true) (hN : X.N.Nodup) (hi : SI X tg it mi) (ok : blkC X.N X.env.scope sc own = true)
    (hg : ∀ (s : Shared) (H : Hp) (C : Addr) (cl : List (PySem.Str × Addr)) (fp : List Addr), SG (X.blk s H sc (compEnvC sc cl C X.env) fp) tg g)
    (ht : ∀ (s : Shared) (H : Hp) (C : Addr) (cl : List (PySem.Str × Addr)) (fp : List Addr), STs (X.blk s H sc (compEnvC sc cl C X.env) fp) ifs mt)
    (hk : ∀ (s : Shared) (H : Hp) (C : Addr) (cl : List (PySem.Str × Addr)) (fp : List Addr), SB (X.blk s H sc (compEnvC sc cl C X.env) fp) kx mx)
    (he : ∀ (s : Shared) (H : Hp) (C : Addr) (cl : List (PySem.Str × Addr)) (fp : List Addr), SB (X.blk s H sc (compEnvC sc cl C X.env) fp) vx mv) (hsl : ∀ j ∈ g.sl, j ∈ own.map (·.2))
    (hw : swapsWith (.DictComp kx vx [⟨tg, it, ifs, 0⟩] sc po) (some (.Name y pn)) ps.line X.env = pure true) (hy : X.N[i]? = some y := by rfl) (hl : X.env.scope.names.lookup y = some .local := by rfl) (hs : ∀ x, foldedSetIterable it X.env x = pure x := by intro _; rfl) :
    SS X P (.Assign [.Name y pn] (.DictComp kx vx [⟨tg, it, ifs, 0⟩] sc po) ps) (sSet i (lift (mDc mi g mt mx mv (own.map (·.2))))) := ⟨fun pins s σ H De I h => by
  have z : tDc (trI X.K mi) (gOf X.K g) (trT X.K mt) (trB X.K mx) (trB X.K mv) (own.map (·.2)) σ H (fun x H1 => gName i x σ H1 De.nx) := by
    obtain ⟨env, d, e', hm, r, sa, w, k⟩ := asg_rd (X := X) hP h
    obtain ⟨x, hx, e1⟩ := map_some hm
    cases e1
    exact dc_rd hsl (goP (Cf.start r sa w) hx fun t H' e1 x c => k t env H' e1 rfl c fun _ _ => rfl)
  rw [exec_Assign_Name_used _ _ _ _ hw]
  refine wpAny_bind (wpAny_standAt ?_)
  refine wpAny_bind ?_
  show wpAny _ X.A (do
    let _ ← comprehension (.DictComp kx vx [⟨tg, it, ifs, 0⟩] sc po) sc X.env (firstIterPos [⟨tg, it, ifs, 0⟩] po) newDict false (eval it X.env) (some (assign (.Name y pn) X.env))) _ _ s
  have fin := dc_core (own := own) (g := gOf X.K g) (tt := trT X.K mt) (tk := trB X.K mx) (tv := trB X.K mv) (use := some (assign (.Name y pn) X.env)) (pos' := firstIterPos [⟨tg, it, ifs, 0⟩] po) (pos := po) (Qf := fun _ s' => L2.SP X pins De .next s') hc hN I hi (blkOk_by ok) hg ht hk he hs z
  refine wpAny_bind (thn (fin fun D C s2 m H2 I2 zz hn f => ?_) fun _ s3 hq => wpAny_pure (wpAny_pure hq))
  show wpAny _ _ (assign (.Name y pn) X.env (.ref D)) _ _ _
  refine wpAny_assign_Name (store_ok2 (v := .ref D) I2 hN hy (Or.inl hl) rfl (fun s4 I4 hx => ?_) (Or.inr hl))
  obtain ⟨a, sb, ha⟩ := hx
  have ne : C ≠ a := by
    rcases ha with u | u
    · rw [u]; exact f.2.1
    · exact fun e => f.2.2.2.2.1 y a u e.symm
  exact ⟨m, hn.sameBut sb ne, fun h3 sb3 => ⟨_, H2, I4.turned (t' := s4.toks) (fun b o hb e => (sb3.2 b hb).trans e) f.1 f.2.1 f.2.2.2.1 f.2.2.2.2.1 f.2.2.2.2.2, zz⟩⟩⟩
end
end Ow

namespace Ow
open PySem L2 Enc
def fXor := fI okI fun i j => .int (Builtin.bitXor i j)
section
variable {X : Cx} {a b : Expr} {pos : Pos} {ma mb : PM} {m1 m2 : EM} {U : List Nat}
theorem sp_xor (ha : SB X a ma) (hb : SB X b mb) : SP X (.BinOp a .BitXor b pos) (mOp2 fXor ma mb) := sp_op op_xor op2_I0 ha hb
end
theorem fXor_int {i j : Int} : fXor (.s (.int i)) (.s (.int j)) = some (.int (Builtin.bitXor i j)) := rfl
end Ow

namespace Ow
open PySem L2 PySem.Spec PyProof.Rows

/-! ### slices with a step -/
def pickN (n : Nat) (lo hi st : Option Int) : List Nat := sliceRange (sliceBounds lo hi st n).1 (sliceBounds lo hi st n).2.1 (sliceBounds lo hi st n).2.2
def pickG {α : Type} (xs : List α) (lo hi st : Option Int) : List α := (pickN xs.length lo hi st).filterMap fun i => xs[i]?
theorem pickG_map {α β : Type} (f : α → β) (xs : List α) (lo hi st : Option Int) : pickG (xs.map f) lo hi st = (pickG xs lo hi st).map f := by
  unfold pickG
  rw [List.length_map, List.map_filterMap]
  congr 1
  funext i
  exact List.getElem?_map ..
theorem pickG_mem {α : Type} {xs : List α} {lo hi st : Option Int} {x : α} (h : x ∈ pickG xs lo hi st) : x ∈ xs := by
  obtain ⟨i, _, h⟩ := List.mem_filterMap.mp h
  exact List.mem_of_getElem? h
theorem pickG_length {α : Type} (xs : List α) (lo hi st : Option Int) (h0 : st ≠ some 0) : (pickG xs lo hi st).length ≤ xs.length := by
  refine Nat.le_trans (List.length_filterMap_le ..) ?_
  unfold pickN sliceBounds
  refine sliceRange_length_le _ _ _ _ (fun hp => ?_) (fun hm => ?_)
  · dsimp only at hp ⊢
    simp only [hp, if_true]
    constructor
    · cases lo <;> dsimp only <;> omega
    · cases hi <;> dsimp only <;> omega
  · dsimp only at hm ⊢
    simp only [hm, if_false]
    constructor
    · cases lo <;> dsimp only <;> omega
    · cases hi <;> dsimp only <;> omega
theorem vals_pick {xs : List V} {its : List Value} (r : Vals xs its) (l : List Nat) : Vals (l.filterMap fun i => xs[i]?) (l.filterMap fun i => its[i]?) := by
  induction l with
  | nil => exact .nil
  | cons i l ih =>
    rw [List.filterMap_cons, List.filterMap_cons]
    have hl := r.length
    cases e : xs[i]? with
    | none =>
      rw [List.getElem?_eq_none (by rw [← hl]; exact List.getElem?_eq_none_iff.mp e)]
      exact ih
    | some x =>
      obtain ⟨u, hu, ru⟩ := r.get e
      rw [hu]
      exact .cons ru ih
def tSl3 (K : PySem.W.Frag) (te : TE) (tl th ts : TO) : TE := fun σ H Q => te σ H fun x H1 => tl σ H1 fun l H2 => th σ H2 fun u H3 => ts σ H3 fun c H4 => c ≠ some 0 ∧ ∃ a xs, x = .ref a ∧ SqL K H4 a xs ∧ ∀ p, H4 p = none → Q (.ref p) (upd H4 p (.lst (pickG xs l u c)))
theorem pe_slice3 {X : Cx} {e st : Expr} {te : TE} {lo hi : Option Expr} {tl th ts : TO} {pos p2 : Pos} (he : PE X e te) (hl : PO X lo tl) (hh : PO X hi th) (hst : PO X (some st) ts) : PE X (.Subscript e (.Slice lo hi (some st) p2) pos) (tSl3 X.K te tl th ts) := by
  refine ⟨fun pins s σ H Q I h => ?_⟩
  refine Subscript_ (L2.thn (he.run pins s σ H _ I h) fun v s1 ⟨x, H1, I1, r1, q1⟩ => ?_)
  refine wpAny_Slice (L2.thn (hl.run pins s1 σ H1 _ I1 q1) fun vl s2 ⟨l, H2, I2, pl, q2⟩ => ?_)
  refine L2.thn (hh.run pins s2 σ H2 _ I2 q2) fun vu s3 ⟨u, H3, I3, pu, q3⟩ => ?_
  refine L2.thn (hst.run pins s3 σ H3 _ I3 q3) fun vs s4 ⟨o, H4, I4, ps, q4⟩ => ?_
  obtain ⟨h0, a, xs, ex, hx, q⟩ := q4
  subst ex
  cases r1
  have I5 : Inv X pins σ H4 { s4 with heap := s4.heap.push { cls := .type "slice", data := .fields #[vl, vu, vs] } } := I4.kept (t' := s4.toks) fun b ob q => Heap.get?_push_of_some _ q
  obtain ⟨its, r, ht, hz⟩ := I5.list hx
  have hlen := r.length
  show wpAny (model X.prog X.w) X.A (subscriptTail e (.Slice lo hi (some st) p2) (.ref a) (.ref s4.heap.objs.size)) (EP X pins σ Q) X.xe { s4 with heap := s4.heap.push { cls := .type "slice", data := .fields #[vl, vu, vs] } }
  refine tail_any (ops := [.ref a, .ref s4.heap.objs.size]) ht.isList.typeIs (PySem.slot_list_getitem.lookup) ?_ (by with_unfolding_all rfl)
  refine wpAny_getItem_list_slice ht.isList (Heap.IsSliceOf.new _ vl vu vs) pl pu ps h0 ?_ (by rw [List.size_toArray]; omega)
  have e1 : slicePick its.toArray l u o = (pickG its l u o).toArray := by
    unfold slicePick pickG pickN
    rw [List.size_toArray]
    congr 2
    funext i
    simp
  rw [e1]
  refine ⟨.ref _, _, I5.laid (t' := s4.toks) (o := .lst (pickG xs l u o)) (fun b ob q => Heap.get?_push_of_some _ q) (Nat.le_refl _) ?_, rfl, q _ (I5.hok.fresh (Nat.le_refl _))⟩
  refine ⟨Nat.le_trans (pickG_length xs l u o h0) hz, _, 0, ?_, Heap.get?_push_size _ rfl⟩
  unfold pickG
  rw [hlen]
  exact vals_pick r _
def mSl3 (m : PM) (lo hi st : Env → Option (Option Int)) : PM := fun env => (m env).bind fun x => (lo env).bind fun l => (hi env).bind fun h => (st env).bind fun c => match x with
  | .n (.lst _) ds => if c ≠ some 0 ∧ pureL (pickG ds l h c) = true then some (.n (.lst .o) (pickG ds l h c)) else none
  | _ => none
theorem pickV_vals (ts : List T) (lo hi st : Option Int) : pickG (vals ts) lo hi st = vals (pickG ts lo hi st) := pickG_map T.val ts lo hi st
section
variable {X : Cx} {ma : PM} {a st : Expr} {pos : Pos}
theorem sp_slice3 {lo hi : Option Expr} {p2 : Pos} {ol oh oc : Env → Option (Option Int)} (ha : SB X a ma) (hl : SO X lo ol) (hh : SO X hi oh) (hc : SO X (some st) oc) : SP X (.Subscript a (.Slice lo hi (some st) p2) pos) (mSl3 ma ol oh oc) := PE.weak (pe_slice3 ha hl hh hc) fun σ H Q ⟨env, d, hm, r, s, k⟩ => by
  obtain ⟨x, hx, hm⟩ := bind_some hm
  obtain ⟨l, hl, hm⟩ := bind_some hm
  obtain ⟨h, hh, hm⟩ := bind_some hm
  obtain ⟨c, hc, hm⟩ := bind_some hm
  refine ⟨env, x, hx, r, s, fun t H1 e1 x1 s1 b1 => ⟨env, l, hl, r, s.ex x1, fun H2 x2 => ⟨env, h, hh, r, (s.ex x1).ex x2, fun H3 x3 => ⟨env, c, hc, r, ((s.ex x1).ex x2).ex x3, fun H4 x4 => ?_⟩⟩⟩⟩
  subst e1
  split at hm
  · rename_i o ds e1
    split at hm
    · rename_i hp
      cases hm
      obtain ⟨a, ts, f1, f2, f3, f4, f5, f6⟩ := rdL (sat_ex x4 (sat_ex x3 (sat_ex x2 s1))) e1
      rw [f1]
      refine ⟨hp.1, a, _, rfl, f3, fun p hn => ?_⟩
      rw [pickV_vals]
      have x5 := ((x1.trans x2).trans x3).trans x4
      have f7 : erL (pickG ts l h c) = pickG ds l h c := by rw [erL_map, ← pickG_map, ← erL_map, f2]
      have b2 : BorL H env (pickG ts l h c) := (b1.sub f5 f6).subset fun u hu => pickG_mem hu
      obtain ⟨x6, s6, o6⟩ := new_node (k := .lst .o) rfl x5 s (satL_iff.mpr fun u hu => satL_iff.mp f4 u (pickG_mem hu)) (b2.own (by rw [f7]; exact hp.2)) hn
      exact k (.n (.lst .o) p (pickG ts l h c)) _ (by rw [T.er, f7]) (x5.trans x6) s6 o6
    · cases hm
  · cases hm
end
end Ow

namespace Ow
open PySem L2 PySem.Spec PyProof.Rows

/-! ### xs[i] op= e -/
theorem get_list {X : Cx} : PGet X (rIxL X.K) := by
  intro pins s σ H o i ov iv Q I ro ri h
  obtain ⟨p, xs, k, z, rfl, rfl, hq, he, q⟩ := h
  cases ro
  obtain ⟨t, rfl⟩ := ri
  obtain ⟨its, r, pl, hz⟩ := I.list hq
  obtain ⟨j, h1, h2, h3, h4, h5⟩ := atI_get he
  obtain ⟨w, ew, rw'⟩ := r.get h2
  have hl := r.length
  have hn := line63
  have fin : EP X pins σ Q w s := ⟨z, H, I, rw', q⟩
  by_cases h0 : 0 ≤ k
  · have hj : k.toNat = j := by
      rw [seqIndex_of h0 h5] at h1
      exact Option.some.inj h1
    exact wpAny_getItem_list pl.isList h0 (by omega) (by rw [hj]; simpa using ew) fin
  · have hj : (k + (its.toArray.size : Int)).toNat = j := by
      rw [seqIndex_neg (by omega) h4] at h1
      rw [List.size_toArray, ← hl]
      exact Option.some.inj h1
    exact wpAny_getItem_list_neg pl.isList (by omega) (by rw [List.size_toArray, ← hl]; exact h4) (by omega) (by rw [hj]; simpa using ew) fin
def sAugP (i : Nat) (pm : Env → Option (List Nat)) (mb : PM) (f : D → D → Option V) (me : PM) : SM := fun env => (pm env).bind fun p => (mb env).bind fun y => (toI y).bind fun n => (env[i]?.join).bind fun d => (atD p d).bind fun c => match c with
  | .n (.lst .o) ds => (atI ds n).bind fun x => (me env).bind fun e => (f x e).bind fun v => (sv v).bind fun w => (modD p (fun ds => (ixN ds.length n).map fun j => ds.set j w) d).map fun d' => (.nx, env.set i (some d'))
  | _ => none
theorem ss_augP {X : Cx} {a b e : Expr} {i : Nat} {pm : Env → Option (List Nat)} {mb me : PM} {P : List Nat} {op : Operator} {r : R2} {f : D → D → Option V} {pos tpos : Pos} (ho : SPl X i a pm) (hb : SB X b mb) (hp : PIp X op r) (hf : Op2 X.K r f) (h : SB X e me)
    (ha : ∀ ov iv new, augStore b ov iv new = (do holding [new, ov, iv] (setItem ov iv new); release [new, ov, iv] []; pure .next) := by intros; rfl) : SS X P (.AugAssign (.Subscript a b tpos) op e pos) (sAugP i pm mb f me) :=
  PS.weak (ps_augS ho.pe hb get_list h hp set_list ha) fun De σ H ⟨env, o, e', hm, rr, s, w, k⟩ => by
    obtain ⟨p, hp, hm⟩ := bind_some hm
    obtain ⟨y, hy, hm⟩ := bind_some hm
    obtain ⟨n, hn, hm⟩ := bind_some hm
    obtain ⟨d, hd, hm⟩ := bind_some hm
    obtain ⟨c, hc, hm⟩ := bind_some hm
    split at hm
    · rename_i ds
      obtain ⟨x, hx, hm⟩ := bind_some hm
      obtain ⟨ve, he, hm⟩ := bind_some hm
      obtain ⟨v, hv, hm⟩ := bind_some hm
      obtain ⟨wd, hw, hm⟩ := bind_some hm
      obtain ⟨hs1, rfl⟩ := sv_some hw
      obtain ⟨d', hmd, e1⟩ := map_some hm
      cases e1
      unfold tAugS
      refine goPl ho.ok (Cf.start rr s w) hp fun t u H1 h1' h2 x1 c1 => ?_
      refine goB c1 hy fun v2 H2 e3 x2 s3 _ c2 => ?_
      rw [er_int (e3.trans (toI_some hn))]
      obtain ⟨t', f3, rfl⟩ := join_get hd
      rw [h1'] at f3
      cases f3
      obtain ⟨a1, ts1, M⟩ := mod_run (c2.satE.get h1') hmd
      have hat := M.at_
      rw [h2] at hat
      cases hat
      obtain ⟨ds', g1, _⟩ := M.new
      obtain ⟨j, g2, rfl⟩ := map_some g1
      have hj := ixN_lt g2
      rw [erL_length] at hj
      have hu := List.getElem?_eq_getElem hj
      have hds : ds = erL ts1 := by
        obtain ⟨u2, z1, z2, _⟩ := atD_run (c2.satE.get h1') hc
        rw [h2] at z1
        cases z1
        rw [T.er] at z2
        cases z2
        rfl
      subst hds
      have hx' : atI (vals ts1) n = some (ts1[j].val) := by
        unfold atI
        rw [List.length_map, ← erL_length, g2, Option.bind_some, List.getElem?_map, hu]; rfl
      have hxe : ts1[j].er = x := by
        unfold atI at hx
        rw [g2, Option.bind_some, erL_map, List.getElem?_map, hu] at hx
        exact Option.some.inj hx
      refine ⟨a1, vals ts1, n, ts1[j].val, rfl, rfl, .inl (.inl M.nd), hx', ?_⟩
      refine goB c2 he fun v3 H3 e4 x3 s4 _ c3 => ?_
      refine hf ts1[j] v3 v H3 _ (satL_iff.mp (satL_ex x3 M.sat) _ (List.getElem_mem hj)) s4 (by rw [hxe, e4]; exact hv) ?_
      obtain ⟨a2, ts2, M2⟩ := mod_run (c3.satE.get h1') hmd
      have hat := M2.at_
      rw [h2] at hat
      cases hat
      refine ⟨a1, vals ts1, n, j, rfl, rfl, M2.nd, by rw [List.length_map, ← erL_length]; exact g2, ?_⟩
      obtain ⟨env2, w1, _, c4⟩ := mut_step (G := []) (F' := []) (G' := []) (ts' := ts1.set j (.s v)) c3 h1' M2 (by rw [g1, erL_set, T.er, hid_scl hs1]) (satL_iff.mpr fun y hy => by
          rcases List.mem_or_eq_of_mem_set hy with q | q
          · exact satL_iff.mp M2.sat y q
          · subst q; trivial) trivial
        (fun b => by have := coL_set (b := b) (v := .s v) hu; simp only [coL, T.co] at *; omega) (fun b hb => by have := cuL_set (b := b) (v := .s v) hu; have := M2.leu b; have := cuE_get (a := b) h1'; simp only [cuL_append, cuL, T.cu] at *; omega)
      have ev : vals (ts1.set j (.s v)) = (vals ts1).set j v := by rw [vals, List.map_set]; rfl
      rw [ev] at c4
      exact k [] σ env2 _ w1 c4 (fun _ _ => rfl) rfl
    · cases hm
section
variable {X : Cx} {a b e : Expr} {i : Nat} {pm : Env → Option (List Nat)} {mb me : PM} {P : List Nat} {pos tpos : Pos}
theorem ss_augPAdd (ho : SPl X i a pm) (hb : SB X b mb) (h : SB X e me) (ha : ∀ ov iv new, augStore b ov iv new = (do holding [new, ov, iv] (setItem ov iv new); release [new, ov, iv] []; pure .next) := by intros; rfl) : SS X P (.AugAssign (.Subscript a b tpos) .Add e pos) (sAugP i pm mb fAdd me) := ss_augP ho hb ipw_add op2_I0 h ha
theorem ss_augPSub (ho : SPl X i a pm) (hb : SB X b mb) (h : SB X e me) (ha : ∀ ov iv new, augStore b ov iv new = (do holding [new, ov, iv] (setItem ov iv new); release [new, ov, iv] []; pure .next) := by intros; rfl) : SS X P (.AugAssign (.Subscript a b tpos) .Sub e pos) (sAugP i pm mb fSub me) := ss_augP ho hb ipw_sub op2_I0 h ha
end
end Ow

namespace Ow
open PySem L2 PySem.Spec PyProof.Rows

/-! ### {k: v} -/
def mD1 (mx mv : PM) : PM := fun env => (mx env).bind fun x => (keyD x).bind fun k => (mv env).bind fun v => (svD v).map fun w => dicD .o [(k, w)]
theorem keyD_val {t : T} {k : Key} (h : keyD t.er = some k) : t.val = kV k := by
  cases e : t.er with
  | n k ds => rw [e] at h; cases h
  | s v =>
    rw [e] at h
    cases v <;> first | (rw [er_scl e rfl]; cases h; rfl) | cases h
theorem svD_val {d : D} {w : V} (h : svD d = some w) : d = .s w ∧ scl w = true := by
  cases d with
  | n k ds => cases h
  | s v =>
    unfold svD at h
    dsimp only at h
    by_cases q : scl v = true
    · rw [if_pos q] at h
      cases h
      exact ⟨rfl, q⟩
    · rw [if_neg q] at h
      cases h
theorem sp_disp1 {X : Cx} {mx mv : PM} {kx vx : Expr} {pos : Pos} (hk : SB X kx mx) (hv : SB X vx mv) : SP X (.Dict [some kx] [vx] pos) (mD1 mx mv) :=
  PE.weak (pe_disp (pps_cons hk hv pps_nil) rfl rfl (by simp) (Nat.le_of_ble_eq_true rfl)) fun σ H Q ⟨env, d, hm, r, s, k⟩ => by
    obtain ⟨x, hx, hm⟩ := bind_some hm
    obtain ⟨kk, hkk, hm⟩ := bind_some hm
    obtain ⟨v, hv, hm⟩ := bind_some hm
    obtain ⟨w, hw, rfl⟩ := map_some hm
    intro p hp
    have e0 : Ex H (upd H p (.dK [])) := Evl.Ex.new hp
    refine ⟨env, x, hx, r, s.ex e0, fun t1 H1 e1 x1 s1 _ => ⟨env, v, hv, r, (s.ex e0).ex x1, fun t2 H2 e2 x2 s2 _ => ?_⟩⟩
    subst e1 e2
    obtain ⟨h1, h2⟩ := svD_val hw
    have q1 := keyD_val hkk
    have q2 := er_scl h1 h2
    subst q2
    have hp2 : H2 p = some (.dK []) := x2 _ _ (x1 _ _ upd_same)
    refine ⟨hp2, [(kk, w)], by rw [q1]; rfl, Nat.le_of_ble_eq_true rfl, ?_⟩
    have hmk : mergeK [] [(kk, w)] = [(kk, w)] := rfl
    rw [hmk]
    refine k (.n (.dic .o [kk]) p [.s w]) _ ?_ ?_ ⟨⟨upd_same, rfl⟩, trivial, trivial⟩ fun a => ?_
    · show D.n _ _ = D.n _ _
      rw [erL, erL, T.er, hid_scl h2]; rfl
    · intro a o ha
      have hne : a ≠ p := fun e => by rw [e, hp] at ha; cases ha
      show upd H2 p _ a = some o
      rw [upd_ne hne]
      refine x2 _ _ (x1 _ _ ?_)
      rw [upd_ne hne]; exact ha
    · simp only [T.co, T.cu, coL, cuL, Kd.own]
      by_cases q : p = a
      · subst q
        simp [hp]
      · simp [q]
end Ow

namespace Ow
open PySem L2 PySem.Spec PyProof.Rows

/-! ### xs.extend(e) -/
section
variable {K : PySem.W.Frag} {H0 H H' : Hp} {env0 env : TEnv} {σ : L2.St} {F ts : List T}
theorem Cf.addPure (c : Cf K H0 env0 σ H F env) (x : Ex H H') (s1 : satL K H' ts) (ho : ∀ a, coL a ts = 0) (hu : ∀ a, 0 < cuL a ts → 0 < cuE a env ∨ H a = none) : Cf K H0 env0 σ H' (ts ++ F) env := by
  refine ⟨c.rel, satL_append.mpr ⟨s1, satL_ex x c.satF⟩, c.satE.ex x, fun a => ?_, Stp.trans c.stp ⟨fun a o h _ => x a o h, fun a h => Evl.fresh_back x h, fun a => ?_⟩⟩
  · have w := c.wf a
    have z := ho a
    simp only [coL_append, cuL_append] at w ⊢
    by_cases q : 0 < coL a F + coE a env
    · have nn : H a ≠ none := by
        by_cases q2 : 0 < coL a F
        · exact coL_some F c.satF q2
        · exact coE_some c.satE (by omega)
      have : cuL a ts = 0 := by
        rcases Nat.eq_zero_or_pos (cuL a ts) with y | y
        · exact y
        · rcases hu a y with y | y
          · omega
          · exact absurd y nn
      omega
    · omega
  · have z := ho a
    simp only [coL_append, cuL_append]
    refine ⟨fun q => .inl (by omega), fun q => ?_⟩
    by_cases q2 : 0 < cuL a ts
    · rcases hu a q2 with y | y
      · exact .inr (.inl (by omega))
      · exact .inr (.inr y)
    · exact .inr (.inl (by omega))
end
theorem rdO2 {K : PySem.W.Frag} {H : Hp} {t : T} {o : Fl} {ds : List D} (hs : t.sat K H) (he : t.er = .n (.lst o) ds) (hn : nw o = true) : ∃ a ts, t = .n (.lst o) a ts ∧ erL ts = ds ∧ H a = some (.lst (vals ts)) ∧ satL K H ts := by
  cases t with
  | s v => rw [T.er] at he; cases he
  | n k a ts =>
    rw [T.er] at he
    cases he
    exact ⟨a, ts, rfl, rfl, hs.1.1, hs.2⟩
  | w z k a ts =>
    rw [T.er] at he
    cases k <;> simp [Kd.wri] at he
    obtain ⟨e1, _⟩ := he
    rw [← e1] at hn
    cases hn
def sExt (i : Nat) (pm : Env → Option (List Nat)) (me : PM) : SM := fun env => (pm env).bind fun p => (me env).bind fun x => match x with
  | .n (.lst o) es => if (nw o && pureL es) = true then (env[i]?.join).bind fun d => (modD p (fun ds => if ds.length + es.length < 16777216 then some (ds ++ es) else none) d).map fun d' => (.nx, env.set i (some d')) else none
  | _ => none
theorem ss_extend {X : Cx} {a e : Expr} {i : Nat} {pm : Env → Option (List Nat)} {me : PM} {P : List Nat} {pos apos cpos : Pos} (ho : SPl X i a pm) (h : SB X e me) (hbase : attributeBase a "extend" X.env (eval a X.env) = eval a X.env := by rfl)
    (hfew : ((backTo cpos (starEach [e] X.env)).all (fun x => !x.1) && (backToKw cpos (keywordEach [] X.env)).all (fun x => x.1.isSome)
      && decide (([e] : List Expr).length + ([] : List Keyword).length + (if ([] : List Keyword).isEmpty then 0 else 1) < 30)) = true := by rfl)
    (hline : (apos.endLine == cpos.line) = true := by rfl) (hs : starEach [e] X.env = (false, eval e X.env) :: starEach [] X.env := by rfl) (hplain : (backTo cpos (starEach [] X.env)).any (·.1) = false := by rfl)
    (hsw : swapsWith (.Call (.Attribute a "extend" apos) [e] [] cpos) none pos.line X.env = pure false := by rfl) : SS X P (.Expr (.Call (.Attribute a "extend" apos) [e] [] cpos) pos) (sExt i pm me) :=
  PS.weak (ps_expr (pe_bm PySem.F.plainAttrs_list PySem.F.slot_list_extend PySem.F.type_list_extend mt_extend ho.pe (pa_cons h pa_nil hs) hbase hfew hline hs hplain) hsw) fun De σ H ⟨env, o, e', hm, r, s, w, k⟩ => by
    obtain ⟨p, hp, hm⟩ := bind_some hm
    obtain ⟨x, hx, hm⟩ := bind_some hm
    split at hm
    case h_2 => cases hm
    rename_i o1 es
    obtain ⟨hc, hm⟩ := if_some' hm
    rw [Bool.and_eq_true] at hc
    obtain ⟨d, hd, hm⟩ := bind_some hm
    obtain ⟨d', hmd, e1⟩ := map_some hm
    cases e1
    obtain ⟨t, h1, rfl⟩ := join_get hd
    unfold tDrop tBM
    refine goPl ho.ok (Cf.start r s w) hp fun t' u H1 h1' h2 x1 c1 => ?_
    rw [h1] at h1'
    cases h1'
    obtain ⟨a1, ts1, M1⟩ := mod_run (c1.satE.get h1) hmd
    have ha1 := M1.at_
    rw [h2] at ha1
    cases ha1
    refine ⟨.inl ⟨rfl, _, .inl (.inl M1.nd)⟩, ?_⟩
    unfold tCons
    refine goB c1 hx fun v H2 e1 x2 s2 b2 c2 => ?_
    obtain ⟨b, tv, rfl, f2, f3, f4⟩ := rdO2 s2 e1 hc.1
    subst f2
    obtain ⟨a2, ts, M⟩ := mod_run (c2.satE.get h1) hmd
    have := M.at_
    rw [h2] at this
    cases this
    obtain ⟨ds', g1, _⟩ := M.new
    obtain ⟨g2, rfl⟩ := if_some g1
    refine ⟨a1, b, _, _, rfl, rfl, M.nd, f3, Nat.le_of_lt (sizeLine_lt (by rw [List.length_map, List.length_map, ← erL_length, ← erL_length]; exact g2)), ?_⟩
    have hz : ∀ q, coL q tv = 0 := fun q => pureL_co tv hc.2
    have c3 : Cf X.K H env σ H2 (tv ++ []) env := c1.addPure x2 f4 hz fun q hq => (b2 q).2 (by rw [T.cu]; omega)
    obtain ⟨env2, w1, _, c4⟩ := mut_step (G := tv) (F' := []) (G' := []) (ts' := ts1 ++ tv) c3 h1 M (by rw [g1, erL_append]) (satL_append.mpr ⟨M.sat, f4⟩) trivial (fun b => by simp only [coL_append, coL]; have := hz b; omega)
      (fun b h => by have := M.leu b; have := cuE_get (a := b) h1; simp only [cuL_append, cuL] at h ⊢; omega)
    have ev : vals (ts1 ++ tv) = vals ts1 ++ vals tv := by simp [vals]
    rw [ev] at c4
    exact k [] σ env2 _ w1 c4 (fun _ _ => rfl) rfl
end Ow

namespace Ow
open PySem L2 PySem.Spec PyProof.Rows

/-! ### parts that change things, within lists, tuples, calls, loops -/
section
variable {K : PySem.W.Frag} {H0 H H' : Hp} {env0 env : TEnv} {σ : L2.St} {F : List T} {t : T}
theorem Cf.frzF (c : Cf K H0 env0 σ H (t :: F) env) : Cf K H0 env0 σ H (t.frz :: F) env := by
  refine ⟨c.rel, ⟨frz_sat t c.satF.1, c.satF.2⟩, c.satE, fun a => ?_, ⟨c.stp.1, c.stp.2.1, fun a => ?_⟩⟩
  · have w := c.wf a
    simp only [coL, cuL, frz_co, frz_cu] at w ⊢
    omega
  · have s := c.stp.2.2 a
    simp only [coL, cuL, frz_co, frz_cu] at s ⊢
    constructor
    · intro h; exact s.1 (by omega)
    · intro h
      by_cases q : 0 < t.co a + (coL a F + coE a env)
      · rcases s.1 (by omega) with z | z
        · exact .inl z
        · exact .inr (.inr z)
      · exact s.2 (by omega)
end
def allEv : List As → Bool
  | [] => true
  | .ev _ :: r => allEv r
  | _ :: _ => false
theorem argV_ev {σ : L2.St} : ∀ {as : List As} {F : List T} {vs : List V}, allEv as = true → ArgV σ as F vs → vs = vals F
  | [], F, vs, _, h => by rw [h.1, h.2]; rfl
  | .ev m :: r, [], vs, _, h => h.elim
  | .ev m :: r, t :: F, vs, ha, h => by
    obtain ⟨vs', rfl, h2⟩ := h
    rw [argV_ev (as := r) ha h2]; rfl
theorem slots_ev : ∀ {as : List As}, allEv as = true → muS as ++ boS as = []
  | [], _ => rfl
  | .ev m :: r, h => by
    have := slots_ev (as := r) h
    rw [muS, boS]; exact this
def eMk (k : Kd) (as : List As) : EM := fun env => if allEv as = true then (evA as env).bind fun x => if x.1.length ≤ 16777216 then some (.n k x.1, x.2) else none else none
section
variable {X : Cx} {es : List Expr} {as : List As} {U : List Nat} {pos : Pos}
theorem mk_rd {k : Kd} (hk : k.isw = false) {σ : L2.St} {H : Hp} {Q : VK} (h : trE X.K U (eMk k as) σ H Q) : trEA X.K U as σ H fun xs H1 => xs.length ≤ sizeLine ∧ ∀ p, H1 p = none → Q (.ref p) (upd H1 p (k.ho xs)) := by
  obtain ⟨env, d, e', hm, r, s, w, kk⟩ := h
  unfold eMk at hm
  obtain ⟨ha, hm⟩ := if_some' hm
  obtain ⟨x, hx, hm⟩ := bind_some hm
  obtain ⟨hl, e1⟩ := if_some hm
  cases e1
  refine ⟨env, x.1, x.2, hx, r, s, w, by rw [slots_ev ha]; simp, fun F env1 H1 vs e1 e2 c1 u1 av => ?_⟩
  rw [argV_ev ha av]
  refine ⟨sizeLine_le (by rw [List.length_map, ← erL_length, e1]; exact hl), fun p hp => ?_⟩
  have c2 : Cf X.K H env σ H1 (F ++ []) env1 := by rw [List.append_nil]; exact c1
  exact kk (.n k p F) env1 _ (by rw [T.er, e1]) e2 (c2.node hk hp) u1
theorem se_lstA (ha : SEA X U es as) : SE X U (.List es pos) (eMk (.lst .o) as) := PE.weak (pe_lst ha) fun σ H Q h => mk_rd rfl h
theorem se_tupA {x1} (ha : SEA X U es as) : SE X U (.Tuple es x1 pos) (eMk .tup as) := PE.weak (pe_tup ha) fun σ H Q h => mk_rd rfl h
/-! a def that changes nothing, called with parts that do -/
def pM (f : FM) : FMu := fun ds => (f (frzD ds)).map fun d => (d, [])
theorem ok_pM {P : Program} {w : World} {K : PySem.W.Frag} {mg : Str → Option Value} {base : Heap} {CX : CXT} {k n : Nat} {f : Addr} {fd : FuncData} {ps : List Str} {fm : FM} (F : FnOk P w K mg base CX k f fd ps (spP K n fm)) : FnOk P w K mg base CX k f fd ps (spM K n [] (pM fm)) :=
  F.imp fun vs H Q E ⟨ts, d, os, e1, e2, s, wf, hf, k⟩ => by
    obtain ⟨d', hd, e3⟩ := map_some hf
    cases e3
    refine ⟨ts, d, e1, e2, s, hd, fun t H' e4 x st ow => k t [] H' e4 rfl (fun j i h => by cases h) st trivial (fun a => ?_) ⟨fun a o h _ => x a o h, fun a h => Evl.fresh_back x h, fun a => ?_⟩⟩
    · have := (ow a).1
      simp only [coL, cuL]
      omega
    · simp only [coL, cuL]
      exact ⟨fun h => .inr ((ow a).2.1 (by omega)), fun h => (ow a).2.2 (by omega)⟩
/-! a loop over what a part that changes things tells -/
def sForE (me : EM) (g : Tg) (mb : SM) : SM := fun env => (me env).bind fun x => (asL x.1.frz).bind fun ds => if pureL ds = true then forD g mb ds x.2 else none
def trJE (K : PySem.W.Frag) (me : EM) : TI := fun σ H R => ∃ env d e' ds, me (erE env) = some (d, e') ∧ asL d.frz = some ds ∧ Rel σ env ∧ SatE K H env ∧ WfF [] env ∧ ∀ J src env1 H1, erE env1 = e' → Cf K H env σ H1 src env1 → Wk K J src ds → R J H1
theorem sj_effect {tg e : Expr} {me : EM} (h : SE X [] e me) : PI X tg e (trJE X.K me) := PI.weak (pi_list h) fun σ H R ⟨env, d, e', ds, hm, hd, r, s, w, k⟩ => by
  obtain ⟨o, h2⟩ := asL_some hd
  refine goE (d := d) (e' := e') (Cf.start r s w) hm fun t env1 H1 e1 e2 c1 _ => ?_
  subst e1
  rw [← frz_er] at h2
  obtain ⟨a, f1, f2, wk⟩ := wk_list (frz_sat t c1.satF.1) h2
  rw [frz_val] at f1
  exact ⟨a, f1, ⟨_, f2⟩, k _ [t.frz] env1 H1 e2 c1.frzF wk⟩
theorem ss_forE {tg iter : Expr} {body : List Stmt} {P : List Nat} {me : EM} {g : Tg} {mS : SM} (hc : X.calm = true) (hp : PassesOwn (model X.prog X.w) X.A X.env X.xe) (hi : SE X [] iter me) (hg : SG X tg g) (hb : SSs X P body mS) (hP : ∀ i ∈ g.sl, i ∉ P) (hs : ∀ x, foldedSetIterable iter X.env x = pure x := by intro _; rfl) :
    SS X P (.For tg iter body [] pos) (sForE me g mS) := PS.weak (ps_for hp hc (sj_effect hi) hg hb hs) fun De σ H ⟨env, o, e', hm, r, s, w, k⟩ => by
  obtain ⟨x, hx, hm⟩ := bind_some hm
  obtain ⟨ds, hds, hm⟩ := bind_some hm
  obtain ⟨hpu, hm⟩ := if_some' hm
  refine ⟨env, x.1, x.2, ds, hx, hds, r, s, w, fun J src env0 H1 e0 c0 wk => ?_⟩
  rw [← e0] at hm
  refine ⟨fun i mm σi Hi => i ≤ ds.length ∧ mm = ds.length - i ∧ ∃ envi, forD g mS (ds.drop i) (erE envi) = some (o, e') ∧ Cf X.K H env σi Hi src envi ∧ ∀ j ∈ P, σi[j]? = σ[j]?,
    ⟨ds.length, Nat.zero_le _, rfl, env0, hm, c0, fun _ _ => rfl⟩, fun i mm σi Hi W => ?_⟩
  obtain ⟨le, ms, envi, hf, c, pi⟩ := W
  by_cases hlt : i < ds.length
  · refine .inr ⟨wk.go i Hi c.satF hlt, fun σ' H' => ∃ m', m' < mm ∧ (i + 1 ≤ ds.length ∧ m' = ds.length - (i + 1) ∧ ∃ envi, forD g mS (ds.drop (i + 1)) (erE envi) = some (o, e') ∧ Cf X.K H env σ' H' src envi ∧ ∀ j ∈ P, σ'[j]? = σ[j]?), fun σ' H' h => h, fun x H3 hy => ?_⟩
    have hd := List.getElem?_eq_getElem hlt
    obtain ⟨t, rfl, et, x3, s3, c3, u3⟩ := wk.yld i Hi x H3 c.satF hy _ hd
    rw [List.drop_eq_getElem_cons hlt, forD] at hf
    obtain ⟨e1, hb1, hf⟩ := bind_some hf
    obtain ⟨y, hb2, hf⟩ := bind_some hf
    rw [← et] at hb1
    have pt : t.er.pure = true := by rw [et]; exact pureL_at hpu hd
    refine g_run g t σi envi e1 _ c.rel s3 hb1 fun σ2 env2 B => ?_
    have c2 : Cf X.K H env σ2 H3 src env2 := Cf.bind c x3 (fun a => pure_co t pt) (fun a q => (u3 a q).elim .inl fun z => .inr (.inr z)) s3 B
    refine ⟨env2, y.1, y.2, by rw [B.er]; exact hb2, c2.rel, c2.satE, c2.base, fun F σ3 env3 H4 e3 c4 p4 => ?_⟩
    have c5 := c2.step c4
    have p5 : ∀ j ∈ P, σ3[j]? = σ[j]? := fun j hj => (p4 j hj).trans ((B.out j fun z => hP j z hj).1.trans (pi j hj))
    obtain ⟨yo, ye⟩ := y
    cases yo with
    | nx =>
      intro hF
      subst hF
      exact ⟨mm - 1, by omega, hlt, by omega, env3, by rw [e3]; exact hf, c5, p5⟩
    | ct =>
      intro hF
      subst hF
      exact ⟨mm - 1, by omega, hlt, by omega, env3, by rw [e3]; exact hf, c5, p5⟩
    | bk =>
      intro hF
      subst hF
      cases hf
      exact k [] σ3 env3 H4 e3 c5.toNil p5 rfl
    | rt d =>
      cases hf
      exact k F σ3 env3 H4 e3 c5.dropB p5
  · have hi3 : ds.length ≤ i := Nat.le_of_not_lt hlt
    refine .inl ⟨wk.stop i Hi c.satF hi3, ?_⟩
    rw [List.drop_eq_nil_of_le hi3, forD] at hf
    cases hf
    exact k [] σi envi Hi rfl c.toNil pi rfl
/-! xs.pop() -/
def ePop (i : Nat) (pm : Env → Option (List Nat)) : EM := fun env => (pm env).bind fun p => (env[i]?.join).bind fun d => (atD p d).bind fun c => match c with
  | .n (.lst .o) ds => (ds[ds.length - 1]?).bind fun z => (modD p (fun _ => some ds.dropLast) d).map fun d' => (z, env.set i (some d'))
  | _ => none
theorem map_dropLast {α β : Type} (f : α → β) (xs : List α) : xs.dropLast.map f = (xs.map f).dropLast := (List.map_dropLast ..)
theorem dl_erase {α : Type} : ∀ xs : List α, xs.dropLast = xs.eraseIdx (xs.length - 1)
  | [] => rfl
  | [x] => rfl
  | x :: y :: xs => by
    have := dl_erase (y :: xs)
    rw [List.dropLast_cons₂, this]
    show _ = (x :: y :: xs).eraseIdx ((y :: xs).length - 1 + 1)
    rw [List.eraseIdx_cons_succ]
theorem coL_last {ts : List T} {u : T} {b : Addr} (h : ts[ts.length - 1]? = some u) : coL b ts.dropLast + u.co b = coL b ts := by
  have : ts.dropLast = ts.eraseIdx (ts.length - 1) := dl_erase ts
  rw [this]; exact coL_erase h
theorem cuL_last {ts : List T} {u : T} {b : Addr} (h : ts[ts.length - 1]? = some u) : cuL b ts.dropLast + u.cu b = cuL b ts := by
  have : ts.dropLast = ts.eraseIdx (ts.length - 1) := dl_erase ts
  rw [this]; exact cuL_erase h
theorem se_pop {a : Expr} {i : Nat} {pm : Env → Option (List Nat)} {apos cpos : Pos} (ho : SPl X i a pm) (hU : i ∉ U) (hbase : attributeBase a "pop" X.env (eval a X.env) = eval a X.env := by rfl)
    (hline : (apos.endLine == cpos.line) = true := by rfl) : SE X U (.Call (.Attribute a "pop" apos) [] [] cpos) (ePop i pm) :=
  PE.weak (pe_bm0 PySem.F.plainAttrs_list PySem.F.slot_list_pop PySem.F.type_list_pop mt_pop ho.pe hbase (hline := hline)) fun σ H Q ⟨env, zd, e', hm, r, s, w, k⟩ => by
    obtain ⟨p, hp, hm⟩ := bind_some hm
    obtain ⟨d, hd, hm⟩ := bind_some hm
    obtain ⟨c, hc, hm⟩ := bind_some hm
    split at hm
    case h_2 => cases hm
    rename_i ds
    obtain ⟨z, hz, hm⟩ := bind_some hm
    obtain ⟨d', hmd, e1⟩ := map_some hm
    cases e1
    obtain ⟨t, h1, rfl⟩ := join_get hd
    unfold tBM0
    refine goPl ho.ok (Cf.start r s w) hp fun t' u H1 h1' h2 x1 c1 => ?_
    rw [h1] at h1'
    cases h1'
    obtain ⟨a1, ts1, M⟩ := mod_run (c1.satE.get h1) hmd
    have ha1 := M.at_
    rw [h2] at ha1
    cases ha1
    refine ⟨.inl ⟨rfl, _, .inl (.inl M.nd)⟩, ?_⟩
    obtain ⟨u2, q1, q2, q3⟩ := atD_run (c1.satE.get h1) hc
    rw [h2] at q1
    cases q1
    have q4 : erL ts1 = ds := by rw [T.er] at q2; cases q2; rfl
    obtain ⟨zt, hzt, rfl⟩ := er_at q4 hz
    have ll : ds.length = ts1.length := by rw [← q4, erL_length]
    rw [ll] at hzt
    refine ⟨a1, vals ts1, zt.val, rfl, rfl, M.nd, by rw [List.length_map]; exact vals_at hzt, ?_⟩
    obtain ⟨env2, w1, w2, c3⟩ := mut_step (G := []) (F' := []) (G' := [zt]) (ts' := ts1.dropLast) c1 h1 M (by rw [erL_map, map_dropLast, ← erL_map, q4]) (satL_iff.mpr fun y hy => satL_iff.mp M.sat y (List.dropLast_subset _ hy)) ⟨sat_at M.sat hzt, trivial⟩
      (fun b => by have := coL_last (b := b) hzt; simp only [coL]; omega) (fun b hb => by have := cuL_last (b := b) hzt; have := M.leu b; have := cuE_get (a := b) h1; simp only [cuL, cuL_append] at hb ⊢; omega)
    have ev : vals ts1.dropLast = (vals ts1).dropLast := map_dropLast _ _
    rw [ev] at c3
    exact k zt env2 _ rfl w1 c3 fun y hy => w2 y fun q => hU (q ▸ hy)
end
end Ow

namespace Ow
open PySem L2 PySem.Spec PyProof.Rows

/-! ### a, b = e: of what is new, of what changes things; of a list -/
def sAsgE (g : Tg) (m : EM) : SM := fun env => (m env).bind fun x => (bD g x.1 x.2).map fun e' => (.nx, e')
def sAsgL (gs : List Tg) (m : PM) : SM := fun env => (m env).bind fun d => match d with
  | .n (.lst _) ds => if pureL ds = true ∧ ds.length = gs.length then (bDs gs ds env).map fun e' => (.nx, e') else none
  | _ => none
section
variable {X : Cx} {tg e : Expr} {es : List Expr} {m : PM} {me : EM} {pos tpos : Pos} {P : List Nat}
theorem ss_asgE {g : Tg} (he : SE X [] e me) (hg : SG X tg g) (hP : ∀ i ∈ g.sl, i ∉ P) (hs : swapsWithSole [tg] e pos.line X.env = pure false := by rfl) (hw : swappedStores [tg] e X.env = pure none := by rfl) (h1 : (assignEach [tg] X.env).map (·.2) = [assign tg X.env] := by rfl) :
    SS X P (.Assign [tg] e pos) (sAsgE g me) := PS.weak (ps_asg he hg hs hw h1) fun De σ H ⟨env, o, e', hm, r, s, w, k⟩ => by
  obtain ⟨x, hx, hm⟩ := bind_some hm
  obtain ⟨e2, h2, e3⟩ := map_some hm
  cases e3
  refine goE (d := x.1) (e' := x.2) (Cf.start r s w) hx fun t env1 H1 e1 e2 c1 u1 => ?_
  rw [← e1, ← e2] at h2
  refine g_run g t σ env1 e' _ c1.rel c1.satF.1 h2 fun σ' env' B => ?_
  have c2 : Cf X.K H env σ' H1 [] env' := c1.less B.rel trivial (fun u hu => (B.sat u hu).elim (fun z => c1.satE u z) id) (fun a => by have := B.co a; simp only [coL]; omega) (fun a => by have := B.cu a; simp only [cuL]; omega)
  exact k [] σ' env' H1 B.er c2 (fun i hi => (B.out i fun z => hP i z hi).1) rfl
theorem ss_asgL {k : Nat} {gs : List Tg} (hc : X.calm = true) (he : SP X e m) (hg : SGs X es gs) (hP : ∀ i ∈ slL gs, i ∉ P) (hn : (assignEach es X.env).length = gs.length := by rfl) (hst : (assignEach es X.env).findIdx? (·.1) = none := by rfl)
    (hs : swapsWithSole [.Tuple es k tpos] e pos.line X.env = pure false := by rfl) (hw : swappedStores [.Tuple es k tpos] e X.env = pure none := by rfl) (h1 : (assignEach [.Tuple es k tpos] X.env).map (·.2) = [assign (.Tuple es k tpos) X.env] := by rfl) :
    SS X P (.Assign [.Tuple es k tpos] e pos) (sAsgL gs m) := PS.weak (ps_asg he (pg_lst hc hg hn hst) hs hw h1) fun De σ H ⟨env, o, e', hm, r, s, w, k⟩ => by
  obtain ⟨x, hx, hm⟩ := bind_some hm
  split at hm
  case h_2 => cases hm
  rename_i o1 ds
  obtain ⟨hc1, hm⟩ := if_some' hm
  obtain ⟨e2, h2, e3⟩ := map_some hm
  cases e3
  refine ⟨env, _, hx, r, s, fun t H1 e1 x1 s1 o1 => ?_⟩
  obtain ⟨a, ts, f1, f2, f3, f4, f5, f6⟩ := rdL s1 e1
  refine ⟨a, vals ts, f1, f3, by rw [List.length_map, ← erL_length, f2]; exact hc1.2, ?_⟩
  rw [← f2] at h2
  refine gs_run gs ts σ env e' _ r f4 h2 fun σ' env' B => ?_
  have zc : ∀ a, coL a ts = 0 := fun a => pureL_co ts (by rw [f2]; exact hc1.1)
  have c0 : Cf X.K H env σ H1 (ts ++ []) env := (Cf.start r s w).addPure x1 f4 zc fun q hq => by
    rcases (o1 q).2.2 (Nat.lt_of_lt_of_le hq (f6 q)) with z | z
    · exact .inl z
    · exact .inr z
  rw [List.append_nil] at c0
  have c2 : Cf X.K H env σ' H1 [] env' := c0.less B.rel trivial (fun u hu => (B.sat u hu).elim (fun z => c0.satE u z) id) (fun a => by have := B.co a; simp only [coL]; omega) (fun a => by have := B.cu a; simp only [cuL]; omega)
  exact k [] σ' env' H1 B.er c2 (fun i hi => (B.out i fun z => hP i z hi).1) rfl
end
end Ow

namespace Ow
open PySem L2 PySem.Spec PyProof.Rows

/-! ### a loop over an own list whose name is not read in it: it stays an own one -/
def sForH (i : Nat) (g : Tg) (mb : SM) : SM := fun env => (env[i]?.join).bind fun d => (asL d).bind fun ds => if pureL ds = true then (forD g mb ds (env.set i none)).map fun x => (x.1, x.2.set i (some d)) else none
section
variable {X : Cx} {pos p : Pos} {P : List Nat} {mb : SM} {body : List Stmt} {tg : Expr} {g : Tg}
theorem Cf.back {K : PySem.W.Frag} {H0 H : Hp} {env0 env : TEnv} {σ : L2.St} {t : T} {F : List T} {i : Nat} (c : Cf K H0 env0 σ H (F ++ [t]) env) (hi : σ[i]? = some (some t.val)) : Cf K H0 env0 σ H F (env.set i (some t)) := by
  have hil : i < env.length := by
    have := c.rel.1
    have q := (List.getElem?_eq_some_iff.mp hi).1
    omega
  have sF := satL_append.mp c.satF
  have r2 : Rel σ (env.set i (some t)) := by
    refine ⟨by rw [List.length_set, c.rel.1], fun q u hu => ?_⟩
    rw [List.getElem?_set] at hu
    by_cases e : i = q
    · subst e
      rw [if_pos rfl, if_pos hil] at hu
      cases hu
      exact hi
    · rw [if_neg e] at hu
      exact c.rel.2 q u hu
  refine c.less r2 sF.1 (c.satE.set fun u hu => by cases hu; exact sF.2.1) (fun a => ?_) fun a => ?_
  · have := set_co (env := env) (j := i) (t := t) (a := a)
    simp only [coL_append, coL]
    omega
  · have := set_cu (env := env) (j := i) (t := t) (a := a)
    simp only [cuL_append, cuL]
    omega
theorem ss_forH {x : Str} (i : Nat) (hc : X.calm = true) (hp : PassesOwn (model X.prog X.w) X.A X.env X.xe) (hg : SG X tg g) (hb : SSs X (i :: P) body mb) (hP : ∀ j ∈ g.sl, j ∉ i :: P) (hi : X.N[i]? = some x := by rfl) (hv : Vis X.env.scope x := by first | exact .inl rfl | exact .inr (.inl rfl) | exact .inr (.inr rfl))
    (hd : (x == ("__debug__" : Str)) = false := by decide) (hcd : (x == ("__classdict__" : Str)) = false := by decide) (hs : ∀ z, foldedSetIterable (.Name x p) X.env z = pure z := by intro _; rfl) :
    SS X P (.For tg (.Name x p) body [] pos) (sForH i g mb) :=
  PS.weak (ps_for hp hc (pi_list (pe_var (i := i) hi hv hd hcd)) hg hb hs) fun De σ H ⟨env, o, e', hm, r, s, w, k⟩ => by
    obtain ⟨d, hd, hm⟩ := bind_some hm
    obtain ⟨ds, hds, hm⟩ := bind_some hm
    obtain ⟨hpu, hm⟩ := if_some' hm
    obtain ⟨z, hz, e1⟩ := map_some hm
    cases e1
    obtain ⟨t, h1, h2⟩ := join_get hd
    obtain ⟨fl, h3⟩ := asL_some hds
    subst h3
    obtain ⟨a, f1, f2, wk⟩ := wk_list (s.get h1) h2
    have hσi : σ[i]? = some (some t.val) := r.2 i _ h1
    refine ⟨t.val, hσi, a, f1, ⟨_, f2⟩, ?_⟩
    have c0 : Cf X.K H env σ H [t] (env.set i none) := (Cf.start r s w).less r.drop ⟨s.get h1, trivial⟩ (s.set fun u hu => by cases hu) (fun b => by
        have := coE_set (a := b) none h1
        simp only [coL, oT] at this ⊢; omega) fun b => by
        have := cuE_set (a := b) none h1
        simp only [cuL, oT] at this ⊢; omega
    refine ⟨fun n mm σi Hi => n ≤ ds.length ∧ mm = ds.length - n ∧ ∃ envi, forD g mb (ds.drop n) (erE envi) = some z ∧ Cf X.K H env σi Hi [t] envi ∧ σi[i]? = some (some t.val) ∧ ∀ j ∈ P, σi[j]? = σ[j]?,
      ⟨ds.length, Nat.zero_le _, rfl, env.set i none, by rw [erE_set]; exact hz, c0, hσi, fun _ _ => rfl⟩, fun n mm σi Hi W => ?_⟩
    obtain ⟨le, ms, envi, hf, c, pi, pq⟩ := W
    by_cases hlt : n < ds.length
    · refine .inr ⟨wk.go n Hi c.satF hlt, fun σ' H' => ∃ m', m' < mm ∧ (n + 1 ≤ ds.length ∧ m' = ds.length - (n + 1) ∧ ∃ envi, forD g mb (ds.drop (n + 1)) (erE envi) = some z ∧ Cf X.K H env σ' H' [t] envi ∧ σ'[i]? = some (some t.val) ∧ ∀ j ∈ P, σ'[j]? = σ[j]?), fun σ' H' h => h, fun x H3 hy => ?_⟩
      have hd := List.getElem?_eq_getElem hlt
      obtain ⟨t3, rfl, et, x3, s3, c3, u3⟩ := wk.yld n Hi x H3 c.satF hy _ hd
      rw [List.drop_eq_getElem_cons hlt, forD] at hf
      obtain ⟨e1, hb1, hf⟩ := bind_some hf
      obtain ⟨y, hb2, hf⟩ := bind_some hf
      rw [← et] at hb1
      have pt : t3.er.pure = true := by rw [et]; exact pureL_at hpu hd
      refine g_run g t3 σi envi e1 _ c.rel s3 hb1 fun σ2 env2 B => ?_
      have c2 : Cf X.K H env σ2 H3 [t] env2 := Cf.bind c x3 (fun a => pure_co t3 pt) (fun a q => (u3 a q).elim .inl fun z => .inr (.inr z)) s3 B
      have pB : ∀ j ∈ i :: P, σ2[j]? = σi[j]? := fun j hj => (B.out j fun z => hP j z hj).1
      refine ⟨env2, y.1, y.2, by rw [B.er]; exact hb2, c2.rel, c2.satE, c2.base, fun F σ3 env3 H4 e3 c4 p4 => ?_⟩
      have c5 := c2.step c4
      have pi5 : σ3[i]? = some (some t.val) := ((p4 i (by simp)).trans (pB i (by simp))).trans pi
      have p5 : ∀ j ∈ P, σ3[j]? = σ[j]? := fun j hj => ((p4 j (List.mem_cons_of_mem _ hj)).trans (pB j (List.mem_cons_of_mem _ hj))).trans (pq j hj)
      obtain ⟨yo, ye⟩ := y
      have fin : ∀ (F : List T), Cf X.K H env σ3 H4 (F ++ [t]) env3 → Cf X.K H env σ3 H4 F (env3.set i (some t)) := fun F c => c.back pi5
      have er2 : ∀ e'', erE env3 = e'' → erE (env3.set i (some t)) = e''.set i (some (D.n (.lst fl) ds)) := fun e'' q => by rw [erE_set, q, Option.map_some, h2]
      cases yo with
      | nx =>
        intro hF
        subst hF
        exact ⟨mm - 1, by omega, hlt, by omega, env3, by rw [e3]; exact hf, c5, pi5, p5⟩
      | ct =>
        intro hF
        subst hF
        exact ⟨mm - 1, by omega, hlt, by omega, env3, by rw [e3]; exact hf, c5, pi5, p5⟩
      | bk =>
        intro hF
        subst hF
        cases hf
        exact k [] σ3 _ H4 (er2 _ e3) (fin [] c5) p5 rfl
      | rt d =>
        cases hf
        exact k F σ3 _ H4 (er2 _ e3) (fin F c5) p5
    · have hi3 : ds.length ≤ n := Nat.le_of_not_lt hlt
      refine .inl ⟨wk.stop n Hi c.satF hi3, ?_⟩
      rw [List.drop_eq_nil_of_le hi3, forD] at hf
      cases hf
      exact k [] σi _ Hi (by rw [erE_set, Option.map_some, h2]) (c.back (F := []) pi) pq rfl
/-! ### + of lists that hold own things: both are used up -/
def eCat (m1 m2 : EM) : EM := fun env => (m1 env).bind fun x => (m2 x.2).bind fun y => (fCat x.1 y.1).map fun rs => (.n (.lst .o) rs, y.2)
theorem cf_open {K : PySem.W.Frag} {H0 H : Hp} {env0 env : TEnv} {σ : L2.St} {a b : Addr} {o o' : Fl} {ts us : List T} (c : Cf K H0 env0 σ H [.n (.lst o') b us, .n (.lst o) a ts] env) : Cf K H0 env0 σ H ((ts ++ us) ++ []) env :=
  c.less c.rel (satL_append.mpr ⟨satL_append.mpr ⟨c.satF.2.1.2, c.satF.1.2⟩, trivial⟩) c.satE (fun q => by simp only [coL_append, coL, T.co]; omega) fun q => by simp only [cuL_append, cuL, T.cu]; omega
theorem se_cat {a b : Expr} {m1 m2 : EM} {U : List Nat} (ha : SE X U a m1) (hb : SE X U b m2) : SE X U (.BinOp a .Add b pos) (eCat m1 m2) := PE.weak (pe_op op_cat ha hb) fun σ H Q ⟨env, d, e', hm, r, s, w, k⟩ => by
  obtain ⟨x, hx, hm⟩ := bind_some hm
  obtain ⟨y, hy, hm⟩ := bind_some hm
  obtain ⟨rs, hr, e1⟩ := map_some hm
  cases e1
  refine goE (d := x.1) (e' := x.2) (Cf.start r s w) hx fun t1 env1 H1 e1 e2 c1 u1 => ?_
  rw [← e2] at hy
  refine goE (d := y.1) (e' := y.2) c1 hy fun t2 env2 H2 e3 e4 c2 u2 => ?_
  unfold fCat at hr
  split at hr
  · rename_i o ds o' es g1 g2
    obtain ⟨hc, rfl⟩ := if_some hr
    rw [Bool.and_eq_true, Bool.and_eq_true] at hc
    obtain ⟨a1, ts, rfl, f2, f3, f4⟩ := rdO2 c2.satF.2.1 (e1.trans g1) hc.1.1
    obtain ⟨a2, us, rfl, h2, h3, h4⟩ := rdO2 c2.satF.1 (e3.trans g2) hc.1.2
    have hlen : (vals ts).length + (vals us).length ≤ 16777216 := by
      have := of_decide_eq_true hc.2
      rw [← f2, ← h2, erL_length, erL_length] at this
      rw [List.length_map, List.length_map]; exact this
    refine ⟨a1, a2, vals ts, vals us, rfl, rfl, f3, h3, sizeLine_le hlen, fun p hp => ?_⟩
    have c3 := cf_open c2
    have c4 := c3.node (k := .lst .o) rfl hp
    have ev : vals (ts ++ us) = vals ts ++ vals us := by simp [vals]
    rw [ev] at c4
    exact k (.n (.lst .o) p (ts ++ us)) env2 _ (by rw [T.er, erL_append, f2, h2]) e4 c4 (fun i hi => (u2 i hi).trans (u1 i hi))
  · cases hr
/-! ### what is told, never to be changed from here on -/
def mFrz (m : PM) : PM := fun env => (m env).map D.frz
theorem sp_frz {e : Expr} {m : PM} (h : SP X e m) : SP X e (mFrz m) := PE.weak h fun σ H Q ⟨env, d, hm, r, s, k⟩ => by
  obtain ⟨d', hd, rfl⟩ := map_some hm
  refine ⟨env, d', hd, r, s, fun t H' e1 x st ow => ?_⟩
  have := k t.frz H' (by rw [frz_er, e1]) x (frz_sat t st) fun a => by
    rw [frz_co, frz_cu]
    have := ow a
    refine ⟨⟨Nat.zero_le _, .inl rfl⟩, fun z => absurd z (Nat.lt_irrefl _), fun z => ?_⟩
    by_cases q : 0 < t.co a
    · exact .inr (this.2.1 q)
    · exact this.2.2 (by omega)
  rw [frz_val] at this
  exact this
def eFrz (m : EM) : EM := fun env => (m env).map fun x => (x.1.frz, x.2)
theorem se_frz {e : Expr} {m : EM} {U : List Nat} (h : SE X U e m) : SE X U e (eFrz m) := PE.weak h fun σ H Q ⟨env, d, e', hm, r, s, w, k⟩ => by
  obtain ⟨y, hy, e1⟩ := map_some hm
  cases e1
  refine ⟨env, y.1, y.2, hy, r, s, w, fun t env' H' e1 e2 c u => ?_⟩
  have := k t.frz env' H' (by rw [frz_er, e1]) e2 c.frzF u
  rw [frz_val] at this
  exact this
/-! ### an item of what is new, taken out of it -/
def eItemM (m1 m2 : EM) : EM := fun env => (m1 env).bind fun x => (m2 x.2).bind fun y => (fItem x.1 y.1).map fun d => (d, y.2)
theorem se_itemM {a b : Expr} {m1 m2 : EM} {U : List Nat} (ha : SE X U a m1) (hb : SE X U b m2) (hs : PlainIx b := by exact fun _ _ => rfl) : SE X U (.Subscript a b pos) (eItemM m1 m2) := PE.weak (pe_ix ix_it ha hb hs) fun σ H Q ⟨env, d, e', hm, hr, s, w, k⟩ => by
  obtain ⟨x, hx, hm⟩ := bind_some hm
  obtain ⟨y, hy, hm⟩ := bind_some hm
  obtain ⟨d', hd, e1⟩ := map_some hm
  cases e1
  refine goE (d := x.1) (e' := x.2) (Cf.start hr s w) hx fun t env1 H1 e1 e2 c1 u1 => ?_
  refine goE (d := y.1) (e' := y.2) c1 (by rw [e2]; exact hy) fun u env2 H2 e3 e4 c2 u2 => ?_
  rw [← e1, ← e3] at hd
  have fin : ∀ z : T, z.er = d → z.sat X.K H2 → (∀ b, coL b [z] ≤ t.co b) → (∀ b, cuL b [z] ≤ t.cu b) → Q z.val H2 := fun z ez sz lc lz =>
    k z env2 H2 ez e4 (c2.less c2.rel ⟨sz, trivial⟩ c2.satE (fun a => by have := lc a; simp only [coL] at this ⊢; omega) (fun a => by have := lz a; simp only [cuL] at this ⊢; omega)) fun i hi => (u2 i hi).trans (u1 i hi)
  unfold fItem at hd
  split at hd
  · rename_i o ds i g1 g2
    obtain ⟨a, ts, f1, f2, f3, f4, f5, f6⟩ := rdL c2.satF.2.1 g1
    rw [f1, er_int g2]
    rw [← f2, erL_map, atI_map] at hd
    obtain ⟨z, hz, ez⟩ := map_some hd
    have hz2 := atI_mem hz
    refine .inl (.inl ⟨a, _, i, z.val, rfl, rfl, f3, by rw [vals, atI_map, hz]; rfl, fin z ez (satL_iff.mp f4 z hz2) (fun b => by rw [co1]; exact Nat.le_trans (coL_mem hz2) (f5 b)) fun b => by rw [cu1]; exact Nat.le_trans (cuL_mem hz2) (f6 b)⟩)
  · rename_i ds i g1 g2
    obtain ⟨a, ts, f1, f2, f3, f4, f5, f6⟩ := rdT c2.satF.2.1 g1
    rw [f1, er_int g2]
    rw [← f2, erL_map, atI_map] at hd
    obtain ⟨z, hz, ez⟩ := map_some hd
    have hz2 := atI_mem hz
    refine .inl (.inr ⟨a, _, i, z.val, rfl, rfl, f3, by rw [vals, atI_map, hz]; rfl, fin z ez (satL_iff.mp f4 z hz2) (fun b => by rw [co1]; exact Nat.le_trans (coL_mem hz2) (f5 b)) fun b => by rw [cu1]; exact Nat.le_trans (cuL_mem hz2) (f6 b)⟩)
  · rename_i z i g1 g2
    split at hd
    · rename_i hl
      obtain ⟨c, hc, ez⟩ := map_some hd
      rw [er_scl g1 rfl, er_int g2]
      exact .inr ⟨z, i, c, rfl, rfl, sizeLine_le hl, hc, fin (.s (.str ⟨#[c]⟩)) ez trivial (fun b => by simp [coL, T.co]) fun b => by simp [cuL, T.cu]⟩
    · cases hd
  · cases hd
end
end Ow

namespace Ow
open PySem L2 PySem.Spec PyProof.Rows
/-- how many keys a dict has -/
def fLenD : List D → Option V
  | [d] => (dicP d).map fun kvs => .int kvs.length
  | _ => none
theorem opn_lenD {K : PySem.W.Frag} : OpN K (fun xs H Q => ∃ a kvs, xs = [V.ref a] ∧ H a = some (.dK kvs) ∧ Q (.int kvs.length) H) fLenD := fun ts v H Q hs h q => by
  unfold fLenD at h
  split at h
  · rename_i d e
    obtain ⟨kvs, hd, rfl⟩ := map_some h
    obtain ⟨t, rfl, e1⟩ := one_er e
    subst e1
    obtain ⟨o, a, us, f1, f2, f3, f4⟩ := rdD hs.1 hd
    exact ⟨a, kvs, by rw [vals, List.map_cons, f1]; rfl, f3, q⟩
  · cases h
/-! is between truths -/
section
variable {X : Cx}
theorem bl_beq (a b : Bool) : (Value.bool a == Value.bool b) = decide (a = b) := by
  by_cases e : a = b
  · subst e
    exact (beq_self_eq_true (Value.bool a)).trans (decide_eq_true (p := a = a) rfl).symm
  · exact (beq_eq_false_iff_ne.mpr fun z => e (Value.bool.inj z)).trans (decide_eq_false e).symm
theorem op_isB : OpR X (compareOp .Is) (fun x y H Q => ∃ a b, x = .bl a ∧ y = .bl b ∧ Q (.bl (decide (a = b))) H) := by
  intro pins s σ H x y v u Q I rx ry h
  obtain ⟨a, b, rfl, rfl, q⟩ := h
  cases (show v = Value.bool a from rx)
  cases (show u = Value.bool b from ry)
  exact wpAny_is_plain rfl (fin_bl I q (bl_beq a b).symm)
theorem op_notB : OpR X (compareOp .IsNot) (fun x y H Q => ∃ a b, x = .bl a ∧ y = .bl b ∧ Q (.bl (!decide (a = b))) H) := by
  intro pins s σ H x y v u Q I rx ry h
  obtain ⟨a, b, rfl, rfl, q⟩ := h
  cases (show v = Value.bool a from rx)
  cases (show u = Value.bool b from ry)
  exact wpAny_isNot_plain rfl (fin_bl I q (congrArg not (bl_beq a b).symm))
def fIsB : D → D → Option V
  | .s (.bl a), .s (.bl b) => some (.bl (decide (a = b)))
  | _, _ => none
def fNotB : D → D → Option V
  | .s (.bl a), .s (.bl b) => some (.bl (!decide (a = b)))
  | _, _ => none
theorem op2_isB {K : PySem.W.Frag} : Op2 K (fun x y H Q => ∃ a b, x = .bl a ∧ y = .bl b ∧ Q (.bl (decide (a = b))) H) fIsB := fun t u v H Q h1 h2 h q => by
  unfold fIsB at h
  split at h
  · rename_i a b e1 e2
    cases h
    rw [er_scl e1 rfl, er_scl e2 rfl]
    exact ⟨a, b, rfl, rfl, q⟩
  · cases h
theorem op2_notB {K : PySem.W.Frag} : Op2 K (fun x y H Q => ∃ a b, x = .bl a ∧ y = .bl b ∧ Q (.bl (!decide (a = b))) H) fNotB := fun t u v H Q h1 h2 h q => by
  unfold fNotB at h
  split at h
  · rename_i a b e1 e2
    cases h
    rw [er_scl e1 rfl, er_scl e2 rfl]
    exact ⟨a, b, rfl, rfl, q⟩
  · cases h
variable {a b : Expr} {ma mb : PM} {m1 m2 : EM} {pos : Pos}
theorem st_isB (ha : SB X a ma) (hb : SB X b mb) : ST X (.Compare a [.Is] [b] pos) (mB (mOp2 fIsB ma mb)) := st_cmp op_isB op2_isB ha hb (nomark _)
theorem st_notB (ha : SB X a ma) (hb : SB X b mb) : ST X (.Compare a [.IsNot] [b] pos) (mB (mOp2 fNotB ma mb)) := st_cmp op_notB op2_notB ha hb (nomark _)
theorem sp_isB (ha : SB X a ma) (hb : SB X b mb) : SP X (.Compare a [.Is] [b] pos) (mOp2 fIsB ma mb) := sp_cmp op_isB op2_isB ha hb (nomark _)
theorem sp_notB (ha : SB X a ma) (hb : SB X b mb) : SP X (.Compare a [.IsNot] [b] pos) (mOp2 fNotB ma mb) := sp_cmp op_notB op2_notB ha hb (nomark _)
theorem set_isB (ha : SE X [] a m1) (hb : SE X [] b m2) : SET X (.Compare a [.Is] [b] pos) (eB (eOp2 fIsB m1 m2)) := set_cmp op_isB op2_isB ha hb (nomark _)
theorem set_notB (ha : SE X [] a m1) (hb : SE X [] b m2) : SET X (.Compare a [.IsNot] [b] pos) (eB (eOp2 fNotB m1 m2)) := set_cmp op_notB op2_notB ha hb (nomark _)
end
/-! xs.append(e) where e changes an item of xs -/
def sAppN (i : Nat) (me : EM) : SM := fun env => (env[i]?.join).bind fun d0 => (modD [] some d0).bind fun _ => (me env).bind fun x => (x.2[i]?.join).bind fun d =>
  (modD [] (fun ds => if ds.length < 16777216 then some (ds ++ [x.1]) else none) d).map fun d' => (.nx, x.2.set i (some d'))
section
variable {X : Cx} {a e : Expr} {me : EM} {i : Nat} {P : List Nat} {apos cpos pos : Pos}
theorem ss_appendN (ho : SPl X i a (plName i)) (h : SE X [] e me) (hbase : attributeBase a "append" X.env (eval a X.env) = eval a X.env := by rfl)
    (hfew : ((backTo cpos (starEach [e] X.env)).all (fun x => !x.1) && (backToKw cpos (keywordEach [] X.env)).all (fun x => x.1.isSome)
      && decide (([e] : List Expr).length + ([] : List Keyword).length + (if ([] : List Keyword).isEmpty then 0 else 1) < 30)) = true := by rfl)
    (hline : (apos.endLine == cpos.line) = true := by rfl) (hs : starEach [e] X.env = (false, eval e X.env) :: starEach [] X.env := by rfl) (hplain : (backTo cpos (starEach [] X.env)).any (·.1) = false := by rfl)
    (hsw : swapsWith (.Call (.Attribute a "append" apos) [e] [] cpos) none pos.line X.env = pure false := by rfl) : SS X P (.Expr (.Call (.Attribute a "append" apos) [e] [] cpos) pos) (sAppN i me) :=
  PS.weak (ps_expr (pe_bm PySem.F.plainAttrs_list PySem.F.slot_list_append PySem.F.type_list_append mt_append ho.pe (pa_cons h pa_nil hs) hbase hfew hline hs hplain) hsw) fun De σ H ⟨env, o, e', hm, r, s, w, k⟩ => by
    obtain ⟨d0, hd0, hm⟩ := bind_some hm
    obtain ⟨d1, hmd0, hm⟩ := bind_some hm
    obtain ⟨x, hx, hm⟩ := bind_some hm
    obtain ⟨d, hd, hm⟩ := bind_some hm
    obtain ⟨d', hmd, e1⟩ := map_some hm
    cases e1
    have hp : plName i (erE env) = some [] := by unfold plName; rw [hd0]; rfl
    obtain ⟨t, h1, rfl⟩ := join_get hd0
    unfold tDrop tBM
    refine goPl ho.ok (Cf.start r s w) hp fun t' u H1 h1' h2 x1 c1 => ?_
    rw [h1] at h1'
    cases h1'
    obtain ⟨a1, ts1, M1⟩ := mod_run (c1.satE.get h1) hmd0
    have ha1 := M1.at_
    rw [h2] at ha1
    cases ha1
    have hv1 := c1.rel.2 i t h1
    have ht : t = .n (.lst .o) a1 ts1 := by have := h2; unfold atT at this; exact Option.some.inj this
    refine ⟨.inl ⟨rfl, _, .inl (.inl M1.nd)⟩, ?_⟩
    unfold tCons
    refine goE (d := x.1) (e' := x.2) c1 hx fun v env1 H2 e1 e2 c2 u1 => ?_
    rw [← e2] at hd
    obtain ⟨t2, f3, rfl⟩ := join_get hd
    have hv2 := c2.rel.2 i t2 f3
    obtain ⟨a2, ts, M⟩ := mod_run (c2.satE.get f3) hmd
    have ha2 := M.at_
    have ht2 : t2 = .n (.lst .o) a2 ts := by have := ha2; unfold atT at this; exact Option.some.inj this
    have ea : a1 = a2 := by
      rw [hv1, ht, ht2] at hv2
      have q := Option.some.inj (Option.some.inj hv2)
      exact V.ref.inj q
    subst ea
    obtain ⟨ds', g1, _⟩ := M.new
    obtain ⟨g2, rfl⟩ := if_some g1
    refine ⟨a1, _, v.val, rfl, rfl, M.nd, sizeLine_lt (by rw [List.length_map, ← erL_length]; exact g2), ?_⟩
    obtain ⟨env2, w1, _, c3⟩ := mut_step (G := [v]) (F' := []) (G' := []) (ts' := ts ++ [v]) c2 f3 M (by rw [g1, erL_append, erL, erL, e1]) (satL_append.mpr ⟨M.sat, c2.satF.1, trivial⟩) trivial (fun b => by simp only [coL_append, coL]; omega)
      (fun b h => by have := M.leu b; have := cuE_get (a := b) f3; simp only [cuL_append, cuL] at h ⊢; omega)
    have ev : vals (ts ++ [v]) = vals ts ++ [v.val] := by simp [vals]
    rw [ev] at c3
    exact k [] σ env2 _ (by rw [w1, e2]) c3 (fun _ _ => rfl) rfl
end
end Ow

namespace Ow
open PySem L2 PySem.Spec PyProof.Rows
/-! ### len(set(xs)), xs ints: how many there are, each once -/
def metL (ns : List Int) : List Int := firstMet (fun i => ns.getD i 0) ns.length
section
variable {X : Cx}
theorem cr_setI (hc : X.calm = true) : CallR X (.type "set") (fun xs H Q => ∃ l ns, xs = [V.ref l] ∧ SqL X.K H l (ns.map V.int) ∧ ns.length < 4000 ∧ ∀ a, H a = none → Q (.ref a) (upd H a (.set (fun k' => (metL ns).any (· == k')) (metL ns).length))) := by
  intro pins s σ H xs us Q I r h
  obtain ⟨l, ns, rfl, hl, hf, q⟩ := h
  rw [Vals.ref1 r]
  obtain ⟨its, rv, pl, hz⟩ := I.list hl
  have hn : H s.heap.objs.size = none := I.hok.fresh (Nat.le_refl _)
  have hi : IntsAre its ns := ints_of_vals rv
  have hlen : its.length = ns.length := IntsAre.length hi
  refine PySem.call_set_list (items := its.toArray) (ns := ns) (I.ok.hd hc) pl.isList (by simpa using hi) (by rw [List.size_toArray, hlen]; unfold scanBound; omega) fun h' tk hS hk => ?_
  have hz2 : its.toArray.size = ns.length := by rw [← hlen]; exact List.size_toArray ..
  rw [hz2] at hS
  exact ⟨.ref s.heap.objs.size, upd H s.heap.objs.size (.set (fun k' => (metL ns).any (· == k')) (metL ns).length), I.laid (t' := tk) (fun b o e => hk b o (Heap.lt_size e) e) (Nat.le_refl _) hS, rfl, q _ hn⟩
theorem call_lenS : CallR X (.builtin "len") (fun xs H Q => ∃ a S n, xs = [V.ref a] ∧ H a = some (.set S n) ∧ Q (.int n) H) := by
  intro pins s σ H xs us Q I r h
  obtain ⟨a, S, n, rfl, ha, q⟩ := h
  rw [Vals.ref1 r]
  obtain ⟨o, es, ep, t, h1, h2, h3, h4, h5, h6, h7, h8⟩ := (I.hok a _ ha : s.heap.SetOf _ a S n)
  refine PySem.call_len_set h1 h2 h3 h7 (by unfold scanBound at h6; omega) ?_
  rw [h8]
  exact ⟨.int n, H, I.tok _, ⟨_, rfl⟩, q⟩
def fDist (ds : List D) : Option V := (li ds).bind fun ns => if ns.length < 4000 then some (.int (metL ns).length) else none
theorem bt_set : bootBuiltins "set" = some (.type "set") := by decide +kernel
theorem sp_lenSet {e : Expr} {ml : LM} {p p2 pos2 pos : Pos} (hc : X.calm = true) (hm : X.mg "len" = none) (hm2 : X.mg "set" = none) (ha : SBA X [e] ml) (hg : Gl X "len" := by rfl) (hg2 : Gl X "set" := by rfl)
    (he : starEach [e] X.env = (false, eval e X.env) :: starEach [] X.env := by rfl) (he2 : starEach [.Call (.Name "set" p2) [e] [] pos2] X.env = (false, eval (.Call (.Name "set" p2) [e] [] pos2) X.env) :: starEach [] X.env := by rfl)
    (hpl : (backTo pos (starEach [] X.env)).any (·.1) = false := by rfl) (hpl2 : (backTo pos2 (starEach [] X.env)).any (·.1) = false := by rfl) :
    SP X (.Call (.Name "len" p) [.Call (.Name "set" p2) [e] [] pos2] [] pos) (mCall fDist ml) :=
  PE.weak (pe_callB call_lenS hg hm bt_len (pa_cons (pe_callTy (cr_setI hc) hg2 hm2 bt_set ha (he := he) (hpl := hpl2)) pa_nil he2) (he := he2) (hpl := hpl)) fun σ H Q ⟨env, d, hm, hr, hs, k⟩ => by
    obtain ⟨xs, hx, hm⟩ := bind_some hm
    obtain ⟨v, hv, hm⟩ := bind_some hm
    obtain ⟨s1, rfl⟩ := sv_some hm
    obtain ⟨ns, h1, hv2⟩ := bind_some hv
    obtain ⟨h2, hv3⟩ := if_some' hv2
    refine ⟨env, xs, hx, hr, hs, fun ts H1 e1 x1 s2 _ => ?_⟩
    subst e1
    obtain ⟨a, e1, e2⟩ := li_of s2 h1
    refine ⟨a, ns, e1, e2, h2, fun b hb => ?_⟩
    have hv4 := (Option.some.inj hv3).symm
    subst hv4
    exact ⟨b, _, _, rfl, upd_same, k (.s _) _ (by rw [T.er, hid_scl s1]) (x1.trans (Evl.Ex.new hb)) trivial own_s⟩
end
end Ow

namespace Ow
open PySem L2 PySem.Spec PyProof.Rows
/-! ### sorted(d), d a dict with keys that are ints, any number of them -/
def intKs : List (Key × V) → Option (List Int)
  | [] => some []
  | (.inl i, _) :: r => (intKs r).map (i :: ·)
  | _ :: _ => none
theorem intKs_map : ∀ {kvs : List (Key × V)} {ns : List Int}, intKs kvs = some ns → kvs.map (·.1) = ns.map Sum.inl
  | [], ns, h => by cases h; rfl
  | (.inl i, _) :: r, ns, h => by
    rw [intKs] at h
    obtain ⟨ms, h1, rfl⟩ := map_some h
    rw [List.map_cons, intKs_map h1, List.map_cons]
  | (.inr _, _) :: _, ns, h => by cases h
/-- what a walk over the keys tells, read as ints -/
theorem ints_at : ∀ {us : List Value} {ns : List Int}, us.length = ns.length → (∀ (j : Nat) (u : Value), us[j]? = some u → ∃ i t, ns[j]? = some i ∧ u = Value.int i t) → IntsAre us ns
  | [], [], _, _ => .nil
  | [], _ :: _, h, _ => by simp at h
  | _ :: _, [], h, _ => by simp at h
  | u :: us, n :: ns, hl, h => by
    obtain ⟨i, t, e1, e2⟩ := h 0 u rfl
    have e3 : n = i := Option.some.inj e1
    rw [e2, ← e3]
    exact .cons n t (ints_at (by simpa using hl) fun j v hv => h (j + 1) v hv)
section
variable {X : Cx}
theorem cr_sortDict (hc : X.calm = true) : CallR X (.builtin "sorted") (fun xs H Q => ∃ (b : Addr) (kvs : List (Key × V)) (ns : List Int), xs = [V.ref b] ∧ H b = some (.dK kvs) ∧ intKs kvs = some ns ∧
    ∀ (ms : List Int) (p : Addr), ms.Perm ns → ms.Pairwise (· ≤ ·) → H p = none → Q (.ref p) (upd H p (.lst (ms.map V.int)))) := by
  intro pins s σ H xs us Q I r ⟨b, kvs, ns, ex, hb, hk, q⟩
  rw [ex] at r
  rw [Vals.ref1 r]
  obtain ⟨few, nm, ws, rel, dd⟩ := dk_rd I.hok (.inl hb)
  obtain ⟨ep, at_⟩ := dd.dictAt
  have kws : ws.map (·.1) = ns.map Sum.inl := rel.keys.symm.trans (intKs_map hk)
  have lw : ws.length = ns.length := by simpa using congrArg List.length kws
  have lk : ws.length ≤ sizeLine := by rw [← rel.length]; exact few
  refine Calls.call_function_entry kind_sorted plain_sorted entry_sorted (args_sorted1 _) ?_
  unfold Builtin.«sorted»
  refine wpAny_bind (m := checkCount "sorted" 1 1 _) (wpAny_pure ?_)
  refine wpAny_bind (PySem.W.kdu_collect (A := X.A.in1) (PySem.W.kdl_dict (knd := mixKind X.prog X.w) (kvs := ws) (ep := ep) nm) (I.ok.hd hc) at_ lk fun hp tk acc keep got => ?_)
  have la : acc.toList.length = ns.length := (Array.length_toList ..).trans (got.1.trans lw)
  have hi : IntsAre acc.toList ns := ints_at la fun j u hu => by
    rw [Array.getElem?_toList] at hu
    obtain ⟨k, z, g1, g2⟩ := got.2 j u hu
    have g3 : (ns.map (Sum.inl : Int → Key))[j]? = some k := by rw [← kws, List.getElem?_map, g1]; rfl
    rw [List.getElem?_map, Option.map_eq_some_iff] at g3
    obtain ⟨i, g4, g5⟩ := g3
    rcases keyIs_shape (show keyIs k u = true from g2) with ⟨i', t, ek, ev⟩ | ⟨_, t, ek, _⟩
    · rw [ek] at g5
      cases g5
      exact ⟨i, t, g4, ev⟩
    · rw [ek] at g5; cases g5
  have lz : acc.toList.length ≤ sizeLine := by rw [la, ← lw]; exact lk
  have I1 : Inv X pins σ H { s with heap := hp, toks := tk } := I.kept keep
  refine wpAny_bind (wpAny_newList ?_ lz)
  have new : (hp.push (seqObj "list" acc.toList.toArray 0)).get? hp.objs.size = some (seqObj "list" acc.toList.toArray 0) := Heap.get?_push_size _ rfl
  show wpAny _ _ _ _ _ { s with heap := hp.push (seqObj "list" acc.toList.toArray 0), toks := tk }
  refine wpAny_bind (wpAny_holding (wpAny_call_entry slot_list_sort ⟨_, new, rfl⟩ entry_list_sort (list_sort_treeAny (s := { s with heap := hp.push (seqObj "list" acc.toList.toArray 0), toks := tk }) new hi lz fun out ms p1 p2 p3 => ⟨_, rfl, wpAny_pure ?_⟩) (args_list_sort _)))
  obtain ⟨ep2, there⟩ := sortedHeap_at (vs := acc.toList) (out := out) new
  have lm : (ms.map V.int).length ≤ sizeLine := by rw [List.length_map, p2.length_eq, ← la]; exact lz
  refine ⟨_, rfl, .ref hp.objs.size, upd H hp.objs.size (.lst (ms.map V.int)), I1.laid (t' := tk) (fun a o e => ?_) (Nat.le_refl _) (show ObjOk X.prog X.w _ _ _ (.lst (ms.map V.int)) from ⟨lm, out.toList, ep2, vals_of_ints p1, by rw [Array.toArray_toList]; exact there⟩), rfl, q ms _ p2 p3 (I1.hok.fresh (Nat.le_refl _))⟩
  have lt_ : a < hp.objs.size := Heap.lt_size e
  rw [sortedHeap_old (Nat.ne_of_lt lt_) (by rw [size_push']; exact Nat.lt_succ_of_lt lt_)]
  exact Heap.get?_push_of_some _ e
def fSortD : List D → Option (List D)
  | [d] => (dicP d).bind fun kvs => (intKs kvs).map fun ns => (srt ns).map fun i => .s (.int i)
  | _ => none
theorem opnl_sortD {K : PySem.W.Frag} : OpNL K (fun xs H Q => ∃ (b : Addr) (kvs : List (Key × V)) (ns : List Int), xs = [V.ref b] ∧ H b = some (.dK kvs) ∧ intKs kvs = some ns ∧
    ∀ (ms : List Int) (p : Addr), ms.Perm ns → ms.Pairwise (· ≤ ·) → H p = none → Q (.ref p) (upd H p (.lst (ms.map V.int)))) fSortD := fun ts ds H Q hs h q => by
  unfold fSortD at h
  split at h
  · rename_i d e
    obtain ⟨kvs, hd, h⟩ := bind_some h
    obtain ⟨ns, hk, rfl⟩ := map_some h
    obtain ⟨t, rfl, e1⟩ := one_er e
    subst e1
    obtain ⟨o, a, us, f1, f2, f3, f4⟩ := rdD hs.1 hd
    refine ⟨a, kvs, ns, by rw [vals, List.map_cons, f1]; rfl, f3, hk, fun ms p h2 h3 hp => ?_⟩
    rw [srt_eq h2 h3, ← vals_ints]
    exact q _ p (erL_ints _) (sat_ints _) (fun b z => by rw [co_ints] at z; omega) (fun b z => by rw [cu_ints] at z; omega) hp
  · cases h
theorem sp_sortD {e : Expr} {ml : LM} {p pos : Pos} (hc : X.calm = true) (hm : X.mg "sorted" = none) (ha : SBA X [e] ml) (hb : bootBuiltins "sorted" = some (.builtin "sorted") := by decide +kernel) (hg : Gl X "sorted" := by rfl)
    (he : starEach [e] X.env = (false, eval e X.env) :: starEach [] X.env := by rfl) (hpl : (backTo pos (starEach [] X.env)).any (·.1) = false := by rfl) : SP X (.Call (.Name "sorted" p) [e] [] pos) (mCallL fSortD ml) :=
  sp_callBL (cr_sortDict hc) opnl_sortD hb hm ha hg (he := he) (hpl := hpl)
end
end Ow

namespace Ow
open PySem L2 PySem.Spec PyProof.Rows
/-! ### xs.count(i), ints -/
def fCnt (x y : D) : Option V := match x, y with
  | .n (.lst _) ds, .s (.int i) => (intsD ds).map fun ns => .int (ns.count i : Nat)
  | _, _ => none
def mCnt (ma mb : PM) : PM := fun env => (ma env).bind fun x => (mb env).bind fun y => (fCnt x y).bind sv
section
variable {X : Cx} {o e : Expr} {ma mb : PM} {apos cpos : Pos}
theorem sp_count (ho : SB X o ma) (ha : SB X e mb)
    (hbase : attributeBase o "count" X.env (eval o X.env) = eval o X.env := by rfl)
    (hfew : ((backTo cpos (starEach ([e]) X.env)).all (fun x => !x.1) && (backToKw cpos (keywordEach [] X.env)).all (fun x => x.1.isSome)
      && decide (([e] : List Expr).length + ([] : List Keyword).length + (if ([] : List Keyword).isEmpty then 0 else 1) < 30)) = true := by rfl)
    (hline : (apos.endLine == cpos.line) = true := by rfl) (hs : starEach [e] X.env = (false, eval e X.env) :: starEach [] X.env := by rfl) : SP X (.Call (.Attribute o "count" apos) [e] [] cpos) (mCnt ma mb) :=
  PE.weak (pe_bm (T := "list") PySem.F.plainAttrs_list PySem.F.slot_list_count PySem.F.type_list_count mt_lcount ho (pa_cons ha pa_nil hs) hbase hfew hline hs (by rfl)) fun σ H Q ⟨env, d, hm, r, s, k⟩ => by
    obtain ⟨x, hx, hm⟩ := bind_some hm
    obtain ⟨y, hy, hm⟩ := bind_some hm
    obtain ⟨v, hv, hm⟩ := bind_some hm
    obtain ⟨s1, rfl⟩ := sv_some hm
    refine ⟨env, x, hx, r, s, fun t H1 e1 x1 s1' b1 => ?_⟩
    subst e1
    unfold fCnt at hv
    split at hv
    case h_2 => cases hv
    rename_i oo ds i g1
    obtain ⟨ns, g3, rfl⟩ := map_some hv
    obtain ⟨a, ts, f1, f2, f3, f4, f5, f6⟩ := rdL s1' g1
    rw [f1]
    refine ⟨.inl ⟨rfl, _, f3⟩, ?_⟩
    refine ⟨env, _, hy, r, s.ex x1, fun u H2 e2 x2 s2 b2 => ?_⟩
    have hu := er_int e2
    obtain ⟨a', ts', f1', f2', f3', _⟩ := rdL (sat_ex x2 s1') g1
    rw [f1] at f1'
    cases f1'
    refine ⟨a, ns, i, rfl, by rw [hu]; rfl, ?_, k (.s _) H2 (by rw [T.er, hid_scl s1]) (x1.trans x2) trivial own_s⟩
    have : ts' = ns.map fun i => T.s (.int i) := intsD_of (by rw [f2', ← f2]; rw [← f2] at g3; exact g3)
    rw [this, vals_ints] at f3'
    exact f3'
end
end Ow

namespace Ow
open PySem PySem.Spec PyProof.Rows L2

/-! ### try with clauses of either form -/
/-- an exception that this frame has caught and looked at -/
structure Held (X : Cx) (pins : List (Addr × Obj)) (a : Addr) (cls : Value) (d : Option Addr) (σ : L2.St) (H : Hp) (B : Heap) (sI s : Shared) : Prop where
  inv : Inv X pins σ H sI
  grd : ∀ b o, sI.heap.get? b = some o → b ∉ frs X.stack → B.get? b = some o
  up : sI.heap.UpToSlots s.heap
  fly : HandSPX.FlyingZ B (X.env :: X.outer) a (Zc cls d) s.heap
  na : H a = none
  os : s.os = sI.os
  ag : AllBare s.gens
section
variable {X : Cx} {pins : List (Addr × Obj)} {a : Addr} {cls : Value} {d : Option Addr} {σ : L2.St} {H : Hp} {B : Heap} {sI s : Shared} {De : Ends} {hds : List ExceptHandler}
theorem Held.here (h : Held X pins a cls d σ H B sI s) : Inv X pins σ H s := h.inv.landed h.grd h.fly.1 h.up h.os h.ag
theorem Held.suite (h : Held X pins a cls d σ H B sI s) (hf : X.env.frame = some X.env.locals) : ∃ oe, (s.heap.get? a = some oe ∧ Zc cls d oe ∧ ∃ vs, oe.data = .fields vs) ∧ Inv (X.suite a ((a, oe) :: (X.pn ++ pins))) [] σ H s := by
  obtain ⟨oe, vs, q1, q2, q3⟩ := h.fly.there
  have out : a ∉ frs (X.env :: X.outer) := fun hm => by
    obtain ⟨_, o', e', hnf⟩ := h.fly.2.2.1.mem hm
    cases q1.symm.trans e'
    exact hnf _ q3
  refine ⟨oe, ⟨q1, q2, vs, q3⟩, h.here.suite q1 q3 h.na (fun z => out ?_) fun hm => out ?_⟩
  · exact List.mem_filterMap.mpr ⟨X.env, List.mem_cons_self, by rw [hf, z]⟩
  · obtain ⟨e, he, q⟩ := List.mem_filterMap.mp hm
    exact List.mem_filterMap.mpr ⟨e, List.mem_cons_of_mem _ he, q⟩
theorem Held.again (h : Held X pins a cls d σ H B sI s) {E : Value → Shared → Prop} {A : Around} {Q : Unit → Shared → Prop} (k : ∀ s2, Held X pins a cls d σ H B sI s2 → Q () s2) : wpAny (model X.prog X.w) A (setFlight (.ref a) none) Q E s :=
  HandSPX.lands_againZ h.fly fun h4 f4 u4 => k _ ⟨h.inv, h.grd, h.up.trans u4, f4, h.na, h.os, h.ag⟩
theorem Held.test (h : Held X pins a cls d σ H B sI s) (hf : X.env.frame = some X.env.locals) {x : Str} {c : Value} {np : Pos} (hc : Names X x c) {Q E : Value → Shared → Prop} (q : Q c s) :
    wpAny (model X.prog X.w) (X.A.mark (some (.ref a))) (eval (.Name x np) X.env) Q E s := by
  obtain ⟨oe, _, S⟩ := h.suite hf
  obtain ⟨hg, hdb, g⟩ := hc
  rcases g with g | ⟨g1, g2, g3⟩
  · exact ld_glob (X := X.suite a ((a, oe) :: (X.pn ++ pins))) S hg g q hdb
  · exact ld_blt (X := X.suite a ((a, oe) :: (X.pn ++ pins))) S hg g1 g2 q g3 hdb
theorem Held.looks (h : Held X pins a cls d σ H B sI s) : PySem.W.Looks (model X.prog X.w) s.heap (typeOf (.ref a)) cls := fun A Q E s2 k q => by
  obtain ⟨oe, _, q1, q2, _⟩ := h.fly.there
  exact wpAny_typeOf_ref (k _ _ q1) (by rw [q2.1]; exact q)
/-- a suite's end -/
theorem ends_un {a : Addr} {oe : Obj} {f : Flow} {s : Shared} (ok : X.Ok) (h : L2.SP (X.suite a ((a, oe) :: (X.pn ++ pins))) [] De f s) : L2.SP X pins De f s := by
  cases f with
  | next => obtain ⟨σ6, H6, S6, q⟩ := h; exact ⟨_, _, S6.unsuite ok, q⟩
  | brk => obtain ⟨σ6, H6, S6, q⟩ := h; exact ⟨_, _, S6.unsuite ok, q⟩
  | cont => obtain ⟨σ6, H6, S6, q⟩ := h; exact ⟨_, _, S6.unsuite ok, q⟩
  | ret u => obtain ⟨v, σ6, H6, S6, r, q⟩ := h; exact ⟨_, _, _, S6.unsuite ok, r, q⟩
/-- the ends of a suite whose name, at slot i, goes -/
def goneE (i : Nat) (De : Ends) : Ends := { nx := fun σ H => De.nx (σ.set i none) H, rt := De.rt, bk := fun σ H => De.bk (σ.set i none) H, ct := fun σ H => De.ct (σ.set i none) H }
abbrev Sui := Addr → Value → Option Addr → TS
inductive Hs where
  | only (c : Value) (ts : Sui)
  | as (c : Value) (i : Nat) (ts : Sui)
/-- what the clauses wish -/
def wHs (K : PySem.W.Frag) (Wout : WX) (De : Ends) : List Hs → WX
  | [] => Wout
  | .only c ts :: r => fun cls d σ H => ∃ b, PySem.W.exmOne K cls c = some b ∧ (b = true → ∀ a, H a = none → ts a cls d De σ H) ∧ (b = false → wHs K Wout De r cls d σ H)
  | .as c i ts :: r => fun cls d σ H => ∃ b, PySem.W.exmOne K cls c = some b ∧ (b = true → ∀ a, H a = none → (σ.set i (some (.ref a)))[i]? = some (some (.ref a)) → ts a cls d (goneE i De) (σ.set i (some (.ref a))) H) ∧ (b = false → wHs K Wout De r cls d σ H)
def SuiOk (X : Cx) (su : List Stmt) (ts : Sui) : Prop := ∀ (a : Addr) (oe : Obj) (cls : Value) (d : Option Addr) (pn : List (Addr × Obj)), Zc cls d oe → (∃ vs, oe.data = .fields vs) → PSs (X.suite a ((a, oe) :: pn)) su (ts a cls d)
inductive HsOk (X : Cx) : List ExceptHandler → List Hs → Prop
  | nil : HsOk X [] []
  | only {x : Str} {c : Value} {ts : Sui} {b0 : Stmt} {su : List Stmt} {np p : Pos} {r : List ExceptHandler} {l : List Hs} (hc : Names X x c) (hsu : SuiOk X (b0 :: su) ts) (hr : HsOk X r l) : HsOk X (.ExceptHandler (some (.Name x np)) none (b0 :: su) p :: r) (.only c ts :: l)
  | as {x n : Str} {c : Value} {i : Nat} {ts : Sui} {b0 : Stmt} {su : List Stmt} {np p : Pos} {r : List ExceptHandler} {l : List Hs} (hN : X.N.Nodup) (hi : X.N[i]? = some n) (hln : X.env.kindOf n = some .local) (hc : Names X x c) (hsu : SuiOk X (b0 :: su) ts) (hr : HsOk X r l) :
      HsOk X (.ExceptHandler (some (.Name x np)) (some n) (b0 :: su) p :: r) (.as c i ts :: l)
theorem handle_run {Wout : WX} {l : List Hs} (hst : X.stack = X.env :: X.outer) (hf : X.env.frame = some X.env.locals) (tk : Takes X Wout) (hh : HsOk X hds l) (h : Held X pins a cls d σ H B sI s) (w : wHs X.K Wout De l cls d σ H) :
    wpAny (model X.prog X.w) X.A (handleBy (.ref a) X.env hds) (L2.SP X pins De) X.xe s := by
  have ok := h.inv.ok
  induction hh with
  | nil =>
    refine wpAny_handleBy_nil ?_
    obtain ⟨k1, k2, k3, oe, vs, T, oT, ts', he, hz, hd, h1, hr⟩ := id h.fly
    unfold PySem.passOn
    refine wpAny_bind (wpAny_field he hd h1 ?_)
    rw [if_neg (show ¬ ((Value.ref T == Value.none) = true) from by simp)]
    have up : wpAny (model X.prog X.w) X.A (setFlight (.ref a) X.env.frame) (fun _ s4 => wpAny (model X.prog X.w) X.A (throw (.ref a) : Sem Flow) (L2.SP X pins De) X.xe s4) X.xe s := by
      rw [hf]
      refine HandSPX.setFlight_upZ h.fly fun h4 g4 u4 => wpAny_throw (tk _ _ ?_)
      exact ⟨a, B, sI, pins, σ, H, cls, d, rfl, h.inv, h.grd, h.up.trans u4, .inr (.inr (by rw [hst]; exact g4)), h.na, h.os, h.ag, w⟩
    first
      | exact wpAny_bind (wpAny_pure (wpAny_bind up))
      | exact wpAny_bind up
  | only hc hsu hr ih =>
    obtain ⟨b, e, yes, no⟩ := w
    refine wpAny_handleBy_cons (codeAny_handlers_test ?_) (by intro q; cases q)
    refine h.test hf hc ((PySem.W.exm_one (M := model X.prog X.w) h.here.kIn h.looks e).here ?_)
    cases b with
    | false => exact ih (no rfl)
    | true =>
      refine codeAny_handlers_suite (h.again fun s2 h2 => ?_)
      obtain ⟨oe, ⟨_, z2, z3⟩, S2⟩ := h2.suite hf
      exact wpAny_mono ((hsu a oe cls d (X.pn ++ pins) z2 z3).run [] _ _ H _ S2 (yes rfl a h.na)) (fun f s6 q => ends_un ok q) fun _ _ z => False.elim z
  | @as x n c i ts b0 su np p r l hN hi hln hc hsu hr ih =>
    obtain ⟨b, e, yes, no⟩ := w
    refine wpAny_handleBy_cons (codeAny_handlers_test ?_) (by intro q; cases q)
    refine h.test hf hc ((PySem.W.exm_one (M := model X.prog X.w) h.here.kIn h.looks e).here ?_)
    cases b with
    | false => exact ih (no rfl)
    | true =>
      refine codeAny_handlers_suite_as (h.again fun s2 h2 => ?_)
      obtain ⟨oe, ⟨_, z2, z3⟩, S2⟩ := h2.suite hf
      refine store_ok (X := X.suite a ((a, oe) :: (X.pn ++ pins))) (v := .ref a) S2 hN hi (.inl hln) rfl (fun s5 S5 => ?_) (.inr hln)
      refine wpAny_mono ((hsu a oe cls d (X.pn ++ pins) z2 z3).run [] s5 _ H _ S5 (yes rfl a h.na (by rw [List.getElem?_set_self (by rw [h.inv.len]; exact (List.getElem?_eq_some_iff.mp hi).1)]))) (fun f s6 q => ?_) fun _ _ z => False.elim z
      have bye : ∀ {σ6 : L2.St} {H6 : Hp} {Q : Shared → Prop}, Inv (X.suite a ((a, oe) :: (X.pn ++ pins))) [] σ6 H6 s6 → (∀ s7, Inv X pins (σ6.set i none) H6 s7 → Q s7) →
          wpAny (model X.prog X.w) X.A (do bindName X.env n .none; unbindBehindTheSuite X.env n p) (fun _ s7 => Q s7) X.xe s6 := fun S6 k => gone_ok (S6.unsuite ok) hN hi hln k
      cases f with
      | next => obtain ⟨σ6, H6, S6, q6⟩ := q; exact bye S6 fun s7 J => ⟨_, _, J, q6⟩
      | brk => obtain ⟨σ6, H6, S6, q6⟩ := q; exact bye S6 fun s7 J => ⟨_, _, J, q6⟩
      | cont => obtain ⟨σ6, H6, S6, q6⟩ := q; exact bye S6 fun s7 J => ⟨_, _, J, q6⟩
      | ret u => obtain ⟨v6, σ6, H6, S6, r6, q6⟩ := q; exact bye S6 fun s7 J => ⟨_, _, _, J, r6, q6⟩
theorem ps_try_hs {body : List Stmt} {h0 : ExceptHandler} {l : List Hs} {pos : Pos} {tb : WX → TS} {Wout : WX} (hst : X.stack = X.env :: X.outer) (hf : X.env.frame = some X.env.locals) (tk : Takes X Wout)
    (hb : ∀ (W : WX) (pn : List (Addr × Obj)) (xe : Value → Shared → Prop), Takes (X.tr pn xe) W → PassesOwn (model X.prog X.w) X.A X.env xe → PSs (X.tr pn xe) body (tb W)) (hh : HsOk X (h0 :: hds) l) :
    PS X (.Try body (h0 :: hds) [] [] pos) (fun De σ H => tb (wHs X.K Wout De l) De σ H) := by
  refine ⟨fun pins s σ H De I w => ?_⟩
  have ok := I.ok
  have hfr : X.A.frames = some (X.env :: X.outer) := by rw [ok.frames, hst]
  let xe2 : Value → Shared → Prop := fun e s1 => wpAny (model X.prog X.w) X.A (noteFrame e X.env) (fun _ s2 => wpAny (model X.prog X.w) X.A (setFlight e none) (fun _ s3 => wpAny (model X.prog X.w) X.A (handleBy e X.env (h0 :: hds)) (L2.SP X pins De) X.xe s3) X.xe s2) X.xe s1
  refine wpAny_Try_except (wpAny_mono ((hb (wHs X.K Wout De l) (X.pn ++ pins) xe2 (fun u s1 xx => ?_) PassesOwn.looking).run [] s σ H De (I.toTry _) w) (fun f s1 q => ?_) fun e s1 he => he)
  · obtain ⟨a, B, sI, pins', σ', H', cls, d, rfl, J, nb, up, sky, na, os, ag, w'⟩ := xx
    have sky' : Sky B (X.env :: X.outer) a (Zc cls d) X.env.locals s1.heap := by rw [← hst]; exact sky
    exact Sky.land Zc.steady hfr hf sky' fun h3 f3 u3 => handle_run hst hf tk hh ⟨J.ofTry ok, nb, up.trans u3, f3, na, os, ag⟩ w'
  · cases f with
    | next => obtain ⟨σ', H', J, q⟩ := q; exact wpAny_execs_nil ⟨σ', H', J.ofTry ok, q⟩
    | brk => obtain ⟨σ', H', J, q⟩ := q; exact ⟨σ', H', J.ofTry ok, q⟩
    | cont => obtain ⟨σ', H', J, q⟩ := q; exact ⟨σ', H', J.ofTry ok, q⟩
    | ret u => obtain ⟨v, σ', H', J, r, q⟩ := q; exact ⟨v, σ', H', J.ofTry ok, r, q⟩
end
end Ow

namespace Ow
open PySem L2

/-! ### outcomes by a wish -/
def outsW (mg : Str → Option Value) (W : WX) (De : Ends) (o : O) (F : List T) (σ : L2.St) (H : Hp) : Prop := match o with
  | .nx => F = [] → De.nx σ H
  | .bk => F = [] → De.bk σ H
  | .ct => F = [] → De.ct σ H
  | .rt d => (∀ t, F = [t] → t.er = d → De.rt t.val H) ∧ ∀ (n : String) (C : Addr), d = .s (.ty n) → F = [] → mg n = some (.ref C) → W (.ref C) none σ H
def trW (K : PySem.W.Frag) (mg : Str → Option Value) (W : WX) (P : List Nat) (m : SM) : TS := fun De σ H => ∃ env o e', m (erE env) = some (o, e') ∧ Rel σ env ∧ SatE K H env ∧ WfF [] env ∧
  ∀ F σ' env' H', erE env' = e' → Cf K H env σ' H' F env' → (∀ i ∈ P, σ'[i]? = σ[i]?) → outsW mg W De o F σ' H'
abbrev noW : WX := fun _ _ _ _ => False
section
variable {X : Cx} {P : List Nat} {m : SM} {st : List Stmt} {W : WX}
theorem outs_of {De : Ends} {o : O} {F : List T} {σ : L2.St} {H : Hp} (tk : Takes X W) (h : outsW X.mg W De o F σ H) : outs X De o F σ H := by
  cases o with
  | nx => exact h
  | bk => exact h
  | ct => exact h
  | rt d => exact ⟨h.1, fun n C e q g => xwish_of tk (h.2 n C e q g)⟩
theorem sss_W (tk : Takes X W) (h : SSs X P st m) : PSs X st (trW X.K X.mg W P m) := PSs.weak h fun De σ H ⟨env, o, e', hm, r, s, w, k⟩ => ⟨env, o, e', hm, r, s, w, fun F σ' env' H' e c p => outs_of tk (k F σ' env' H' e c p)⟩
/-- no exception leaves it -/
@[simp] def calmO : O → Option O
  | .rt d => if d.isx = true then none else some (.rt d)
  | o => some o
def sCalm (m : SM) : SM := fun env => (m env).bind fun x => (calmO x.1).map fun o => (o, x.2)
end

/-! ### f-strings -/
def fmtD : D → Option Str
  | .s (.str y) => if y.length ≤ 16777216 then some y else none
  | .s (.int i) => if i.natAbs.log2 < 1920 then some (toString i) else none
  | _ => none
inductive Fp where
  | c (x : Str)
  | v (m : PM)
def joinF : List Fp → Str → Env → Option Str
  | [], acc, _ => some acc
  | .c x :: ms, acc, env => if (acc ++ x).length ≤ 16777216 then joinF ms (acc ++ x) env else none
  | .v m :: ms, acc, env => (m env).bind fun d => (fmtD d).bind fun y => if (acc ++ y).length ≤ 16777216 then joinF ms (acc ++ y) env else none
def mFs (ms : List Fp) : PM := fun env => (joinF ms Str.empty env).map fun y => .s (.str y)
inductive SFJ (X : Cx) : List Expr → List Fp → Prop where
  | nil : SFJ X [] []
  | c {x : Str} {j : Nat} {p : Pos} {es : List Expr} {ms : List Fp} (r : SFJ X es ms) : SFJ X (.Constant (.str x) j p :: es) (.c x :: ms)
  | v {e : Expr} {p : Pos} {m : PM} {es : List Expr} {ms : List Fp} (h : SB X e m) (r : SFJ X es ms) : SFJ X (.FormattedValue e (-1) none p :: es) (.v m :: ms)
section
variable {X : Cx} {pos : Pos}
theorem fj_run {es : List Expr} {ms : List Fp} (h : SFJ X es ms) : ∃ ts, PJ X es ts ∧ ∀ (acc : Str) (env : TEnv) (out : Str) (σ : L2.St) (H : Hp) (Q : Str → Hp → Prop), joinF ms acc (erE env) = some out → Rel σ env → SatE X.K H env → (∀ H', Ex H H' → Q out H') → tJs ts acc σ H Q := by
  induction h with
  | nil => exact ⟨[], .nil, fun acc env out σ H Q e r s k => by cases e; exact k H (Evl.Ex.refl H)⟩
  | @c x j p es ms hr ih =>
    obtain ⟨ts, h1, h2⟩ := ih
    refine ⟨tC (.str x) :: ts, .cons pe_str h1, fun acc env out σ H Q e r s k => ?_⟩
    rw [joinF] at e
    split at e
    case isFalse => cases e
    rename_i hl
    exact ⟨x, rfl, sizeLine_le hl, h2 _ env out σ H Q e r s k⟩
  | @v e p m es ms h hr ih =>
    obtain ⟨ts, h1, h2⟩ := ih
    refine ⟨tFmt (trB X.K m) :: ts, .cons (pe_fmt h) h1, fun acc env out σ H Q e r s k => ?_⟩
    rw [joinF] at e
    obtain ⟨d, hd, e⟩ := bind_some e
    obtain ⟨y, hy, e⟩ := bind_some e
    split at e
    case isFalse => cases e
    rename_i hl
    refine ⟨env, d, hd, r, s, fun t H' e1 x1 s1 _ => ?_⟩
    have go : tJs ts (acc ++ y) σ H' Q := h2 _ env out σ H' Q e r (s.ex x1) fun H2 x2 => k H2 (x1.trans x2)
    unfold fmtD at hy
    split at hy
    · rename_i y'
      split at hy
      case isFalse => cases hy
      rename_i hl2
      cases hy
      rw [er_scl e1 rfl]
      exact .inl ⟨_, rfl, sizeLine_le hl2, _, rfl, sizeLine_le hl, go⟩
    · rename_i i
      split at hy
      case isFalse => cases hy
      rename_i hl2
      cases hy
      rw [er_int e1]
      exact .inr ⟨i, rfl, hl2, _, rfl, sizeLine_le hl, go⟩
    · cases hy
theorem sp_fs {e1 e2 : Expr} {es : List Expr} {ms : List Fp} (h : SFJ X (e1 :: e2 :: es) ms) : SP X (.JoinedStr (e1 :: e2 :: es) pos) (mFs ms) := by
  obtain ⟨ts, h1, h2⟩ := fj_run h
  refine PE.weak (pe_joined h1) fun σ H Q ⟨env, d, hm, r, s, k⟩ => ?_
  obtain ⟨out, e, rfl⟩ := map_some hm
  exact h2 Str.empty env out σ H _ e r s fun H' x => k (.s (.str out)) H' rfl x trivial own_s
end

/-! ### raise -/
def sRaise (n : String) (m : PM) : SM := fun env => (m env).map fun _ => (.rt (.s (.ty n)), env)
section
variable {X : Cx} {P : List Nat} {m : PM} {e : Expr} {n : String} {C : Addr} {bmB : List Value} {B newId initId : String} {p pos pos' : Pos}
theorem ss_raise (F : ExcBaseFacts B newId initId bmB) (q : PySem.W.excIn X.K C bmB newId = true) (gC : X.mg n = some (.ref C)) (kC : PySem.W.keepIn X.K (.ref C) = true) (r : Raises X (.ref C)) (hc : X.calm = true) (he : SP X e m) (hg : Gl X n := by rfl)
    (hs : starEach [e] X.env = (false, eval e X.env) :: starEach [] X.env := by rfl) (hdb : ((n : Str) == ("__debug__" : Str)) = false := by decide) : SS X P (.Raise (some (.Call (.Name n p) [e] [] pos)) none pos') (sRaise n m) :=
  PS.weak (ps_raise hc takesX (SkE.pmk_own1 F q gC kC r hg he hs hdb)) fun De σ H ⟨env, o, e', hm, rl, s, w, k⟩ => by
    obtain ⟨d, hd, e1⟩ := map_some hm
    cases e1
    exact goP (Cf.start rl s w) hd fun t H' _ _ c => (k [] σ env H' rfl c.toNil (fun _ _ => rfl)).2 n C rfl rfl gC
end

/-! ### defs that may raise -/
def spX (K : PySem.W.Frag) (mg : Str → Option Value) (n : Nat) (f : FM) : Sp := fun vs H Q E => ∃ ts d, vs = vals ts ∧ ts.length = n ∧ satL K H ts ∧ f (frzD (erL ts)) = some d ∧ (∀ t H', t.er = d → Ex H H' → t.sat K H' → OwnA H ts t → Q t.val H') ∧ ∀ (x : String) (C : Addr) H', d = .s (.ty x) → mg x = some (.ref C) → Ex H H' → E (.ref C) none H'
def runX (n : Nat) (mS : SM) : FM := fun ds => (mS (initD n ds)).bind fun x => match x.1 with
  | .rt d => some d
  | .nx => some (.s .non)
  | _ => none
section
variable {P : Program} {w : World} {K : PySem.W.Frag} {mg : Str → Option Value} {base : Heap}
theorem fn_raise {x qual : Str} {st : Stmt} {f : Addr} {fd : FuncData} {N ps : List Str} {k : Nat} {mS : SM} (F : Fun K x qual st f fd) (S : FnScope N ps (defScope st)) (hl : ps.length ≤ N.length)
    (hbody : ∀ (cdv : Value) (A : Around) (outer : List PySem.Env) (s : Shared) (H : Hp) (E : XK), Room k (A.deeper (PyProof.Rows.envOfC qual (defScope st) s.heap.objs.size f cdv)) →
      PassesOwn (model P w) (cxOf (L2.CX P w) P w K mg base N qual (defScope st) f cdv A outer s H E).A (cxOf (L2.CX P w) P w K mg base N qual (defScope st) f cdv A outer s H E).env (cxOf (L2.CX P w) P w K mg base N qual (defScope st) f cdv A outer s H E).xe →
      SSs (cxOf (L2.CX P w) P w K mg base N qual (defScope st) f cdv A outer s H E) [] (defBody st) mS) :
    FnOk P w K mg base (L2.CX P w) (k + 1) f fd ps (spX K mg ps.length (runX N.length mS)) := by
  refine F.okX S (fun vs H Q E ⟨ts, d, e1, e2, _⟩ => by rw [e1, List.length_map, e2]) fun cdv A outer s H vs Q E hr ⟨ts, d, e1, e2, s1, hf, kk, kx⟩ => ⟨_, hbody cdv A outer s H E hr (passes_of rfl), ?_⟩
  subst e1
  obtain ⟨x, hx, hm⟩ := bind_some hf
  rw [← frzL_er] at hx
  have hv : vals ts = vals (frzL ts) := (frzL_vals ts).symm
  have hlen : (frzL ts).length = ts.length := by
    have := congrArg List.length hv
    simpa using this.symm
  rw [hv]
  have nc : ∀ a, coE a (initT N.length (frzL ts)) = 0 := fun a => by rw [init_co, frzL_co]
  refine ⟨initT N.length (frzL ts), x.1, x.2, by rw [init_er]; exact hx, init_rel (by rw [hlen, e2]; exact hl), init_sat (frzL_sat ts s1), fun a => ?_, fun F σ' env' H' e3 c _ => ?_⟩
  · simp only [coL, cuL, Nat.zero_add, nc]
    simp
  · have hx2 : Ex H H' := fun a o h => c.stp.1 a o h (by simp only [coL, nc])
    have fin : ∀ t : T, F = [t] → t.er = d → Q t.val H' := fun t hF et => by
      subst hF
      refine kk t H' et hx2 c.satF.1 fun a => ?_
      have w1 := c.wf a
      have s2 := c.stp.2.2 a
      simp only [coL, cuL, Nat.zero_add, Nat.add_zero, nc, init_cu, frzL_cu] at w1 s2
      refine ⟨by omega, fun q => ?_, fun q => ?_⟩
      · rcases s2.1 (by omega) with z | z
        · exact absurd z (Nat.lt_irrefl _)
        · exact z
      · rcases s2.2 (by omega) with z | z | z
        · exact absurd z (Nat.lt_irrefl _)
        · by_cases q2 : 0 < coL a ts
          · exact .inl q2
          · exact .inr (.inl (by omega))
        · exact .inr (.inr z)
    obtain ⟨xo, xe⟩ := x
    cases xo with
    | nx =>
      intro hF
      cases hm
      subst hF
      exact kk (.s .non) H' rfl hx2 trivial fun a => ⟨⟨Nat.zero_le _, .inl rfl⟩, fun q => absurd q (by simp [T.co]), fun q => absurd q (by simp [T.cu])⟩
    | bk => cases hm
    | ct => cases hm
    | rt d' =>
      cases hm
      exact ⟨fin, fun n C hC _ g => xwish_of (X := cxOf (L2.CX P w) P w K mg base N qual (defScope st) f cdv A outer s H E) (takes_of rfl rfl rfl rfl) (kx n C H' hC g hx2)⟩
end

/-! ### a call that may raise -/
def trEX (X : Cx) (U : List Nat) (m : EM) : TE := fun σ H Q => ∃ env d e', m (erE env) = some (d, e') ∧ Rel σ env ∧ SatE X.K H env ∧ WfF [] env ∧
  (∀ t env' H', t.er = d → erE env' = e' → Cf X.K H env σ H' [t] env' → (∀ i ∈ U, env'[i]? = env[i]?) → Q t.val H') ∧ ∀ (n : String) (C : Addr) env' H', d = .s (.ty n) → X.mg n = some (.ref C) → erE env' = e' → Cf X.K H env σ H' [] env' → XWish X (.ref C) none σ H'
def SEX (X : Cx) (U : List Nat) (e : Expr) (m : EM) : Prop := PE X e (trEX X U m)
def eFnX (f : FM) (ml : LM) : EM := fun env => (ml env).bind fun ds => (f (frzD ds)).bind fun d => if (d.noF || pureL ds) = true then some (d, env) else none
section
variable {X : Cx} {U P : List Nat} {e : Expr} {es : List Expr} {me : EM} {ml : LM} {pos p : Pos}
theorem sex_se (h : SE X U e me) : SEX X U e me := PE.weak h fun σ H Q ⟨env, d, e', hm, r, s, w, k, _⟩ => ⟨env, d, e', hm, r, s, w, k⟩
theorem sex_call {k n : Nat} {x : Str} {f : Addr} {fd : FuncData} {ps : List Str} {fm : FM} (F : FnOk X.prog X.w X.K X.mg X.base (L2.CX X.prog X.w) k f fd ps (spX X.K X.mg n fm)) (hl : n = es.length + 1) (hr : Room k X.A) (hm : X.mg x = some (.ref f)) (hk : PySem.W.keepIn X.K (.ref f) = true)
    (hb : Binds X.K fd ps []) (ha : SBA X (e :: es) ml) (hln : ∀ env ds, ml env = some ds → ds.length = n) (hg : Gl X x := by rfl) (hdb : (x == ("__debug__" : Str)) = false := by decide) (he : starEach (e :: es) X.env = (false, eval e X.env) :: starEach es X.env := by rfl) (hpl : (backTo pos (starEach es X.env)).any (·.1) = false := by rfl) :
    SEX X U (.Call (.Name x p) (e :: es) [] pos) (eFnX fm ml) := PE.weak (pe_callS F hr hg hm hk hb (E := WE (XWish X)) (fun σ => passAt takesX σ) ha hdb he hpl) fun σ H Q ⟨env, d, e', hm, r, s, w, k, kx⟩ => by
  obtain ⟨ds, h1, hm⟩ := bind_some hm
  obtain ⟨d', h2, hm⟩ := bind_some hm
  split at hm
  case isFalse => cases hm
  rename_i hc
  cases hm
  refine ⟨env, ds, h1, r, s, fun ts H1 e1 x1 s1 b1 => ?_⟩
  refine ⟨ts, d, rfl, by rw [len_er e1]; exact hln _ _ h1, s1, by rw [e1]; exact h2, fun t H2 e2 x2 s2 o2 => k t env H2 e2 rfl (Cf.pure r s w (x1.trans x2) s2 fun a => ?_) (fun _ _ => rfl), fun y C H2 e2 g2 x2 => kx y C env H2 e2 g2 rfl ((Cf.start r s w).ex (x1.trans x2))⟩
  have o := o2 a
  refine ⟨o.1, fun z => Evl.fresh_back x1 (o.2.1 z), fun z => ?_⟩
  rcases o.2.2 z with q | q | q
  · rw [Bool.or_eq_true] at hc
    rcases hc with hc | hc
    · rw [← e2] at hc
      obtain ⟨u, hu, hv⟩ := noF_cu t hc s2 z
      obtain ⟨u', hu', hv'⟩ := coL_no ts (satL_ex x2 s1) q
      rw [hu] at hu'
      cases hu'
      rw [hv] at hv'
      cases hv'
    · rw [← e1] at hc
      rw [pureL_co ts hc] at q
      omega
  · exact (b1 a).2 q
  · exact .inr (Evl.fresh_back x1 q)
/-- .. where nothing is raised -/
def mFnN (f : FM) (ml : LM) : PM := fun env => (ml env).bind fun ds => (f (frzD ds)).bind fun d => if (!d.isx && (d.noF || pureL ds)) = true then some d else none
theorem sp_callN {k n : Nat} {x : Str} {f : Addr} {fd : FuncData} {ps : List Str} {fm : FM} (F : FnOk X.prog X.w X.K X.mg X.base (L2.CX X.prog X.w) k f fd ps (spX X.K X.mg n fm)) (hl : n = es.length + 1) (hr : Room k X.A) (hm : X.mg x = some (.ref f)) (hk : PySem.W.keepIn X.K (.ref f) = true)
    (hb : Binds X.K fd ps []) (ha : SBA X (e :: es) ml) (hln : ∀ env ds, ml env = some ds → ds.length = n) (hg : Gl X x := by rfl) (hdb : (x == ("__debug__" : Str)) = false := by decide) (he : starEach (e :: es) X.env = (false, eval e X.env) :: starEach es X.env := by rfl) (hpl : (backTo pos (starEach es X.env)).any (·.1) = false := by rfl) :
    SP X (.Call (.Name x p) (e :: es) [] pos) (mFnN fm ml) := PE.weak (pe_call F hr hg hm hk hb .nil passL ha hdb he hpl) fun σ H Q ⟨env, d, hm, r, s, k⟩ => by
  obtain ⟨ds, h1, hm⟩ := bind_some hm
  obtain ⟨d', h2, hm⟩ := bind_some hm
  split at hm
  case isFalse => cases hm
  rename_i hc0
  rw [Bool.and_eq_true] at hc0
  obtain ⟨hc1, hc⟩ := hc0
  cases hm
  refine ⟨env, ds, h1, r, s, fun ts H1 e1 x1 s1 b1 => ?_⟩
  refine ⟨ts, d, by rw [List.append_nil], by rw [len_er e1]; exact hln _ _ h1, s1, by rw [e1]; exact h2, fun t H2 e2 x2 s2 o2 => k t H2 e2 (x1.trans x2) s2 fun a => ?_, fun y C H2 e2 _ _ => by rw [e2] at hc1; cases hc1⟩
  have o := o2 a
  refine ⟨o.1, fun z => Evl.fresh_back x1 (o.2.1 z), fun z => ?_⟩
  rcases o.2.2 z with q | q | q
  · rw [Bool.or_eq_true] at hc
    rcases hc with hc | hc
    · rw [← e2] at hc
      obtain ⟨u, hu, hv⟩ := noF_cu t hc s2 z
      obtain ⟨u', hu', hv'⟩ := coL_no ts (satL_ex x2 s1) q
      rw [hu] at hu'
      cases hu'
      rw [hv] at hv'
      cases hv'
    · rw [← e1] at hc
      rw [pureL_co ts hc] at q
      omega
  · exact (b1 a).2 q
  · exact .inr (Evl.fresh_back x1 q)
/-- a pair whose first part may raise -/
def eTupX (m : EM) (mc : PM) : EM := fun env => (m env).bind fun x => if x.1.isx = true then some x else (mc x.2).map fun y => (.n .tup [x.1, y], x.2)
theorem sex_tup {mc : PM} {b : Expr} {x1 : Nat} (ha : SEX X U e me) (hb : SP X b mc) (hs1 : starEach [e, b] X.env = (false, eval e X.env) :: starEach [b] X.env := by rfl) (hs2 : starEach [b] X.env = (false, eval b X.env) :: starEach [] X.env := by rfl) : SEX X U (.Tuple [e, b] x1 pos) (eTupX me mc) :=
  PE.weak (pe_tup (pa_cons ha (pa_cons hb pa_nil hs2) hs1)) fun σ H Q ⟨env, d, e', hm, r, s, w, k, kx⟩ => by
    obtain ⟨x, hx, hm⟩ := bind_some hm
    refine ⟨env, x.1, x.2, hx, r, s, w, fun t env1 H1 e1 e2 c1 u1 => ?_, fun n C env1 H1 e1 g e2 c1 => ?_⟩
    · have nx : ¬ x.1.isx = true := fun z => by
        cases hx1 : x.1 with
        | n k ds => rw [hx1] at z; cases z
        | s v =>
          cases v with
          | ty C => exact er_nx (e1.trans hx1)
          | _ => rw [hx1] at z; cases z
      rw [if_neg nx] at hm
      obtain ⟨y, hy, e3⟩ := map_some hm
      cases e3
      refine goP c1 (by rw [e2]; exact hy) fun u H2 e4 x2 c2 => ⟨sizeLine_le (by simp), fun q hq => ?_⟩
      have c3 : Cf X.K H env σ H2 ([t, u] ++ []) env1 := c2.less c2.rel ⟨c2.satF.2.1, c2.satF.1, trivial⟩ c2.satE (fun a => by simp only [coL, List.append_nil]; omega) (fun a => by simp only [cuL, List.append_nil]; omega)
      exact k (.n .tup q [t, u]) env1 _ (by rw [T.er, erL, erL, erL, e1, e4]) e2 (c3.node (k := .tup) rfl hq) u1
    · have e5 : x = (d, e') := by
        have : x.1.isx = true := by rw [e1]; rfl
        rw [if_pos this] at hm
        exact Option.some.inj hm
      subst e5
      exact kx n C env1 H1 e1 g e2 c1

/-! statements whose one part may raise -/
def sDropX (m : EM) : SM := fun env => (m env).map fun x => (if x.1.isx = true then .rt x.1 else .nx, x.2)
def sSetX (i : Nat) (m : EM) : SM := fun env => (m env).map fun x => if x.1.isx = true then (.rt x.1, x.2) else (.nx, x.2.set i (some x.1))
def sAsgX (g : Tg) (m : EM) : SM := fun env => (m env).bind fun x => if x.1.isx = true then some (.rt x.1, x.2) else (bD g x.1 x.2).map fun e' => (.nx, e')
theorem er_isx {t : T} (h : t.er.isx = true) : False := by
  cases q : t.er with
  | n k ds => rw [q] at h; cases h
  | s v =>
    cases v with
    | ty C => exact er_nx q
    | _ => rw [q] at h; cases h
theorem ss_exprX (h : SEX X [] e me) (hs : swapsWith e none pos.line X.env = pure false := by rfl) : SS X P (.Expr e pos) (sDropX me) := PS.weak (ps_expr h hs) fun De σ H ⟨env, o, e', hm, r, s, w, k⟩ => by
  obtain ⟨x, hx, e1⟩ := map_some hm
  cases e1
  refine ⟨env, x.1, x.2, hx, r, s, w, fun t env1 H1 e1 e2 c1 _ => ?_, fun n C env1 H1 e1 g e2 c1 => ?_⟩
  · have q := k [] σ env1 H1 e2 c1.toNil (fun _ _ => rfl)
    rw [if_neg (fun z => er_isx (e1 ▸ z))] at q
    exact q rfl
  · have q := k [] σ env1 H1 e2 c1 (fun _ _ => rfl)
    rw [if_pos (by rw [e1]; rfl)] at q
    exact q.2 n C e1 rfl g
theorem ss_setX {x : Str} {pos' : Pos} (i : Nat) (hN : X.N.Nodup) (hP : i ∉ P) (h : SEX X [] e me) (hi : X.N[i]? = some x := by rfl) (hx : Loc X.env.scope x := by first | exact .inl rfl | exact .inr rfl) (hs : swapsWith e (some (.Name x pos')) pos.line X.env = pure false := by rfl)
    (hf : X.fn x = true ∨ X.env.scope.names.lookup x = some .local := by first | exact .inl rfl | exact .inr rfl | assumption) : SS X P (.Assign [.Name x pos'] e pos) (sSetX i me) :=
  PS.weak (ps_set (i := i) hN hi hx h hs hf) fun De σ H ⟨env, o, e', hm, r, s, w, k⟩ => by
    obtain ⟨x, hx, e1⟩ := map_some hm
    refine ⟨env, x.1, x.2, hx, r, s, w, fun t env1 H1 e2 e3 c1 _ => ?_, fun n C env1 H1 e2 g e3 c1 => ?_⟩
    · rw [if_neg (fun z => er_isx (e2 ▸ z))] at e1
      cases e1
      refine k [] (σ.set i (some t.val)) (env1.set i (some t)) H1 (by rw [erE_set, e3, ← e2]; rfl) (c1.less c1.rel.set trivial (c1.satE.set fun u hu => by cases hu; exact c1.satF.1) (fun a => ?_) fun a => ?_) (set_pin hP) rfl
      · have := set_co (env := env1) (j := i) (t := t) (a := a)
        simp only [coL]; omega
      · have := set_cu (env := env1) (j := i) (t := t) (a := a)
        simp only [cuL]; omega
    · rw [if_pos (by rw [e2]; rfl)] at e1
      cases e1
      exact (k [] σ env1 H1 e3 c1 (fun _ _ => rfl)).2 n C e2 rfl g
theorem ss_retX (h : SEX X [] e me) : SS X P (.Return (some e) pos) (sRet me) := PS.weak (ps_ret h) fun De σ H ⟨env, o, e', hm, r, s, w, k⟩ => by
  obtain ⟨x, hx, e1⟩ := map_some hm
  cases e1
  exact ⟨env, x.1, x.2, hx, r, s, w, fun t env1 H1 e1 e2 c1 _ => (k [t] σ env1 H1 e2 c1 (fun _ _ => rfl)).1 t rfl e1, fun n C env1 H1 e1 g e2 c1 => (k [] σ env1 H1 e2 c1 (fun _ _ => rfl)).2 n C e1 rfl g⟩
end

/-! ### suites -/
section
variable {X : Cx}
def cj (i : Nat) (a : Addr) (t : TE) : TE := fun σ H Q => σ[i]? = some (some (.ref a)) ∧ t σ H Q
/-- within an except suite: the exception's class is c, slot i holds it -/
def PU (X : Cx) (i : Nat) (e : Expr) (m : String → PM) : Prop := ∀ (a : Addr) (oe : Obj) (n : String) (c : Addr) (pn : List (Addr × Obj)), X.mg n = some (.ref c) → Zc (.ref c) none oe → (∃ vs, oe.data = .fields vs) → PE (X.suite a ((a, oe) :: pn)) e (cj i a (trP X.K (m n)))
def PUA (X : Cx) (i : Nat) (es : List Expr) (m : String → LM) : Prop := ∀ (a : Addr) (oe : Obj) (n : String) (c : Addr) (pn : List (Addr × Obj)), X.mg n = some (.ref c) → Zc (.ref c) none oe → (∃ vs, oe.data = .fields vs) → PA (X.suite a ((a, oe) :: pn)) es (fun σ H Q => σ[i]? = some (some (.ref a)) ∧ trPA X.K (m n) σ H Q)
def PUT (X : Cx) (i : Nat) (e : Expr) (m : String → BM) : Prop := ∀ (a : Addr) (oe : Obj) (n : String) (c : Addr) (pn : List (Addr × Obj)), X.mg n = some (.ref c) → Zc (.ref c) none oe → (∃ vs, oe.data = .fields vs) → PT (X.suite a ((a, oe) :: pn)) e (fun σ H Q => σ[i]? = some (some (.ref a)) ∧ trT X.K (m n) σ H Q)
def PUW (X : Cx) (i : Nat) (e : Expr) (m : String → BM) : Prop := ∀ (a : Addr) (oe : Obj) (n : String) (c : Addr) (pn : List (Addr × Obj)), X.mg n = some (.ref c) → Zc (.ref c) none oe → (∃ vs, oe.data = .fields vs) → PW (X.suite a ((a, oe) :: pn)) e (fun σ H Q => σ[i]? = some (some (.ref a)) ∧ trT X.K (m n) σ H Q)
def SU (X : Cx) (i : Nat) (P : List Nat) (st : List Stmt) (m : String → SM) : Prop := ∀ (a : Addr) (oe : Obj) (n : String) (c : Addr) (pn : List (Addr × Obj)), X.mg n = some (.ref c) → Zc (.ref c) none oe → (∃ vs, oe.data = .fields vs) → PSs (X.suite a ((a, oe) :: pn)) st (fun De σ H => σ[i]? = some (some (.ref a)) ∧ trW X.K X.mg noW P (m n) De σ H)
/-- without a name -/
def SN (X : Cx) (P : List Nat) (st : List Stmt) (m : SM) : Prop := ∀ (a : Addr) (oe : Obj) (n : String) (c : Addr) (pn : List (Addr × Obj)), X.mg n = some (.ref c) → Zc (.ref c) none oe → (∃ vs, oe.data = .fields vs) → PSs (X.suite a ((a, oe) :: pn)) st (trW X.K X.mg noW P m)
end
section
variable {X : Cx} {i : Nat} {P : List Nat} {e a b : Expr} {es : List Expr} {pos : Pos} {m ma mb : String → PM} {st : Stmt} {rest : List Stmt}
theorem takes_no {X : Cx} : Takes X noW := takes0
theorem sn_ss {m : SM} (h : ∀ (a : Addr) (pn : List (Addr × Obj)), SSs (X.suite a pn) P rest m) : SN X P rest m := fun a oe n c pn gn hz hf => sss_W takes_no (h a _)
theorem su_sn {m : SM} (h : SN X P rest m) : SU X i P rest (fun _ => m) := fun a oe n c pn gn hz hf => PSs.weak (h a oe n c pn gn hz hf) fun De σ H q => q.2
theorem pu_sp {m : PM} (h : ∀ (a : Addr) (pn : List (Addr × Obj)), SP (X.suite a pn) e m) : PU X i e (fun _ => m) := fun a oe n c pn gn hz hf => PE.weak (h a _) fun σ H Q q => q.2
/-- what isinstance tells of the classes -/
def mIsX (f : String → Option Bool) (n : String) : PM := fun _ => (f n).map fun b => .s (.bl b)
theorem pu_one {op : BoolOp} (h : PU X i a m) : PU X i (.BoolOp op [a] pos) m := fun A oe n c pn gn hz hf => pe_one (h A oe n c pn gn hz hf)
theorem pu_and {r : List Expr} (ha : PU X i a ma) (hb : PU X i (.BoolOp .And (b :: r) pos) mb) : PU X i (.BoolOp .And (a :: b :: r) pos) (fun n => mAndV (ma n) (mb n)) := fun A oe n c pn gn hz hf => PE.weak (pe_and (ha A oe n c pn gn hz hf) (hb A oe n c pn gn hz hf)) fun σ H Q ⟨g, env, d, hm, r, s, k⟩ => by
  obtain ⟨x, hx, hm⟩ := bind_some hm
  obtain ⟨dx, hdx, hx⟩ := bind_some hx
  refine ⟨g, env, dx, hdx, r, s, fun t H' e1 x1 s1 _ => ?_⟩
  subst e1
  rw [er_scl (toB_some hx) rfl]
  refine ⟨x, rfl, ?_⟩
  cases x with
  | true =>
    rw [if_pos rfl] at hm ⊢
    obtain ⟨c, hc, rfl⟩ := map_some hm
    obtain ⟨dy, hdy, hy⟩ := bind_some hc
    refine ⟨g, env, dy, hdy, r, s.ex x1, fun t2 H2 e2 x2 s2 o => ?_⟩
    subst e2
    exact k t2 H2 (toB_some hy) (x1.trans x2) s2 (o.back x1)
  | false =>
    rw [if_neg Bool.false_ne_true] at hm ⊢
    cases hm
    exact k (.s (.bl false)) H' rfl x1 trivial own_s
theorem pu_not (ha : PU X i a ma) : PU X i (.UnaryOp .Not a pos) (fun n => mNotV (ma n)) := fun A oe n c pn gn hz hf => PE.weak (pe_not (ha A oe n c pn gn hz hf)) fun σ H Q ⟨g, env, d, hm, r, s, k⟩ => by
  obtain ⟨x, hx, rfl⟩ := map_some hm
  obtain ⟨dx, hdx, hx⟩ := bind_some hx
  refine ⟨g, env, dx, hdx, r, s, fun t H' e1 x1 s1 _ => ?_⟩
  subst e1
  rw [er_scl (toB_some hx) rfl]
  exact ⟨x, rfl, k (.s (.bl (!x))) H' rfl x1 trivial own_s⟩
theorem pua_nil : PUA X i [] (fun _ => lNil) := fun A oe n c pn gn hz hf => PA.weak (spa_nil (X := X.suite A ((A, oe) :: pn))) fun σ H Q q => q.2
theorem pua_cons {ml : String → LM} (ha : PU X i e m) (hr : PUA X i es ml) (hs : ∀ (a : Addr) (pn : List (Addr × Obj)), starEach (e :: es) (X.suite a pn).env = (false, eval e (X.suite a pn).env) :: starEach es (X.suite a pn).env := by intros; rfl) : PUA X i (e :: es) (fun n => lCons (m n) (ml n)) := fun A oe n c pn gn hz hf => PA.weak (pa_cons (ha A oe n c pn gn hz hf) (hr A oe n c pn gn hz hf) (hs A _)) fun σ H Q ⟨g, env, d, hm, r, s, k⟩ => by
  obtain ⟨x, hx, hm⟩ := bind_some hm
  obtain ⟨ys, hy, rfl⟩ := map_some hm
  refine ⟨g, env, x, hx, r, s, fun t H1 e1 x1 s1 b1 => ⟨g, env, ys, hy, r, s.ex x1, fun ts H2 e2 x2 s2 b2 => ?_⟩⟩
  exact k (t :: ts) H2 (by rw [erL, e1, e2]) (x1.trans x2) ⟨sat_ex x2 s1, s2⟩ (OwnL.cons x1 s s1 b1 b2)
theorem pu_lst {ml : String → LM} (h : PUA X i es ml) : PU X i (.List es pos) (fun n => mk (.lst .o) (ml n)) := fun A oe n c pn gn hz hf => PE.weak (pe_lst (h A oe n c pn gn hz hf)) fun σ H Q ⟨g, env, d, hm, r, s, k⟩ => by
  obtain ⟨ds, h1, h2, rfl⟩ := mk_some hm
  refine ⟨g, env, ds, h1, r, s, fun ts H1 e1 x1 s1 o1 => ⟨sizeLine_le (by rw [List.length_map, len_er e1]; exact h2), fun p hp => ?_⟩⟩
  obtain ⟨x2, s2, o2⟩ := new_node (k := .lst .o) rfl x1 s s1 o1 hp
  exact k (.n (.lst .o) p ts) _ (by rw [T.er, e1]) (x1.trans x2) s2 o2
theorem trB_mono {K : PySem.W.Frag} {m : PM} {σ : L2.St} {H : Hp} {Q Q' : VK} (h : trB K m σ H Q) (k : ∀ v H', Q v H' → Q' v H') : trB K m σ H Q' := by
  obtain ⟨env, d, hm, r, s, q⟩ := h
  exact ⟨env, d, hm, r, s, fun t H' e x st b => k _ _ (q t H' e x st b)⟩
def PUB (X : Cx) (i : Nat) (e : Expr) (m : String → PM) : Prop := ∀ (a : Addr) (oe : Obj) (n : String) (c : Addr) (pn : List (Addr × Obj)), X.mg n = some (.ref c) → Zc (.ref c) none oe → (∃ vs, oe.data = .fields vs) → PE (X.suite a ((a, oe) :: pn)) e (cj i a (trB X.K (m n)))
theorem pub_pu (h : PU X i e m) : PUB X i e m := fun A oe n c pn gn hz hf => PE.weak (h A oe n c pn gn hz hf) fun σ H Q ⟨g, env, d, hm, r, s, k⟩ => ⟨g, env, d, hm, r, s, fun t H' e x st o => k t H' e x st o.bor⟩
theorem pub_sb {m : PM} (h : ∀ (a : Addr) (pn : List (Addr × Obj)), SB (X.suite a pn) e m) : PUB X i e (fun _ => m) := fun a oe n c pn gn hz hf => PE.weak (h a _) fun σ H Q q => q.2
theorem pu_cat (ha : PUB X i a ma) (hb : PUB X i b mb) : PU X i (.BinOp a .Add b pos) (fun n => mCat (ma n) (mb n)) := fun A oe n c pn gn hz hf =>
  PE.weak (pe_op op_cat (ha A oe n c pn gn hz hf) (hb A oe n c pn gn hz hf)) fun σ H Q ⟨g, h⟩ => ⟨g, trB_mono (cat_rd h) fun v H1 h1 => ⟨g, h1⟩⟩
/-- isinstance(e, C) -/
theorem pu_isi {x y : Str} {f : String → Option Bool} {p p2 p3 : Pos} (hN : X.N[i]? = some x) {v : V} {u : Value} (hcl : ∀ (a : Addr) (pn : List (Addr × Obj)), PE (X.suite a pn) (.Name y p3) (tC v)) (hv : ∀ w, RelV v w → w = u)
    (hk : ∀ (n : String) (c : Addr) b, f n = some b → X.mg n = some (.ref c) → ExcC X.K c ∧ PySem.W.kitOne X.K (.ref c) u = some b) (hm : X.mg "isinstance" = none) (hb : bootBuiltins "isinstance" = some (.builtin "isinstance")) (hg : Gl X "isinstance" := by rfl)
    (hvis : Vis X.env.scope x := by first | exact .inl rfl | exact .inr (.inl rfl) | exact .inr (.inr rfl)) (hd : (x == ("__debug__" : Str)) = false := by decide) (hcd : (x == ("__classdict__" : Str)) = false := by decide)
    (he : ∀ (a : Addr) (pn : List (Addr × Obj)), starEach [.Name x p2, .Name y p3] (X.suite a pn).env = (false, eval (.Name x p2) (X.suite a pn).env) :: starEach [.Name y p3] (X.suite a pn).env := by intros; rfl) (he2 : ∀ (a : Addr) (pn : List (Addr × Obj)), starEach [.Name y p3] (X.suite a pn).env = (false, eval (.Name y p3) (X.suite a pn).env) :: starEach [] (X.suite a pn).env := by intros; rfl)
    (hpl : ∀ (a : Addr) (pn : List (Addr × Obj)), (backTo pos (starEach [.Name y p3] (X.suite a pn).env)).any (·.1) = false := by intros; rfl) : PU X i (.Call (.Name "isinstance" p) [.Name x p2, .Name y p3] [] pos) (mIsX f) := fun A oe n c pn gn hz hf => by
  refine PE.weak (t := fun σ H Q => σ[i]? = some (some (.ref A)) ∧ ∃ b, f n = some b ∧ Q (.bl b) H) ?_ fun σ H Q ⟨g, env, d, hm, r, s, k⟩ => by
    obtain ⟨b, h1, rfl⟩ := map_some hm
    exact ⟨g, b, h1, k (.s (.bl b)) H rfl (Evl.Ex.refl H) trivial own_s⟩
  cases hfc : f n with
  | none => exact ⟨fun pins s σ H Q I ⟨_, b, e, _⟩ => by cases e⟩
  | some b =>
    obtain ⟨h1, h2⟩ := hk n c b hfc gn
    refine PE.weak (pe_callB (call_isE h1 hz hf) hg hm hb (pa_cons (pe_var hN hvis hd hcd) (pa_cons (hcl A _) pa_nil (he2 A _)) (he A _)) (by decide) (by decide) (he A _) (hpl A _)) fun σ H Q ⟨g, b', e, q⟩ => ?_
    cases e
    exact ⟨.ref A, g, v, u, b, rfl, hv, h2, q⟩
/-! tests -/
theorem put_pu (h : PU X i e m) (he : ∀ (a : Addr) (pn : List (Addr × Obj)) (whole : Sem Value), isTrue e (X.suite a pn).env whole = (do let v ← whole; standAt e.pos; holding [v] (truthy v)) := by intros; rfl) : PUT X i e (fun n => mB (m n)) := fun A oe n c pn gn hz hf => PT.weak (pt_val (h A oe n c pn gn hz hf) (he A _)) fun σ H Q ⟨g, env, b, hm, r, s, k⟩ => by
  obtain ⟨d, hd, hb⟩ := bind_some hm
  refine ⟨g, env, d, hd, r, s, fun t H' e1 x1 s1 _ => ?_⟩
  rw [er_scl (e1.trans (toB_some hb)) rfl]
  exact ⟨b, rfl, k H' x1⟩
/-! statements -/
theorem su_ret (h : PU X i e m) : SU X i P [.Return (some e) pos] (fun n => sRet (lift (m n))) := fun A oe n c pn gn hz hf => pss_one (PS.weak (ps_ret (h A oe n c pn gn hz hf)) fun De σ H ⟨g, env, o, e', hm, r, s, w, k⟩ => by
  obtain ⟨x, hx, e1⟩ := map_some hm
  obtain ⟨d, h1, e2⟩ := map_some hx
  cases e2
  cases e1
  exact ⟨g, env, d, h1, r, s, fun t H1 e1 x1 s1 o1 => (k [t] σ env H1 rfl (Cf.pure r s w x1 s1 o1) (fun _ _ => rfl)).1 t rfl e1⟩)
theorem su_set {x : Str} {pos' : Pos} {j : Nat} {nn : String → SM} (hij : i ≠ j) (hN : X.N.Nodup) (hP : j ∉ P) (h : PU X i e m) (hr : SU X i P rest nn) (hi : X.N[j]? = some x := by rfl) (hx : Loc X.env.scope x := by first | exact .inl rfl | exact .inr rfl)
    (hs : ∀ (a : Addr) (pn : List (Addr × Obj)), swapsWith e (some (.Name x pos')) pos.line (X.suite a pn).env = pure false := by intros; rfl) (hf : X.fn x = true ∨ X.env.scope.names.lookup x = some .local := by first | exact .inl rfl | exact .inr rfl | assumption) : SU X i P (.Assign [.Name x pos'] e pos :: rest) (fun n => sSeq (sSet j (lift (m n))) (nn n)) := fun A oe n c pn gn hz hfl =>
  PSs.weak (pss_cons (ps_set (X := X.suite A ((A, oe) :: pn)) (i := j) hN hi hx (h A oe n c pn gn hz hfl) (hs A _) hf) (hr A oe n c pn gn hz hfl)) fun De σ H ⟨g, env, o, e', hm, r, s, w, k⟩ => by
    obtain ⟨y, hy, hm⟩ := bind_some hm
    obtain ⟨z, hz2, e1⟩ := map_some hy
    obtain ⟨d, hd, e2⟩ := map_some hz2
    cases e2
    cases e1
    refine ⟨g, env, d, hd, r, s, fun t H1 e1 x1 s1 o1 => ?_⟩
    have c1 := Cf.pure r s w x1 s1 o1
    have c2 : Cf X.K H env (σ.set j (some t.val)) H1 [] (env.set j (some t)) := c1.less c1.rel.set trivial (c1.satE.set fun u hu => by cases hu; exact c1.satF.1) (fun a => by
      have := set_co (env := env) (j := j) (t := t) (a := a)
      simp only [coL]; omega) fun a => by
      have := set_cu (env := env) (j := j) (t := t) (a := a)
      simp only [cuL]; omega
    refine ⟨by rw [List.getElem?_set, if_neg (fun q => hij q.symm)]; exact g, env.set j (some t), o, e', by rw [erE_set, Option.map_some, e1]; exact hm, c2.rel, c2.satE, c2.base, fun F σ2 env2 H2 e2 c3 p2 => ?_⟩
    have c4 := c2.step c3
    rw [List.append_nil] at c4
    exact k F σ2 env2 H2 e2 c4 fun q hq => (p2 q hq).trans (set_pin hP q hq)
theorem su_nil : SU X i P [] (fun _ => sNx) := fun A oe n c pn gn hz hf => PSs.weak pss_nil fun De σ H ⟨g, env, o, e', hm, r, s, w, k⟩ => by
  cases hm
  exact k [] σ env H rfl (Cf.start r s w) (fun _ _ => rfl) rfl
theorem su_if {c0 : Expr} {body orelse : List Stmt} {mt : String → BM} {mS nS : String → SM} (hc : PUT X i c0 mt) (h1 : SU X i P body mS) (h2 : SU X i P orelse nS) : SU X i P [.If c0 body orelse pos] (fun n => sIf (liftT (mt n)) (mS n) (nS n)) := fun A oe n c pn gn hz hf =>
  pss_one (PS.weak (ps_if (hc A oe n c pn gn hz hf) (h1 A oe n c pn gn hz hf) (h2 A oe n c pn gn hz hf)) fun De σ H ⟨g, env, o, e', hm, r, s, w, k⟩ => by
    obtain ⟨x, hx, hm⟩ := bind_some hm
    obtain ⟨b, hb, e1⟩ := map_some hx
    cases e1
    refine ⟨g, env, b, hb, r, s, fun H1 x1 => ?_⟩
    have c1 := (Cf.start r s w).ex x1
    have fin : ∀ {mm : SM}, mm (erE env) = some (o, e') → σ[i]? = some (some (.ref A)) ∧ trW X.K X.mg noW P mm De σ H1 := fun {mm} hn => ⟨g, env, o, e', hn, c1.rel, c1.satE, c1.base, fun F σ2 env2 H2 e2 c2 p2 => k F σ2 env2 H2 e2 (by
      have := c1.step c2
      rw [List.append_nil] at this
      exact this) p2⟩
    cases b with
    | true =>
      dsimp only
      rw [if_pos rfl] at hm ⊢
      exact fin hm
    | false =>
      dsimp only
      rw [if_neg Bool.false_ne_true] at hm ⊢
      exact fin hm)
end

/-! ### try -/
inductive Cl where
  | only (f : String → Option Bool) (m : SM)
  | as (f : String → Option Bool) (i : Nat) (m : String → SM)
def handD : List Cl → String → SM
  | [], C, env => some (.rt (.s (.ty C)), env)
  | .only f m :: r, C, env => (f C).bind fun b => if b = true then sCalm m env else handD r C env
  | .as f i m :: r, C, env => (f C).bind fun b => if b = true then (sCalm (m C) (env.set i none)).map fun x => (x.1, x.2.set i none) else handD r C env
def sTry (mb : SM) (cs : List Cl) : SM := fun env => (mb env).bind fun x => match x.1 with
  | .rt (.s (.ty C)) => handD cs C x.2
  | o => some (o, x.2)
inductive ClsOk (X : Cx) (P : List Nat) : List ExceptHandler → List Cl → Prop
  | nil : ClsOk X P [] []
  | only {x : Str} {c : Value} {f : String → Option Bool} {m : SM} {b0 : Stmt} {su : List Stmt} {np p : Pos} {r : List ExceptHandler} {l : List Cl} (hc : Names X x c) (hk : ∀ (n : String) (C : Addr) b, f n = some b → X.mg n = some (.ref C) → PySem.W.exmOne X.K (.ref C) c = some b) (hsu : SN X P (b0 :: su) m) (hr : ClsOk X P r l) :
      ClsOk X P (.ExceptHandler (some (.Name x np)) none (b0 :: su) p :: r) (.only f m :: l)
  | as {x n : Str} {c : Value} {i : Nat} {f : String → Option Bool} {m : String → SM} {b0 : Stmt} {su : List Stmt} {np p : Pos} {r : List ExceptHandler} {l : List Cl} (hN : X.N.Nodup) (hi : X.N[i]? = some n) (hln : X.env.kindOf n = some .local) (hP : i ∉ P) (hc : Names X x c)
      (hk : ∀ (n : String) (C : Addr) b, f n = some b → X.mg n = some (.ref C) → PySem.W.exmOne X.K (.ref C) c = some b) (hsu : SU X i P (b0 :: su) m) (hr : ClsOk X P r l) : ClsOk X P (.ExceptHandler (some (.Name x np)) (some n) (b0 :: su) p :: r) (.as f i m :: l)
section
variable {X : Cx} {P : List Nat} {body : List Stmt} {mb : SM} {cs : List Cl} {h0 : ExceptHandler} {hds : List ExceptHandler} {pos : Pos}
/-- the suites as the library's rule wishes them -/
theorem rel_gone {σ : L2.St} {env : TEnv} {i : Nat} {v : Option V} (r : Rel σ env) : Rel (σ.set i v) (env.set i none) := by
  refine ⟨by rw [List.length_set, List.length_set, r.1], fun j u h => ?_⟩
  by_cases e : i = j
  · subst e
    rw [List.getElem?_set] at h
    by_cases l : i < env.length
    · rw [if_pos rfl, if_pos l] at h
      cases h
    · rw [if_pos rfl, if_neg l] at h
      cases h
  · rw [List.getElem?_set, if_neg e] at h
    rw [List.getElem?_set, if_neg e]
    exact r.2 j u h
theorem Cf.gone {K : PySem.W.Frag} {H0 H : Hp} {env0 env : TEnv} {σ : L2.St} {F : List T} {i : Nat} {v : Option V} (c : Cf K H0 env0 σ H F env) : Cf K H0 env0 (σ.set i v) H F (env.set i none) :=
  c.less (rel_gone c.rel) c.satF (c.satE.set fun u hu => by cases hu) (fun a => by have : coE a (env.set i none) ≤ coE a env := none_co; omega) (fun a => by have : cuE a (env.set i none) ≤ cuE a env := none_cu; omega)
theorem hs_of {hds : List ExceptHandler} (h : ClsOk X P hds cs) : ∃ l, HsOk X hds l ∧ ∀ (De : Ends) (Wout : WX) (n : String) (C : Addr) (env0 : TEnv) (H0 : Hp) (env : TEnv) (σ : L2.St) (H : Hp) (o : O) (e' : Env), X.mg n = some (.ref C) → handD cs n (erE env) = some (o, e') → Cf X.K H0 env0 σ H [] env →
    (∀ F σ' env' H', erE env' = e' → Cf X.K H0 env0 σ' H' F env' → (∀ i ∈ P, σ'[i]? = σ[i]?) → outsW X.mg Wout De o F σ' H') → wHs X.K Wout De l (.ref C) none σ H := by
  induction h with
  | nil =>
    refine ⟨[], .nil, fun De Wout n C env0 H0 env σ H o e' gn hm c k => ?_⟩
    cases hm
    exact (k [] σ env H rfl c (fun _ _ => rfl)).2 n C rfl rfl gn
  | @only x c f m b0 su np p r l hc hk hsu hr ih =>
    obtain ⟨l', h1, h2⟩ := ih
    refine ⟨.only c (fun a cls d => match cls, d with
      | .ref C, none => fun De σ H => (∃ nm : String, X.mg nm = some (.ref C)) ∧ trW X.K X.mg noW P m De σ H
      | _, _ => fun _ _ _ => False) :: l', .only hc (fun a oe cls d pn hz hf => ?_) h1, fun De Wout nm C env0 H0 env σ H o e' gn hm c0 k => ?_⟩
    · cases cls with
      | ref C =>
        cases d with
        | none => exact ⟨fun pins s σ H D I z => (hsu a oe z.1.choose C pn z.1.choose_spec hz hf).run pins s σ H D I z.2⟩
        | some _ => exact ⟨fun _ _ _ _ _ _ z => z.elim⟩
      | _ => exact ⟨fun _ _ _ _ _ _ z => z.elim⟩
    · rw [handD] at hm
      obtain ⟨b, hb, hm⟩ := bind_some hm
      refine ⟨b, hk nm C b hb gn, fun eb a na => ⟨⟨nm, gn⟩, ?_⟩, fun eb => ?_⟩
      · subst eb
        rw [if_pos rfl] at hm
        obtain ⟨x, hx, hm⟩ := bind_some hm
        obtain ⟨o', ho, e1⟩ := map_some hm
        cases e1
        refine ⟨env, x.1, x.2, hx, c0.rel, c0.satE, c0.base, fun F σ2 env2 H2 e2 c2 p2 => ?_⟩
        have c3 := c0.step c2
        rw [List.append_nil] at c3
        have q := k F σ2 env2 H2 e2 c3 p2
        obtain ⟨xo, xe⟩ := x
        cases xo with
        | nx => cases ho; exact q
        | bk => cases ho; exact q
        | ct => cases ho; exact q
        | rt d =>
          by_cases hx : d.isx = true
          · unfold calmO at ho
            simp only [hx, if_true] at ho
            cases ho
          · unfold calmO at ho
            simp only [hx] at ho
            cases ho
            exact ⟨q.1, fun _ C2 e4 _ _ => by subst e4; exact absurd rfl hx⟩
      · subst eb
        rw [if_neg Bool.false_ne_true] at hm
        exact h2 De Wout nm C env0 H0 env σ H o e' gn hm c0 k
  | @as x n c i f m b0 su np p r l hN hi hln hP hc hk hsu hr ih =>
    obtain ⟨l', h1, h2⟩ := ih
    refine ⟨.as c i (fun a cls d => match cls, d with
      | .ref C, none => fun De σ H => ∃ nm : String, X.mg nm = some (.ref C) ∧ σ[i]? = some (some (.ref a)) ∧ trW X.K X.mg noW P (m nm) De σ H
      | _, _ => fun _ _ _ => False) :: l', .as hN hi hln hc (fun a oe cls d pn hz hf => ?_) h1, fun De Wout nm C env0 H0 env σ H o e' gn hm c0 k => ?_⟩
    · cases cls with
      | ref C =>
        cases d with
        | none => exact ⟨fun pins s σ H D I z => (hsu a oe z.choose C pn z.choose_spec.1 hz hf).run pins s σ H D I z.choose_spec.2⟩
        | some _ => exact ⟨fun _ _ _ _ _ _ z => z.elim⟩
      | _ => exact ⟨fun _ _ _ _ _ _ z => z.elim⟩
    · rw [handD] at hm
      obtain ⟨b, hb, hm⟩ := bind_some hm
      refine ⟨b, hk nm C b hb gn, fun eb a na ga => ?_, fun eb => ?_⟩
      · subst eb
        rw [if_pos rfl] at hm
        obtain ⟨y, hy, e5⟩ := map_some hm
        obtain ⟨x, hx, hy⟩ := bind_some hy
        obtain ⟨o', ho, e1⟩ := map_some hy
        cases e1
        cases e5
        have c1 := c0.gone (i := i) (v := some (.ref a))
        refine ⟨nm, gn, ga, env.set i none, x.1, x.2, by rw [erE_set]; exact hx, c1.rel, c1.satE, c1.base, fun F σ2 env2 H2 e2 c2 p2 => ?_⟩
        have c3 := (c1.step c2).gone (i := i) (v := none)
        rw [List.append_nil] at c3
        have q := k F (σ2.set i none) (env2.set i none) H2 (by rw [erE_set, e2]; rfl) c3 fun j hj => (set_pin hP j hj).trans ((p2 j hj).trans (set_pin hP j hj))
        obtain ⟨xo, xe⟩ := x
        cases xo with
        | nx => cases ho; exact q
        | bk => cases ho; exact q
        | ct => cases ho; exact q
        | rt d =>
          by_cases hx : d.isx = true
          · unfold calmO at ho
            simp only [hx, if_true] at ho
            cases ho
          · unfold calmO at ho
            simp only [hx] at ho
            cases ho
            exact ⟨q.1, fun _ C2 e4 _ _ => by subst e4; exact absurd rfl hx⟩
      · subst eb
        rw [if_neg Bool.false_ne_true] at hm
        exact h2 De Wout nm C env0 H0 env σ H o e' gn hm c0 k
theorem ss_try (hst : X.stack = X.env :: X.outer) (hf : X.env.frame = some X.env.locals) (hb : ∀ (pn : List (Addr × Obj)) (xe : Value → Shared → Prop), PassesOwn (model X.prog X.w) X.A X.env xe → SSs (X.tr pn xe) P body mb) (hc : ClsOk X P (h0 :: hds) cs) :
    SS X P (.Try body (h0 :: hds) [] [] pos) (sTry mb cs) := by
  obtain ⟨l, h1, h2⟩ := hs_of hc
  refine PS.weak (ps_try_hs hst hf takesX (tb := fun W => trW X.K X.mg W P mb) (fun W pn xe tk po => sss_W tk (hb pn xe po)) h1) fun De σ H ⟨env, o, e', hm, r, s, w, k⟩ => ?_
  obtain ⟨x, hx, hm⟩ := bind_some hm
  refine ⟨env, x.1, x.2, hx, r, s, w, fun F σ1 env1 H1 e1 c1 p1 => ?_⟩
  obtain ⟨xo, xe⟩ := x
  cases xo with
  | nx => cases hm; exact k F σ1 env1 H1 e1 c1 p1
  | bk => cases hm; exact k F σ1 env1 H1 e1 c1 p1
  | ct => cases hm; exact k F σ1 env1 H1 e1 c1 p1
  | rt d =>
    by_cases hxd : d.isx = true
    · refine ⟨fun t hF et => (er_isx (t := t) (by rw [et]; exact hxd)).elim, fun nm C eC hF gn => ?_⟩
      subst eC hF
      exact h2 De (XWish X) nm C env H env1 σ1 H1 o e' gn (by rw [e1]; exact hm) c1 fun F2 σ2 env2 H2 e2 c2 p2 => k F2 σ2 env2 H2 e2 c2 fun j hj => (p2 j hj).trans (p1 j hj)
    · have hm2 : some (O.rt d, xe) = some (o, e') := by
        rw [← hm]
        split
        · rename_i C e; cases e; exact absurd rfl hxd
        · rfl
      cases hm2
      have q := k F σ1 env1 H1 e1 c1 p1
      exact ⟨q.1, fun _ C eC _ _ => by subst eC; exact absurd rfl hxd⟩
end

/-! ### the classes of exceptions -/
def excKb (K : PySem.W.Frag) (C : Addr) : Bool := PySem.W.excIn K C [.type "ValueError", .type "Exception", .type "BaseException", .type "object"] "ValueError.__new__" && PySem.W.keepIn K (.ref C) &&
  decide (PySem.W.subIn K (.ref C) (.type "BaseException") = some true) && decide (PySem.W.typeIn K (.ref C) = some (.type "type")) &&
  decide (PySem.W.findIn K (.ref C) "__getattribute__" = some (some (.builtin "BaseException.__getattribute__"))) && decide (PySem.W.findIn K (.ref C) "__getattr__" = some none) && PySem.W.hasDictIn K C &&
  decide (PySem.W.findIn K (.ref C) "__class__" = some (some (.builtin "object.__class__"))) && decide (PySem.W.specialIn K (.builtin "object.__class__") "__get__" = some (some (.builtin "getset_descriptor.__get__"))) &&
  decide (PySem.W.takesIn K (.builtin "object.__class__") = some true) && decide (PySem.W.mroIn K C (.type "object") = some true)
structure ExcK (K : PySem.W.Frag) (C : Addr) : Prop where
  q : PySem.W.excIn K C [.type "ValueError", .type "Exception", .type "BaseException", .type "object"] "ValueError.__new__" = true
  k : PySem.W.keepIn K (.ref C) = true
  s : PySem.W.subIn K (.ref C) (.type "BaseException") = some true
  t : PySem.W.typeIn K (.ref C) = some (.type "type")
  c : ExcC K C
theorem excK_of {K : PySem.W.Frag} {C : Addr} (h : excKb K C = true) : ExcK K C := by
  unfold excKb at h
  simp only [Bool.and_eq_true, decide_eq_true_eq] at h
  obtain ⟨⟨⟨⟨⟨⟨⟨⟨⟨⟨h1, h2⟩, h3⟩, h4⟩, h5⟩, h6⟩, h7⟩, h8⟩, h9⟩, h10⟩, h11⟩ := h
  exact ⟨h1, h2, h3, h4, ⟨h5, h6, h3, h7, h8, h9, h10, h11⟩⟩
theorem ss_raiseK {X : Cx} {P : List Nat} {m : PM} {e : Expr} {n : String} {C : Addr} {p pos pos' : Pos} (E : ExcK X.K C) (gC : X.mg n = some (.ref C)) (hc : X.calm = true) (he : SP X e m) (hg : Gl X n := by rfl)
    (hs : starEach [e] X.env = (false, eval e X.env) :: starEach [] X.env := by rfl) (hdb : ((n : Str) == ("__debug__" : Str)) = false := by decide) : SS X P (.Raise (some (.Call (.Name n p) [e] [] pos)) none pos') (sRaise n m) :=
  ss_raise PySem.F.excBase_ValueError E.q gC E.k (raises_own E.s E.t) hc he hg hs hdb
/-- which classes stand beneath d, of the known ones -/
def tabS (R : List String) (d : String) (n : String) : Option Bool := if n ∈ R then some (n == d || d == "FloorError" || d == "ValueError") else none
def isB (n d : String) : Bool := n == d || d == "FloorError" || d == "ValueError"
/-- what the program's classes say of one another -/
def pairsB (K : PySem.W.Frag) (ad : List (String × Addr)) (d : String) (v : Value) (h : Bool) : Bool := ad.all fun p => decide (PySem.W.kitOne K (.ref p.2) v = some (isB p.1 d)) && (!h || decide (PySem.W.exmOne K (.ref p.2) v = some (isB p.1 d)))
section
variable {K : PySem.W.Frag} {mg : Str → Option Value} {ad : List (String × Addr)} {d : String} {v : Value} {hh : Bool}
theorem tab_in {n : String} {C : Addr} {b : Bool} (hm : ∀ p ∈ ad, mg p.1 = some (.ref p.2)) (h : tabS (ad.map (·.1)) d n = some b) (g : mg n = some (.ref C)) : (n, C) ∈ ad ∧ b = isB n d := by
  unfold tabS at h
  split at h
  · rename_i hn
    obtain ⟨p, hp, e⟩ := List.mem_map.mp hn
    subst e
    have q := hm p hp
    rw [g] at q
    cases q
    cases h
    exact ⟨hp, rfl⟩
  · cases h
theorem tab_kit (h : pairsB K ad d v hh = true) (hm : ∀ p ∈ ad, mg p.1 = some (.ref p.2)) (he : ∀ p ∈ ad, ExcK K p.2) (n : String) (C : Addr) (b : Bool) (hb : tabS (ad.map (·.1)) d n = some b) (g : mg n = some (.ref C)) : ExcC K C ∧ PySem.W.kitOne K (.ref C) v = some b := by
  obtain ⟨h1, rfl⟩ := tab_in hm hb g
  have q := List.all_eq_true.mp h _ h1
  rw [Bool.and_eq_true] at q
  exact ⟨(he _ h1).c, of_decide_eq_true q.1⟩
theorem tab_exm (h : pairsB K ad d v true = true) (hm : ∀ p ∈ ad, mg p.1 = some (.ref p.2)) (n : String) (C : Addr) (b : Bool) (hb : tabS (ad.map (·.1)) d n = some b) (g : mg n = some (.ref C)) : PySem.W.exmOne K (.ref C) v = some b := by
  obtain ⟨h1, rfl⟩ := tab_in hm hb g
  have q := List.all_eq_true.mp h _ h1
  rw [Bool.and_eq_true] at q
  exact of_decide_eq_true (by simpa using q.2)
end
theorem bt_ValueError : bootBuiltins "ValueError" = some (.type "ValueError") := by decide +kernel
end Ow
namespace Ow
open PySem L2
theorem excK_mk {K : PySem.W.Frag} {C : Addr} (h1 : PySem.W.excIn K C [.type "ValueError", .type "Exception", .type "BaseException", .type "object"] "ValueError.__new__" = true) (h2 : PySem.W.keepIn K (.ref C) = true) (h3 : PySem.W.subIn K (.ref C) (.type "BaseException") = some true) (h4 : PySem.W.typeIn K (.ref C) = some (.type "type"))
    (h5 : PySem.W.findIn K (.ref C) "__getattribute__" = some (some (.builtin "BaseException.__getattribute__"))) (h6 : PySem.W.findIn K (.ref C) "__getattr__" = some none) (h7 : PySem.W.hasDictIn K C = true) (h8 : PySem.W.findIn K (.ref C) "__class__" = some (some (.builtin "object.__class__")))
    (h9 : PySem.W.specialIn K (.builtin "object.__class__") "__get__" = some (some (.builtin "getset_descriptor.__get__"))) (h10 : PySem.W.takesIn K (.builtin "object.__class__") = some true) (h11 : PySem.W.mroIn K C (.type "object") = some true) : ExcK K C := ⟨h1, h2, h3, h4, ⟨h5, h6, h3, h7, h8, h9, h10, h11⟩⟩
/-- what the program's classes say of one another, one by one -/
inductive PairsK (K : PySem.W.Frag) (d : String) (v : Value) (hh : Bool) : List (String × Addr) → Prop
  | nil : PairsK K d v hh []
  | cons {n : String} {a : Addr} {b : Bool} {r : List (String × Addr)} (h1 : PySem.W.kitOne K (.ref a) v = some b) (hb : isB n d = b) (h2 : hh = true → PySem.W.exmOne K (.ref a) v = some b) (hr : PairsK K d v hh r) : PairsK K d v hh ((n, a) :: r)
section
variable {K : PySem.W.Frag} {mg : Str → Option Value} {ad : List (String × Addr)} {d : String} {v : Value} {hh : Bool}
theorem PairsK.at (h : PairsK K d v hh ad) : ∀ p ∈ ad, PySem.W.kitOne K (.ref p.2) v = some (isB p.1 d) ∧ (hh = true → PySem.W.exmOne K (.ref p.2) v = some (isB p.1 d)) := by
  induction h with
  | nil => intro p hp; cases hp
  | cons h1 hb h2 hr ih =>
    intro p hp
    rcases List.mem_cons.mp hp with e | e
    · subst e; subst hb; exact ⟨h1, h2⟩
    · exact ih p e
theorem tab_kitK (h : PairsK K d v hh ad) (hm : ∀ p ∈ ad, mg p.1 = some (.ref p.2)) (he : ∀ p ∈ ad, ExcK K p.2) (n : String) (C : Addr) (b : Bool) (hb : tabS (ad.map (·.1)) d n = some b) (g : mg n = some (.ref C)) : ExcC K C ∧ PySem.W.kitOne K (.ref C) v = some b := by
  obtain ⟨h1, rfl⟩ := tab_in hm hb g
  exact ⟨(he _ h1).c, (h.at _ h1).1⟩
theorem tab_exmK (h : PairsK K d v true ad) (hm : ∀ p ∈ ad, mg p.1 = some (.ref p.2)) (n : String) (C : Addr) (b : Bool) (hb : tabS (ad.map (·.1)) d n = some b) (g : mg n = some (.ref C)) : PySem.W.exmOne K (.ref C) v = some b := by
  obtain ⟨h1, rfl⟩ := tab_in hm hb g
  exact (h.at _ h1).2 rfl
end
end Ow

namespace Ow
open PySem L2
/-! ### a < b < c -/
def mChain (f f' : D → D → Option V) (ma mb mc : PM) : PM := fun env => (ma env).bind fun x => (mb env).bind fun y => (f x y).bind fun v => match v with
  | .bl true => (mc env).bind fun z => (f' y z).bind fun w => match w with
    | .bl b => some (.s (.bl b))
    | _ => none
  | .bl false => some (.s (.bl false))
  | _ => none
section
variable {X : Cx} {a b c : Expr} {ma mb mc : PM} {pos : Pos}
theorem chain_rd {K : PySem.W.Frag} {σ : L2.St} {H : Hp} {Q : VK} {r r' : R2} {f f' : D → D → Option V} (hf : Op2 K r f) (hf' : Op2 K r' f') (h : ∃ env d, mChain f f' ma mb mc (erE env) = some d ∧ Rel σ env ∧ SatE K H env ∧ ∀ v H', d = .s (.bl v) → Ex H H' → Q (.bl v) H') : tChain r r' (trB K ma) (trB K mb) (trB K mc) σ H Q := by
  obtain ⟨env, d, hm, hr, s, k⟩ := h
  unfold mChain at hm
  obtain ⟨x, hx, hm⟩ := bind_some hm
  obtain ⟨y, hy, hm⟩ := bind_some hm
  obtain ⟨v, hv, hm⟩ := bind_some hm
  refine ⟨env, x, hx, hr, s, fun t H1 e1 x1 s1 _ => ⟨env, y, hy, hr, s.ex x1, fun u H2 e2 x2 s2 _ => ?_⟩⟩
  subst e1 e2
  cases v with
  | bl b =>
    cases b with
    | true =>
      obtain ⟨z, hz, hm⟩ := bind_some hm
      obtain ⟨w, hw, hm⟩ := bind_some hm
      refine hf t u (.bl true) H2 _ (sat_ex x2 s1) s2 hv ⟨true, rfl, ?_⟩
      rw [if_pos rfl]
      refine ⟨env, z, hz, hr, s.ex (x1.trans x2), fun tz H3 e3 x3 s3 _ => ?_⟩
      subst e3
      cases w with
      | bl b => cases hm; exact hf' u tz (.bl b) H3 Q (sat_ex x3 s2) s3 hw (k _ H3 rfl ((x1.trans x2).trans x3))
      | _ => cases hm
    | false =>
      cases hm
      refine hf t u (.bl false) H2 _ (sat_ex x2 s1) s2 hv ⟨false, rfl, ?_⟩
      rw [if_neg Bool.false_ne_true]
      exact k false H2 rfl (x1.trans x2)
  | _ => cases hm
theorem chain_bl {f f' : D → D → Option V} {env : Env} {d : D} (h : mChain f f' ma mb mc env = some d) : ∃ v, d = .s (.bl v) := by
  unfold mChain at h
  obtain ⟨x, hx, hm⟩ := bind_some h
  obtain ⟨y, hy, hm⟩ := bind_some hm
  obtain ⟨v, hv, hm⟩ := bind_some hm
  cases v with
  | bl b =>
    cases b with
    | true =>
      obtain ⟨z, hz, hm⟩ := bind_some hm
      obtain ⟨w, hw, hm⟩ := bind_some hm
      cases w with
      | bl b => cases hm; exact ⟨_, rfl⟩
      | _ => cases hm
    | false => cases hm; exact ⟨_, rfl⟩
  | _ => cases hm
theorem sp_chain {op op' : CmpOp} {r r' : R2} {f f' : D → D → Option V} (ho : OpR X (compareOp op) r) (ho' : OpR X (compareOp op') r') (hf : Op2 X.K r f) (hf' : Op2 X.K r' f') (ha : SB X a ma) (hb : SB X b mb) (hc : SB X c mc) (hm : lastMarks [op, op'] [b, c] = false := by with_unfolding_all rfl) :
    SP X (.Compare a [op, op'] [b, c] pos) (mChain f f' ma mb mc) := PE.weak (pe_chain ho ho' ha hb hc hm) fun σ H Q ⟨env, d, hm, r, s, k⟩ => by
  obtain ⟨v, e⟩ := chain_bl hm
  subst e
  refine chain_rd hf hf' ⟨env, _, hm, r, s, fun v H' e x => ?_⟩
  cases e
  exact k (.s (.bl v)) H' rfl x trivial own_s
theorem st_chain {op op' : CmpOp} {r r' : R2} {f f' : D → D → Option V} (ho : OpR X (compareOp op) r) (ho' : OpR X (compareOp op') r') (hf : Op2 X.K r f) (hf' : Op2 X.K r' f') (ha : SB X a ma) (hb : SB X b mb) (hc : SB X c mc) (hm : lastMarks [op, op'] [b, c] = false := by with_unfolding_all rfl) :
    ST X (.Compare a [op, op'] [b, c] pos) (mB (mChain f f' ma mb mc)) := PT.weak (pt_chain ho ho' ha hb hc hm) fun σ H Q ⟨env, d, hm, r, s, k⟩ => by
  obtain ⟨z, hz, hb⟩ := bind_some hm
  obtain ⟨v, e⟩ := chain_bl hz
  subst e
  refine chain_rd hf hf' ⟨env, _, hz, r, s, fun v H' e x => ?_⟩
  cases e
  cases hb
  exact ⟨_, rfl, k H' x⟩
end
end Ow

namespace Ow
open PySem L2

/-! ### comprehensions over two -/
def lcD2 (g : Tg) (mt : BM) (body : Env → Option (List D)) (e0 : Env) : List D → Option (List D)
  | [] => some []
  | d :: ds => (bD g d e0).bind fun e1 => (mt e1).bind fun b => if b = true then (body e1).bind fun r => (lcD2 g mt body e0 ds).map (r ++ ·) else lcD2 g mt body e0 ds
def bdy2 (mi1 : LM) (g1 : Tg) (mt1 : BM) (me : PM) (vs1 : List Nat) : Env → Option (List D) := fun e1 => (mi1 e1).bind fun ds1 => lcD g1 mt1 me (wipeD e1 vs1) ds1
def mLc2 (mi : LM) (g : Tg) (mt : BM) (mi1 : LM) (g1 : Tg) (mt1 : BM) (me : PM) (vs vs1 : List Nat) : PM := fun env => (mi env).bind fun ds => (lcD2 g mt (bdy2 mi1 g1 mt1 me vs1) (wipeD env vs) ds).bind fun rs => if rs.length ≤ 16777216 then some (.n (.lst .o) rs) else none
theorem lcD2_drop {g : Tg} {mt : BM} {body : Env → Option (List D)} {e0 : Env} {ds : List D} {i : Nat} {d : D} {r : List D} (hd : ds[i]? = some d) (h : lcD2 g mt body e0 (ds.drop i) = some r) :
    ∃ e1 b, bD g d e0 = some e1 ∧ mt e1 = some b ∧ ((b = true ∧ ∃ z r', body e1 = some z ∧ lcD2 g mt body e0 (ds.drop (i + 1)) = some r' ∧ r = z ++ r') ∨ (b = false ∧ lcD2 g mt body e0 (ds.drop (i + 1)) = some r)) := by
  obtain ⟨hi, e⟩ := List.getElem?_eq_some_iff.mp hd
  rw [List.drop_eq_getElem_cons hi, e, lcD2] at h
  obtain ⟨e1, h1, h⟩ := bind_some h
  obtain ⟨b, h2, h⟩ := bind_some h
  refine ⟨e1, b, h1, h2, ?_⟩
  cases b with
  | true =>
    rw [if_pos rfl] at h
    obtain ⟨z, h3, h⟩ := bind_some h
    obtain ⟨r', h4, rfl⟩ := map_some h
    exact .inl ⟨rfl, z, r', h3, h4, rfl⟩
  | false =>
    rw [if_neg Bool.false_ne_true] at h
    exact .inr ⟨rfl, h⟩
section
variable {K : PySem.W.Frag} {H H1 H' : Hp} {σ : L2.St} {env : TEnv}
theorem co_of {n : Nat} {P : Prop} (h : 0 < n → P) (hp : ¬P) : n = 0 := by
  rcases Nat.eq_zero_or_pos n with z | z
  · exact z
  · exact absurd (h z) hp
/-- more items behind what is made -/
theorem OwnL.app {eS : TEnv} {acc ts : List T} (fr : ∀ a, H1 a = none → H a = none) (hs : SatE K H eS) (s1 : satL K H1 acc) (o1 : OwnL H eS acc) (o2 : OwnL H1 eS ts) : OwnL H eS (acc ++ ts) := fun a => by
  have h1 := o1 a
  have h2 := o2 a
  have c1 : 0 < coL a acc → H1 a ≠ none := fun z => coL_some acc s1 z
  have c2 : 0 < cuL a acc → H1 a ≠ none := fun z => cuL_some acc s1 z
  have c3 : 0 < cuE a eS → H a ≠ none := fun z => cuE_some hs z
  have c4 : H1 a = none → H a = none := fr a
  rw [coL_append, cuL_append]
  by_cases q1 : H a = none
  · have n3 : cuE a eS = 0 := co_of c3 fun z => z q1
    by_cases q2 : H1 a = none
    · have n1 : coL a acc = 0 := co_of c1 fun z => z q2
      have n2 : cuL a acc = 0 := co_of c2 fun z => z q2
      rw [n1, n2, Nat.zero_add, Nat.zero_add]
      exact ⟨h2.1, fun _ => q1, fun _ => .inr q1⟩
    · have n1 : coL a ts = 0 := co_of h2.2.1 q2
      have n2 : cuL a ts = 0 := co_of h2.2.2 fun z => z.elim (fun z => by omega) q2
      rw [n1, n2, Nat.add_zero, Nat.add_zero]
      exact ⟨h1.1, fun _ => q1, fun _ => .inr q1⟩
  · have n1 : coL a acc = 0 := co_of h1.2.1 q1
    have n2 : coL a ts = 0 := co_of (fun z => c4 (h2.2.1 z)) q1
    rw [n1, n2]
    refine ⟨⟨by omega, .inl rfl⟩, fun z => absurd z (by omega), fun z => ?_⟩
    by_cases q : 0 < cuL a acc
    · exact h1.2.2 q
    · rcases h2.2.2 (by omega) with z | z
      · exact .inl z
      · exact .inr (c4 z)
theorem coE_le_mem : ∀ {env : TEnv} {t : T} {a : Addr}, some t ∈ env → t.co a ≤ coE a env
  | o :: r, t, a, h => by
    rw [coE]
    rcases List.mem_cons.mp h with z | z
    · rw [← z, oT]; omega
    · have := coE_le_mem (a := a) z
      omega
theorem cuE_le_mem : ∀ {env : TEnv} {t : T} {a : Addr}, some t ∈ env → t.cu a ≤ cuE a env
  | o :: r, t, a, h => by
    rw [cuE]
    rcases List.mem_cons.mp h with z | z
    · rw [← z, oT]; omega
    · have := cuE_le_mem (a := a) z
      omega
theorem SatE.mut {a : Addr} {o : HO} (h : SatE K H env) (h1 : coE a env = 0) (h2 : cuE a env = 0) : SatE K (upd H a o) env := fun t ht => by
  have := coE_le_mem (a := a) ht
  have := cuE_le_mem (a := a) ht
  refine sat_keep t (fun b o q e => ?_) (h t ht)
  have ne : b ≠ a := fun z => by subst z; omega
  rw [upd_ne ne]; exact e
theorem satL.mut {a : Addr} {o : HO} {ts : List T} (h : satL K H ts) (h1 : coL a ts = 0) (h2 : cuL a ts = 0) : satL K (upd H a o) ts := by
  refine satL_keep ts (fun b o q e => ?_) h
  have ne : b ≠ a := fun z => by subst z; omega
  rw [upd_ne ne]; exact e
theorem fr_mut {a : Addr} {o : HO} {b : Addr} (h : upd H a o b = none) : b ≠ a ∧ H b = none := by
  by_cases e : b = a
  · subst e; rw [upd_same] at h; cases h
  · rw [upd_ne e] at h; exact ⟨e, h⟩
end
structure Lc2W (K : PySem.W.Frag) (H1 : Hp) (Dl : Addr) (eS : TEnv) (g : Tg) (mt : BM) (body : Env → Option (List D)) (e0 : Env) (ds rs : List D) (i m : Nat) (H' : Hp) : Prop where
  le : i ≤ ds.length
  ms : m = ds.length - i
  ex : Ex H1 H'
  acc : ∃ acc : List T, H' Dl = some (.lst (vals acc)) ∧ satL K H' acc ∧ OwnL H1 eS acc ∧ coL Dl acc = 0 ∧ cuL Dl acc = 0 ∧ ∃ r, lcD2 g mt body e0 (ds.drop i) = some r ∧ rs = erL acc ++ r
structure Lc2V (K : PySem.W.Frag) (H1 H5 : Hp) (Dl : Addr) (env2 : TEnv) (src1 acc : List T) (eS1 : TEnv) (g1 : Tg) (mt1 : BM) (me : PM) (e1 : Env) (ds1 r' rs : List D) (j k : Nat) (H' : Hp) : Prop where
  le : j ≤ ds1.length
  ms : k = ds1.length - j
  ex : Ex H1 H'
  fr : ∀ a, H' a = none → H5 a = none
  sE : SatE K H' env2
  sS : satL K H' src1
  sA : satL K H' acc
  acc : ∃ part : List T, H' Dl = some (.lst (vals (acc ++ part))) ∧ satL K H' part ∧ OwnL H5 eS1 part ∧ coL Dl part = 0 ∧ cuL Dl part = 0 ∧ ∃ r, lcD g1 mt1 me e1 (ds1.drop j) = some r ∧ rs = erL acc ++ (erL part ++ (r ++ r'))
section
variable {X : Cx} {elt tg iter tg1 iter1 : Expr} {ifs ifs1 : List Expr} {scope : Scope} {own : List (Str × Nat)} {pos : Pos} {mi mi1 : LM} {g g1 : Tg} {mt mt1 : BM} {me : PM}
theorem lc2_rd {K : PySem.W.Frag} {σ : L2.St} {H : Hp} {Q : VK} {vs vs1 : List Nat} (hsl : ∀ i ∈ g.sl, i ∈ vs) (hsl1 : ∀ i ∈ g1.sl, i ∈ vs1) (h : trP K (mLc2 mi g mt mi1 g1 mt1 me vs vs1) σ H Q) : tLc2 (trI K mi) (gOf K g) (trT K mt) (trI K mi1) (gOf K g1) (trT K mt1) (trP K me) vs vs1 σ H Q := by
  obtain ⟨env, d, hm, r, s, k⟩ := h
  obtain ⟨ds, hi, hm⟩ := bind_some hm
  obtain ⟨rs, hrs, hm⟩ := bind_some hm
  split at hm
  case isFalse => cases hm
  rename_i hlen
  cases hm
  refine ⟨env, ds, hi, r, s, fun J src H1 x1 ss bs w Dl hD => ?_⟩
  rw [← wipe_er] at hrs
  let eS : TEnv := wipeT env vs ++ src.map some
  have swv : SatE K H1 (wipeT env vs) := wipe_sat (s.ex x1) vs
  have satS : SatE K H1 eS := fun t ht => by
    rcases List.mem_append.mp ht with q | q
    · exact swv t q
    · obtain ⟨u, hu, e⟩ := List.mem_map.mp q
      cases e
      exact satL_iff.mp ss _ hu
  have cuS : ∀ a, cuE a eS = cuE a (wipeT env vs) + cuL a src := fun a => by show cuE a (_ ++ _) = _; rw [cuE_app, cuE_some_map]
  refine ⟨Lc2W K H1 Dl eS g mt (bdy2 mi1 g1 mt1 me vs1) (erE (wipeT env vs)) ds rs, ⟨ds.length, ?_⟩, fun i m H2 W => ?_⟩
  · exact ⟨Nat.zero_le _, rfl, Evl.Ex.new hD, [], upd_same, trivial, ownL_nil, rfl, rfl, rs, hrs, rfl⟩
  obtain ⟨le, ms, ex, acc, hacc, sacc, oacc, n1, n2, rr, hrr, ers⟩ := W
  have ss2 : satL K H2 src := satL_ex ex ss
  by_cases hi2 : i < ds.length
  · refine .inr ⟨w.go i H2 ss2 hi2, fun H' => ∃ m', m' < m ∧ Lc2W K H1 Dl eS g mt (bdy2 mi1 g1 mt1 me vs1) (erE (wipeT env vs)) ds rs (i + 1) m' H', fun H' h => h, fun x H3 hy => ?_⟩
    have hd := List.getElem?_eq_getElem hi2
    obtain ⟨t, rfl, et, x3, s3, c3, u3⟩ := w.yld i H2 x H3 ss2 hy _ hd
    obtain ⟨e1, b, hb1, hb2, hb3⟩ := lcD2_drop hd hrr
    rw [← et] at hb1
    have sw : SatE K H3 (wipeT env vs) := (swv.ex ex).ex x3
    refine g_run g t (wipe σ vs) (wipeT env vs) e1 _ (wipe_rel r vs) s3 hb1 fun σ2 env2 B => ?_
    refine ⟨wipe_same B.len (fun i hi => (B.out i hi).1) hsl, ?_⟩
    have s2 : SatE K H3 env2 := fun u hu => by
      rcases B.sat u hu with q | q
      · exact sw u q
      · exact q
    have hn2 : H2 Dl ≠ none := by rw [hacc]; exact fun z => by cases z
    have hl3 : H3 Dl = some (.lst (vals acc)) := x3 Dl _ hacc
    -- the list that is made is none of what the turn holds
    have v1 : coE Dl env2 = 0 := by
      have := B.co Dl
      have a1 : coE Dl (wipeT env vs) = 0 := co_of (coE_some swv) fun z => z hD
      have a2 : t.co Dl = 0 := co_of (fun z => coL_some src ss (c3 Dl z)) fun z => z hD
      omega
    have v2 : cuE Dl env2 = 0 := by
      have := B.cu Dl
      have a1 : cuE Dl (wipeT env vs) = 0 := co_of (cuE_some swv) fun z => z hD
      have a2 : t.cu Dl = 0 := co_of (u3 Dl) fun z => z.elim (fun z => cuL_some src ss z hD) hn2
      omega
    have cu2 : ∀ a, 0 < cuE a env2 → 0 < cuE a eS ∨ H2 a = none := fun a q => by
      have := B.cu a
      by_cases q2 : 0 < cuE a (wipeT env vs)
      · exact .inl (by rw [cuS]; omega)
      · rcases u3 a (by omega) with z | z
        · exact .inl (by rw [cuS]; omega)
        · exact .inr z
    refine ⟨env2, b, by rw [B.er]; exact hb2, B.rel, s2, fun H4 x4 => ?_⟩
    have hl4 : H4 Dl = some (.lst (vals acc)) := x4 Dl _ hl3
    have ex4 : Ex H1 H4 := (ex.trans x3).trans x4
    have x24 : Ex H2 H4 := x3.trans x4
    rcases hb3 with ⟨rfl, z, r', hz, hr', rfl⟩ | ⟨rfl, hr'⟩
    · dsimp only
      rw [if_pos rfl]
      obtain ⟨ds1, hds1, hz⟩ := bind_some hz
      refine ⟨env2, ds1, by rw [B.er]; exact hds1, B.rel, s2.ex x4, fun J1 src1 H5 x5 ss1 bs1 w1 => ?_⟩
      have s25 : SatE K H5 env2 := (s2.ex x4).ex x5
      have hl5 : H5 Dl = some (.lst (vals acc)) := x5 Dl _ hl4
      have hn4 : H4 Dl ≠ none := by rw [hl4]; exact fun z => by cases z
      have v3 : coL Dl src1 = 0 := co_of (bs1 Dl).1 fun z => z.elim (fun z => by omega) hn4
      have v4 : cuL Dl src1 = 0 := co_of (bs1 Dl).2 fun z => z.elim (fun z => by omega) hn4
      have x25 : Ex H2 H5 := x24.trans x5
      let eS1 : TEnv := wipeT env2 vs1 ++ src1.map some
      have satS1 : SatE K H5 eS1 := fun t ht => by
        rcases List.mem_append.mp ht with q | q
        · exact wipe_sat s25 vs1 t q
        · obtain ⟨u, hu, e⟩ := List.mem_map.mp q
          cases e
          exact satL_iff.mp ss1 _ hu
      have cuS1 : ∀ a, cuE a eS1 = cuE a (wipeT env2 vs1) + cuL a src1 := fun a => by show cuE a (_ ++ _) = _; rw [cuE_app, cuE_some_map]
      rw [← B.er, ← wipe_er] at hz
      refine ⟨Lc2V K H1 H5 Dl env2 src1 acc eS1 g1 mt1 me (erE (wipeT env2 vs1)) ds1 r' rs, ⟨ds1.length, ?_⟩, fun j kk H6 V => ?_⟩
      · exact ⟨Nat.zero_le _, rfl, ex4.trans x5, fun a z => z, s25, ss1, satL_ex x25 sacc, [], by rw [List.append_nil]; exact hl5, trivial, ownL_nil, rfl, rfl, z, hz, by rw [ers]; rfl⟩
      obtain ⟨le1, ms1, ex6, fr6, sE, sS, sA, part, hpart, spart, opart, p1, p2, r1, hr1, ers1⟩ := V
      by_cases hj2 : j < ds1.length
      · refine .inr ⟨w1.go j H6 sS hj2, fun H' => ∃ k', k' < kk ∧ Lc2V K H1 H5 Dl env2 src1 acc eS1 g1 mt1 me (erE (wipeT env2 vs1)) ds1 r' rs (j + 1) k' H', fun H' h => h, fun x H7 hy1 => ?_⟩
        have hd1 := List.getElem?_eq_getElem hj2
        obtain ⟨t1, rfl, et1, x7, s7, c7, u7⟩ := w1.yld j H6 x H7 sS hy1 _ hd1
        obtain ⟨e2, b1, hc1, hc2, hc3⟩ := lcD_drop hd1 hr1
        rw [← et1] at hc1
        refine g_run g1 t1 (wipe σ2 vs1) (wipeT env2 vs1) e2 _ (wipe_rel B.rel vs1) s7 hc1 fun σ3 env3 B1 => ?_
        refine ⟨wipe_same B1.len (fun i hi => (B1.out i hi).1) hsl1, ?_⟩
        have s73 : SatE K H7 env3 := fun u hu => by
          rcases B1.sat u hu with q | q
          · exact (wipe_sat sE vs1).ex x7 u q
          · exact q
        have hl7 : H7 Dl = some (.lst (vals (acc ++ part))) := x7 Dl _ hpart
        refine ⟨env3, b1, by rw [B1.er]; exact hc2, B1.rel, s73, fun H8 x8 => ?_⟩
        have hl8 : H8 Dl = some (.lst (vals (acc ++ part))) := x8 Dl _ hl7
        have x68 : Ex H6 H8 := x7.trans x8
        rcases hc3 with ⟨rfl, y, r2, hy2, hr2, rfl⟩ | ⟨rfl, hr2⟩
        · dsimp only
          rw [if_pos rfl]
          refine ⟨env3, y, by rw [B1.er]; exact hy2, B1.rel, s73.ex x8, fun u H9 eu x9 s9 o9 => ?_⟩
          have hl9 : H9 Dl = some (.lst (vals (acc ++ part))) := x9 Dl _ hl8
          have x69 : Ex H6 H9 := x68.trans x9
          have hn6 : H6 Dl ≠ none := by rw [hpart]; exact fun z => by cases z
          have hn8 : H8 Dl ≠ none := by rw [hl8]; exact fun z => by cases z
          have ou : Own H6 eS1 u := fun a => by
            have h := o9 a
            refine ⟨h.1, fun q => Evl.fresh_back x68 (h.2.1 q), fun q => ?_⟩
            rcases h.2.2 q with q | q
            · have c := B1.cu a
              by_cases q2 : 0 < cuE a (wipeT env2 vs1)
              · exact .inl (by rw [cuS1]; omega)
              · rcases u7 a (by omega) with z | z
                · exact .inl (by rw [cuS1]; omega)
                · exact .inr z
            · exact .inr (Evl.fresh_back x68 q)
          have u1 : u.co Dl = 0 := co_of (ou Dl).2.1 hn6
          have u2 : u.cu Dl = 0 := co_of (ou Dl).2.2 fun z => z.elim (fun z => by
            have := wipe_cu (env := env2) (a := Dl) vs1
            rw [cuS1] at z; omega) hn6
          have ol : OwnL H6 eS1 [u] := fun a => by
            rw [co1, cu1]; exact ou a
          have lacc : (acc ++ part).length < 16777216 := by
            have e1 : (acc ++ part).length = (erL acc ++ erL part).length := by rw [List.length_append, List.length_append, erL_length, erL_length]
            rw [ers1] at hlen
            simp only [List.length_append, List.length_cons] at hlen e1 ⊢
            omega
          refine ⟨vals (acc ++ part), hl9, Nat.lt_of_lt_of_le (by rw [List.length_map]; exact lacc) (sizeLine_le (Nat.le_refl _)), kk - 1, by omega, ?_⟩
          have sp9 : satL K H9 (part ++ [u]) := satL_append.mpr ⟨satL_ex x69 spart, s9, trivial⟩
          have m1 : coL Dl (part ++ [u]) = 0 := by rw [coL_append, co1, p1, u1]
          have m2 : cuL Dl (part ++ [u]) = 0 := by rw [cuL_append, cu1, p2, u2]
          refine ⟨hj2, by omega, Evl.Ex.mut (ex6.trans x69) hD, fun a z => fr6 a (Evl.fresh_back x69 (fr_mut z).2), (sE.ex x69).mut v1 v2, (satL_ex x69 sS).mut v3 v4, (satL_ex x69 sA).mut n1 n2, part ++ [u], ?_, sp9.mut m1 m2, OwnL.app fr6 satS1 spart opart ol, m1, m2, r2, hr2, ?_⟩
          · rw [upd_same]; simp [vals]
          · rw [ers1, erL_append, erL, erL, eu, List.append_assoc]; rfl
        · dsimp only
          rw [if_neg Bool.false_ne_true]
          exact ⟨kk - 1, by omega, hj2, by omega, ex6.trans x68, fun a z => fr6 a (Evl.fresh_back x68 z), sE.ex x68, satL_ex x68 sS, satL_ex x68 sA, part, hl8, satL_ex x68 spart, opart, p1, p2, r1, hr2, ers1⟩
      · have hj3 : ds1.length ≤ j := Nat.le_of_not_lt hj2
        refine .inl ⟨w1.stop j H6 sS hj3, m - 1, by omega, hi2, by omega, ex6, acc ++ part, hpart, satL_append.mpr ⟨sA, spart⟩, ?_, by rw [coL_append, n1, p1], by rw [cuL_append, n2, p2], r', hr', ?_⟩
        · refine OwnL.app (fun a z => Evl.fresh_back ex z) satS sacc oacc fun a => ?_
          have h := opart a
          refine ⟨h.1, fun q => Evl.fresh_back x25 (h.2.1 q), fun q => ?_⟩
          rcases h.2.2 q with q | q
          · have := wipe_cu (env := env2) (a := a) vs1
            rw [cuS1] at q
            by_cases q2 : 0 < cuL a src1
            · rcases (bs1 a).2 q2 with z | z
              · exact cu2 a z
              · exact .inr (Evl.fresh_back x24 z)
            · exact cu2 a (by omega)
          · exact .inr (Evl.fresh_back x25 q)
        · rw [List.drop_eq_nil_of_le hj3, lcD] at hr1
          cases hr1
          rw [ers1, erL_append, List.append_assoc]; rfl
    · dsimp only
      rw [if_neg Bool.false_ne_true]
      exact ⟨m - 1, by omega, hi2, by omega, ex4, acc, hl4, satL_ex x24 sacc, oacc, n1, n2, rr, hr', ers⟩
  · have hi3 : ds.length ≤ i := Nat.le_of_not_lt hi2
    refine .inl ⟨w.stop i H2 ss2 hi3, ?_⟩
    rw [List.drop_eq_nil_of_le hi3, lcD2] at hrr
    cases hrr
    rw [List.append_nil] at ers
    refine k (.n (.lst .o) Dl acc) H2 (by rw [T.er, ← ers]) (x1.trans ex) ⟨⟨hacc, rfl⟩, sacc⟩ fun a => ?_
    have h := oacc a
    have c4 : H1 a = none → H a = none := Evl.fresh_back x1
    rw [T.co, T.cu]
    by_cases q : Dl = a
    · subst q
      rw [n1, n2]
      refine ⟨by simp [Kd.own], fun _ => c4 hD, fun q => absurd q (by simp [Kd.own])⟩
    · rw [if_neg (fun z => q z.2), if_neg (fun z => q z.2), Nat.zero_add, Nat.zero_add]
      refine ⟨h.1, fun z => c4 (h.2.1 z), fun z => ?_⟩
      rcases h.2.2 z with z | z
      · rw [cuS] at z
        have := wipe_cu (env := env) (a := a) vs
        by_cases y : 0 < cuL a src
        · exact (bs a).2 y
        · exact .inl (by omega)
      · exact .inr (c4 z)
theorem sp_lc2 {own1 : List Nat} (hc : X.calm = true) (hN : X.N.Nodup) (hi : SI X tg iter mi) (ok : blkC X.N X.env.scope scope own = true) (hv : ∀ i ∈ own1, i ∈ own.map (·.2))
    (hg : ∀ (s : Shared) (H : Hp) (C : Addr) (cl : List (Str × Addr)) (fp : List Addr), SG (X.blk s H scope (compEnvC scope cl C X.env) fp) tg g) (ht : ∀ (s : Shared) (H : Hp) (C : Addr) (cl : List (Str × Addr)) (fp : List Addr), STs (X.blk s H scope (compEnvC scope cl C X.env) fp) ifs mt)
    (hi1 : ∀ (s : Shared) (H : Hp) (C : Addr) (cl : List (Str × Addr)) (fp : List Addr), SI (X.blk s H scope (compEnvC scope cl C X.env) fp) tg1 iter1 mi1)
    (hg1 : ∀ (s : Shared) (H : Hp) (C : Addr) (cl : List (Str × Addr)) (fp : List Addr), SG (X.blk s H scope (compEnvC scope cl C X.env) fp) tg1 g1) (ht1 : ∀ (s : Shared) (H : Hp) (C : Addr) (cl : List (Str × Addr)) (fp : List Addr), STs (X.blk s H scope (compEnvC scope cl C X.env) fp) ifs1 mt1)
    (he : ∀ (s : Shared) (H : Hp) (C : Addr) (cl : List (Str × Addr)) (fp : List Addr), SP (X.blk s H scope (compEnvC scope cl C X.env) fp) elt me) (hsl : ∀ i ∈ g.sl, i ∈ own.map (·.2)) (hsl1 : ∀ i ∈ g1.sl, i ∈ own1)
    (hs : ∀ x, foldedSetIterable iter X.env x = pure x := by intro _; rfl) (hs1 : ∀ env x, foldedSetIterable iter1 env x = pure x := by intro _ _; rfl) :
    SP X (.ListComp elt [⟨tg, iter, ifs, 0⟩, ⟨tg1, iter1, ifs1, 0⟩] scope pos) (mLc2 mi g mt mi1 g1 mt1 me (own.map (·.2)) own1) :=
  PE.weak (pe_lc2 (own := own) (g := gOf X.K g) (tt := trT X.K mt) (wi1 := trI X.K mi1) (g1 := gOf X.K g1) (tt1 := trT X.K mt1) (te := trP X.K me) hc hN hi (blkOk_by ok) hv hg ht hi1 hg1 ht1 he hs hs1) fun σ H Q h => lc2_rd hsl hsl1 h
theorem ss_setLc2 {P : List Nat} {own1 : List Nat} {y : Str} {py spos : Pos} (i : Nat) (hP : i ∉ P) (hc : X.calm = true) (hN : X.N.Nodup) (hi : SI X tg iter mi) (ok : blkC X.N X.env.scope scope own = true) (hv : ∀ i ∈ own1, i ∈ own.map (·.2))
    (hg : ∀ (s : Shared) (H : Hp) (C : Addr) (cl : List (Str × Addr)) (fp : List Addr), SG (X.blk s H scope (compEnvC scope cl C X.env) fp) tg g) (ht : ∀ (s : Shared) (H : Hp) (C : Addr) (cl : List (Str × Addr)) (fp : List Addr), STs (X.blk s H scope (compEnvC scope cl C X.env) fp) ifs mt)
    (hi1 : ∀ (s : Shared) (H : Hp) (C : Addr) (cl : List (Str × Addr)) (fp : List Addr), SI (X.blk s H scope (compEnvC scope cl C X.env) fp) tg1 iter1 mi1)
    (hg1 : ∀ (s : Shared) (H : Hp) (C : Addr) (cl : List (Str × Addr)) (fp : List Addr), SG (X.blk s H scope (compEnvC scope cl C X.env) fp) tg1 g1) (ht1 : ∀ (s : Shared) (H : Hp) (C : Addr) (cl : List (Str × Addr)) (fp : List Addr), STs (X.blk s H scope (compEnvC scope cl C X.env) fp) ifs1 mt1)
    (he : ∀ (s : Shared) (H : Hp) (C : Addr) (cl : List (Str × Addr)) (fp : List Addr), SP (X.blk s H scope (compEnvC scope cl C X.env) fp) elt me) (hsl : ∀ i ∈ g.sl, i ∈ own.map (·.2)) (hsl1 : ∀ i ∈ g1.sl, i ∈ own1)
    (hsw : swapsWith (.ListComp elt [⟨tg, iter, ifs, 0⟩, ⟨tg1, iter1, ifs1, 0⟩] scope pos) (some (.Name y py)) spos.line X.env = pure true) (hy : X.N[i]? = some y := by rfl) (hyl : X.env.scope.names.lookup y = some .local := by rfl)
    (hs : ∀ x, foldedSetIterable iter X.env x = pure x := by intro _; rfl) (hs1 : ∀ env x, foldedSetIterable iter1 env x = pure x := by intro _ _; rfl) :
    SS X P (.Assign [.Name y py] (.ListComp elt [⟨tg, iter, ifs, 0⟩, ⟨tg1, iter1, ifs1, 0⟩] scope pos) spos) (sSet i (lift (mLc2 mi g mt mi1 g1 mt1 me (own.map (·.2)) own1))) :=
  PS.weak (ps_setLc2 (own := own) (g := gOf X.K g) (tt := trT X.K mt) (wi1 := trI X.K mi1) (g1 := gOf X.K g1) (tt1 := trT X.K mt1) (te := trP X.K me) hc hN hy hyl hsw hi (blkOk_by ok) hv hg ht hi1 hg1 ht1 he hs hs1) fun De σ H h => by
    have q := asg_rd (X := X) hP h
    obtain ⟨env, d, e', hm, r, s, w, k⟩ := q
    obtain ⟨x, hx, e1⟩ := map_some hm
    cases e1
    exact lc2_rd hsl hsl1 (goP (Cf.start r s w) hx fun t H' e1 x c => k t env H' e1 rfl c fun _ _ => rfl)
end
/-! ### constants of the module -/
@[simp] def mCT (ns : List Int) : PM := fun _ => some (.n .tup (ns.map fun i => D.s (.int i)))
section
variable {X : Cx} {pos : Pos}
theorem sp_intK {x : Str} {i : Int} (hg : Gl X x) (hm : ∃ t, X.mg x = some (.int i t)) (hd : (x == ("__debug__" : Str)) = false := by decide) : SP X (.Name x pos) (mC (.int i)) := by
  obtain ⟨t, h⟩ := hm
  exact sp_glob hg h ⟨t, rfl⟩ rfl hd
theorem sp_strK {x : Str} {y : Str} (hg : Gl X x) (hm : ∃ t, X.mg x = some (.str y t)) (hd : (x == ("__debug__" : Str)) = false := by decide) : SP X (.Name x pos) (mC (.str y)) := by
  obtain ⟨t, h⟩ := hm
  exact sp_glob hg h ⟨t, rfl⟩ rfl hd
theorem sp_tupK {x : Str} {ns : List Int} (hg : Gl X x) (hm : ∃ a, X.mg x = some (.ref a) ∧ SqT X.K (fun _ => none) a (ns.map V.int)) (hd : (x == ("__debug__" : Str)) = false := by decide) : SP X (.Name x pos) (mCT ns) := by
  obtain ⟨a, h, hq⟩ := hm
  refine PE.weak (pe_glob hg h (v := .ref a) rfl hd) fun σ H Q ⟨env, d, hm, r, s, k⟩ => ?_
  cases hm
  refine k (.w true .tup a (ns.map fun i => T.s (.int i))) H (by rw [T.er, er_ints]; rfl) (Evl.Ex.refl H) ⟨?_, satL_iff.mpr fun t ht => ?_⟩ fun b => ?_
  · show SqT X.K (fun _ => none) a (vals _)
    rw [vals_ints]; exact hq
  · obtain ⟨i, _, rfl⟩ := List.mem_map.mp ht
    trivial
  · have h1 : coL b (ns.map fun i => T.s (.int i)) = 0 := co_ints ns
    have h2 : cuL b (ns.map fun i => T.s (.int i)) = 0 := cu_ints ns
    rw [T.co, T.cu, h1, h2]
    simp
where
  co_ints {b : Addr} : ∀ ns : List Int, coL b (ns.map fun i => T.s (.int i)) = 0
  | [] => rfl
  | n :: ns => by rw [List.map_cons, coL, T.co, Nat.zero_add]; exact co_ints ns
  cu_ints {b : Addr} : ∀ ns : List Int, cuL b (ns.map fun i => T.s (.int i)) = 0
  | [] => rfl
  | n :: ns => by rw [List.map_cons, cuL, T.cu, Nat.zero_add]; exact cu_ints ns
end
/-! ### a, b = x, y -/
section
variable {X : Cx} {pos : Pos}
theorem par_rd {K : PySem.W.Frag} {gs : List Tg} {ml : LM} {σ : L2.St} {H : Hp} {De : Ends} {P : List Nat} {X : Cx} (hP : ∀ i ∈ slL gs, i ∉ P) (h : trS X P (sAsg (.tp gs) (mk .tup ml)) De σ H) :
    trPA X.K ml σ H fun vs H1 => vs.length = gs.length ∧ gsOf X.K gs vs σ H1 fun σ' H' => De.nx σ' H' := by
  obtain ⟨env, o, e', hm, r, s, w, k⟩ := h
  obtain ⟨x, hx, hm⟩ := bind_some hm
  split at hm
  case isFalse => cases hm
  rename_i hp
  obtain ⟨e2, h2, e3⟩ := map_some hm
  cases e3
  obtain ⟨ds, h1, hl, rfl⟩ := mk_some hx
  obtain ⟨ds', e4, hn, h2⟩ := bD_tp h2
  cases e4
  rw [D.pure, Bool.and_eq_true] at hp
  refine ⟨env, ds, h1, r, s, fun ts H1 e1 x1 s1 o1 => ?_⟩
  subst e1
  refine ⟨by rw [List.length_map, ← erL_length, hn], gs_run gs ts σ env e' _ r s1 h2 fun σ' env' B => ?_⟩
  have zc : ∀ a, coL a ts = 0 := fun a => pureL_co ts hp.2
  have c0 : Cf X.K H env σ H1 (ts ++ []) env := (Cf.start r s w).addPure x1 s1 zc fun q hq => (o1 q).2.2 hq
  rw [List.append_nil] at c0
  have c2 : Cf X.K H env σ' H1 [] env' := c0.less B.rel trivial (fun u hu => (B.sat u hu).elim (fun z => c0.satE u z) id) (fun a => by have := B.co a; simp only [coL]; omega) (fun a => by have := B.cu a; simp only [cuL]; omega)
  exact k [] σ' env' H1 B.er c2 (fun i hi => (B.out i fun z => hP i z hi).1) rfl
theorem ss_par {P : List Nat} (i j : Nat) {x y : Str} {a b : Expr} {ml : LM} {px py pt : Pos} {kt k2 pt2} (hc : X.calm = true) (hN : X.N.Nodup) (hij : i ≠ j) (hP : i ∉ P) (hP2 : j ∉ P) (ha : SPA X [a, b] ml) (hi : X.N[i]? = some x := by rfl) (hj : X.N[j]? = some y := by rfl)
    (hx : X.env.scope.names.lookup x = some .local := by rfl) (hy : X.env.scope.names.lookup y = some .local := by rfl)
    (hw : swappedStores [.Tuple [.Name x px, .Name y py] kt pt] (.Tuple [a, b] k2 pt2) X.env = pure (some [x, y]) := by rfl)
    (hs : swapsWithSole [.Tuple [.Name x px, .Name y py] kt pt] (.Tuple [a, b] k2 pt2) pos.line X.env = pure false := by rfl) :
    SS X P (.Assign [.Tuple [.Name x px, .Name y py] kt pt] (.Tuple [a, b] k2 pt2) pos) (sAsg (.tp [.nm i, .nm j]) (mk .tup ml)) :=
  PS.weak (ps_par (pos := pos) hc hN hi hj hij hx hy ha hw hs) fun De σ H h => by
    obtain ⟨env, ds, h1, r, s, k⟩ := par_rd (K := X.K) (gs := [.nm i, .nm j]) (by simp [Tg.sl, slL]; exact ⟨hP, hP2⟩) h
    refine ⟨env, ds, h1, r, s, fun ts H1 e1 x1 s1 o1 => ?_⟩
    obtain ⟨hl, q⟩ := k ts H1 e1 x1 s1 o1
    rw [gsOf, gOf] at q
    obtain ⟨v, vs, e2, q⟩ := q
    rw [gName, gsOf, gOf] at q
    obtain ⟨w, ws, e3, q⟩ := q
    rw [gName, gsOf] at q
    exact ⟨v, w, by rw [e2, e3, q.1], q.2⟩
theorem ss_par3 {P : List Nat} (i j l : Nat) {x y z : Str} {a b c : Expr} {ml : LM} {px py pz pt : Pos} {kt k2 pt2} (hc : X.calm = true) (hN : X.N.Nodup) (hij : i ≠ j) (hil : i ≠ l) (hjl : j ≠ l) (hP : i ∉ P) (hP2 : j ∉ P) (hP3 : l ∉ P) (ha : SPA X [a, b, c] ml) (hi : X.N[i]? = some x := by rfl) (hj : X.N[j]? = some y := by rfl) (hl : X.N[l]? = some z := by rfl)
    (hx : X.env.scope.names.lookup x = some .local := by rfl) (hy : X.env.scope.names.lookup y = some .local := by rfl) (hz : X.env.scope.names.lookup z = some .local := by rfl)
    (hw : swappedStores [.Tuple [.Name x px, .Name y py, .Name z pz] kt pt] (.Tuple [a, b, c] k2 pt2) X.env = pure (some [x, y, z]) := by rfl)
    (hs : swapsWithSole [.Tuple [.Name x px, .Name y py, .Name z pz] kt pt] (.Tuple [a, b, c] k2 pt2) pos.line X.env = pure false := by rfl) :
    SS X P (.Assign [.Tuple [.Name x px, .Name y py, .Name z pz] kt pt] (.Tuple [a, b, c] k2 pt2) pos) (sAsg (.tp [.nm i, .nm j, .nm l]) (mk .tup ml)) :=
  PS.weak (ps_par3 (pos := pos) hc hN hi hj hl hij hil hjl hx hy hz ha hw hs) fun De σ H h => by
    obtain ⟨env, ds, h1, r, s, k⟩ := par_rd (K := X.K) (gs := [.nm i, .nm j, .nm l]) (by simp [Tg.sl, slL]; exact ⟨hP, hP2, hP3⟩) h
    refine ⟨env, ds, h1, r, s, fun ts H1 e1 x1 s1 o1 => ?_⟩
    obtain ⟨hl, q⟩ := k ts H1 e1 x1 s1 o1
    rw [gsOf, gOf] at q
    obtain ⟨v, vs, e2, q⟩ := q
    rw [gName, gsOf, gOf] at q
    obtain ⟨w, ws, e3, q⟩ := q
    rw [gName, gsOf, gOf] at q
    obtain ⟨u, us, e4, q⟩ := q
    rw [gName, gsOf] at q
    exact ⟨v, w, u, by rw [e2, e3, e4, q.1], q.2⟩
end
end Ow

namespace Lw
open PySem L2 Ow
def topS (i : Nat) : Stmt := PySem.Challenge.pw_ringfloor_k35_fours_made.main.body.getD i (.Pass ⟨0, 0, 0, 0⟩)
structure Fs where
  f_begun_least : Addr
  f_fours : Addr
  f_fours_by : Addr
  f_check_numbers : Addr
  f_are_numbers : Addr
  f_rights_of : Addr
  f_uppers_of : Addr
  f_laid_out : Addr
  f__law_mixed : Addr
  f__law_take : Addr
  f__law_whole : Addr
  f__law_row : Addr
  f__law_rows : Addr
  f__law_least : Addr
  f__law_fours : Addr
  f__law_numbers : Addr
  f__law_spoilt : Addr
  f__law_refused : Addr
  f__law_refused_by_any : Addr
  f_law : Addr
  c_FloorError : Addr
  c_NoKind : Addr
  c_NoNumbers : Addr
structure Ds where
  f_begun_least : FuncData
  f_fours : FuncData
  f_fours_by : FuncData
  f_check_numbers : FuncData
  f_are_numbers : FuncData
  f_rights_of : FuncData
  f_uppers_of : FuncData
  f_laid_out : FuncData
  f__law_mixed : FuncData
  f__law_take : FuncData
  f__law_whole : FuncData
  f__law_row : FuncData
  f__law_rows : FuncData
  f__law_least : FuncData
  f__law_fours : FuncData
  f__law_numbers : FuncData
  f__law_spoilt : FuncData
  f__law_refused : FuncData
  f__law_refused_by_any : FuncData
  f_law : FuncData
structure Tx (K : PySem.W.Frag) (mg : PySem.Str → Option Value) (f : Fs) (fd : Ds) : Prop where
  F_begun_least : Fun K "begun_least" "begun_least" (topS 5) f.f_begun_least fd.f_begun_least
  g_begun_least : mg "begun_least" = some (.ref f.f_begun_least)
  b_begun_least : Binds K fd.f_begun_least ["row"] []
  F_fours : Fun K "fours" "fours" (topS 9) f.f_fours fd.f_fours
  g_fours : mg "fours" = some (.ref f.f_fours)
  b_fours : Binds K fd.f_fours ["rows", "columns", "shift"] []
  F_fours_by : Fun K "fours_by" "fours_by" (topS 10) f.f_fours_by fd.f_fours_by
  g_fours_by : mg "fours_by" = some (.ref f.f_fours_by)
  b_fours_by : Binds K fd.f_fours_by ["rows", "columns", "shift"] []
  F_check_numbers : Fun K "check_numbers" "check_numbers" (topS 11) f.f_check_numbers fd.f_check_numbers
  g_check_numbers : mg "check_numbers" = some (.ref f.f_check_numbers)
  b_check_numbers : Binds K fd.f_check_numbers ["rows", "columns", "shift"] []
  F_are_numbers : Fun K "are_numbers" "are_numbers" (topS 12) f.f_are_numbers fd.f_are_numbers
  g_are_numbers : mg "are_numbers" = some (.ref f.f_are_numbers)
  b_are_numbers : Binds K fd.f_are_numbers ["rows", "columns", "shift"] []
  F_rights_of : Fun K "rights_of" "rights_of" (topS 13) f.f_rights_of fd.f_rights_of
  g_rights_of : mg "rights_of" = some (.ref f.f_rights_of)
  b_rights_of : Binds K fd.f_rights_of ["rows", "columns"] []
  F_uppers_of : Fun K "uppers_of" "uppers_of" (topS 14) f.f_uppers_of fd.f_uppers_of
  g_uppers_of : mg "uppers_of" = some (.ref f.f_uppers_of)
  b_uppers_of : Binds K fd.f_uppers_of ["rows", "columns", "shift"] []
  F_laid_out : Fun K "laid_out" "laid_out" (topS 15) f.f_laid_out fd.f_laid_out
  g_laid_out : mg "laid_out" = some (.ref f.f_laid_out)
  b_laid_out : Binds K fd.f_laid_out ["steps", "clock"] []
  F__law_mixed : Fun K "_law_mixed" "_law_mixed" (topS 17) f.f__law_mixed fd.f__law_mixed
  g__law_mixed : mg "_law_mixed" = some (.ref f.f__law_mixed)
  b__law_mixed : Binds K fd.f__law_mixed ["_law_cell", "_law_k", "_law_many"] []
  F__law_take : Fun K "_law_take" "_law_take" (topS 18) f.f__law_take fd.f__law_take
  g__law_take : mg "_law_take" = some (.ref f.f__law_take)
  b__law_take : Binds K fd.f__law_take ["_law_box", "_law_many"] []
  F__law_whole : Fun K "_law_whole" "_law_whole" (topS 19) f.f__law_whole fd.f__law_whole
  g__law_whole : mg "_law_whole" = some (.ref f.f__law_whole)
  b__law_whole : Binds K fd.f__law_whole ["_law_found"] []
  F__law_row : Fun K "_law_row" "_law_row" (topS 20) f.f__law_row fd.f__law_row
  g__law_row : mg "_law_row" = some (.ref f.f__law_row)
  b__law_row : Binds K fd.f__law_row ["_law_found", "_law_due"] []
  F__law_rows : Fun K "_law_rows" "_law_rows" (topS 21) f.f__law_rows fd.f__law_rows
  g__law_rows : mg "_law_rows" = some (.ref f.f__law_rows)
  b__law_rows : Binds K fd.f__law_rows ["_law_found", "_law_due"] []
  F__law_least : Fun K "_law_least" "_law_least" (topS 22) f.f__law_least fd.f__law_least
  g__law_least : mg "_law_least" = some (.ref f.f__law_least)
  b__law_least : Binds K fd.f__law_least ["_law_row_here"] []
  F__law_fours : Fun K "_law_fours" "_law_fours" (topS 23) f.f__law_fours fd.f__law_fours
  g__law_fours : mg "_law_fours" = some (.ref f.f__law_fours)
  b__law_fours : Binds K fd.f__law_fours ["_law_r", "_law_c", "_law_s"] []
  F__law_numbers : Fun K "_law_numbers" "_law_numbers" (topS 24) f.f__law_numbers fd.f__law_numbers
  g__law_numbers : mg "_law_numbers" = some (.ref f.f__law_numbers)
  b__law_numbers : Binds K fd.f__law_numbers ["_law_box"] []
  F__law_spoilt : Fun K "_law_spoilt" "_law_spoilt" (topS 25) f.f__law_spoilt fd.f__law_spoilt
  g__law_spoilt : mg "_law_spoilt" = some (.ref f.f__law_spoilt)
  b__law_spoilt : Binds K fd.f__law_spoilt ["_law_box", "_law_r", "_law_c", "_law_s"] []
  F__law_refused : Fun K "_law_refused" "_law_refused" (topS 26) f.f__law_refused fd.f__law_refused
  g__law_refused : mg "_law_refused" = some (.ref f.f__law_refused)
  b__law_refused : Binds K fd.f__law_refused ["_law_r", "_law_c", "_law_s"] []
  F__law_refused_by_any : Fun K "_law_refused_by_any" "_law_refused_by_any" (topS 27) f.f__law_refused_by_any fd.f__law_refused_by_any
  g__law_refused_by_any : mg "_law_refused_by_any" = some (.ref f.f__law_refused_by_any)
  b__law_refused_by_any : Binds K fd.f__law_refused_by_any ["_law_r", "_law_c", "_law_s"] []
  F_law : Fun K "law" "law" (topS 28) f.f_law fd.f_law
  g_law : mg "law" = some (.ref f.f_law)
  b_law : Binds K fd.f_law ["_law_script"] []
  m_ValueError : mg "ValueError" = none
  m_bool : mg "bool" = none
  m_enumerate : mg "enumerate" = none
  m_int : mg "int" = none
  m_isinstance : mg "isinstance" = none
  m_len : mg "len" = none
  m_list : mg "list" = none
  m_max : mg "max" = none
  m_min : mg "min" = none
  m_range : mg "range" = none
  c_FOURS_CLOCK : ∃ a, mg "FOURS_CLOCK" = some (.ref a) ∧ SqT K (fun _ => none) a ([0, 3, 1, 2].map V.int)
  c_MOST_KIND_PLACES : ∃ t, mg "MOST_KIND_PLACES" = some (.int 40 t)
  n_FloorError : mg "FloorError" = some (.ref f.c_FloorError)
  n_NoKind : mg "NoKind" = some (.ref f.c_NoKind)
  n_NoNumbers : mg "NoNumbers" = some (.ref f.c_NoNumbers)
  e_NoNumbers : ExcK K f.c_NoNumbers
  x_FloorError : ∀ (n : String) (C : Addr) (b : Bool), tabS ["NoNumbers"] "FloorError" n = some b → mg n = some (.ref C) → PySem.W.exmOne K (.ref C) (.ref f.c_FloorError) = some b
  x_NoKind : ∀ (n : String) (C : Addr) (b : Bool), tabS ["NoNumbers"] "NoKind" n = some b → mg n = some (.ref C) → PySem.W.exmOne K (.ref C) (.ref f.c_NoKind) = some b
  x_NoNumbers : ∀ (n : String) (C : Addr) (b : Bool), tabS ["NoNumbers"] "NoNumbers" n = some b → mg n = some (.ref C) → PySem.W.exmOne K (.ref C) (.ref f.c_NoNumbers) = some b
  i_FloorError : ∀ (n : String) (C : Addr) (b : Bool), tabS ["NoNumbers"] "FloorError" n = some b → mg n = some (.ref C) → ExcC K C ∧ PySem.W.kitOne K (.ref C) (.ref f.c_FloorError) = some b
  i_NoKind : ∀ (n : String) (C : Addr) (b : Bool), tabS ["NoNumbers"] "NoKind" n = some b → mg n = some (.ref C) → ExcC K C ∧ PySem.W.kitOne K (.ref C) (.ref f.c_NoKind) = some b
  i_ValueError : ∀ (n : String) (C : Addr) (b : Bool), tabS ["NoNumbers"] "ValueError" n = some b → mg n = some (.ref C) → ExcC K C ∧ PySem.W.kitOne K (.ref C) (.type "ValueError") = some b
section
variable {P : Program} {w : World} {K : PySem.W.Frag} {mg : PySem.Str → Option Value} {base : Heap} {f : Fs} {fd : Ds}
/-! begun_least -/
abbrev nn_begun_least : List PySem.Str := ["row", "at"]
theorem sc_begun_least : FnScope nn_begun_least ["row"] (defScope (topS 5)) := ⟨rfl, rfl, rfl, by decide +kernel, rfl, by decide +kernel, by decide +kernel⟩
def bb_begun_least : SM := (sSeq (sIf (liftT (mNotT (mTru (mVar 0)))) (sRet (lift (mk (.lst .o) lNil))) sNx) (sSeq (sSet 1 (lift (mIdx (mVar 0) (mCall fMinL (lCons (mVar 0) lNil))))) (sRet (lift (mCat (mSl (mVar 0) (oYes (mVar 1)) oNo) (mSl (mVar 0) oNo (oYes (mVar 1))))))))
def ff_begun_least : FM := runP 2 bb_begun_least
theorem ok_begun_least (T : Tx K mg f fd) : FnOk P w K mg base CX0 1 f.f_begun_least fd.f_begun_least ["row"] (spP K 1 ff_begun_least) :=
  have sc := sc_begun_least
  fn_pure T.F_begun_least sc (by decide) fun cdv A outer s H E hr => (sss_cons (ss_if (set_t (st_not (st_tru (sb_var 0)))) (sss_one (ss_ret (se_p (sp_lst spa_nil)))) sss_nil) (sss_cons (ss_set 1 sc.nd (by decide) (se_p (sp_index (sb_var 0) (SP.sb (sp_callB (cr_min rfl) opn_min bt_min T.m_min (sba_cons (sb_var 0) sba_nil)))))) (sss_one (ss_ret (se_p (sp_cat (SP.sb (sp_slice (sb_var 0) (so_some (sb_var 1)) so_none)) (SP.sb (sp_slice (sb_var 0) so_none (so_some (sb_var 1))))))))))
/-! are_numbers -/
abbrev nn_are_numbers : List PySem.Str := ["rows", "columns", "shift"]
theorem sc_are_numbers : FnScope nn_are_numbers ["rows", "columns", "shift"] (defScope (topS 12)) := ⟨rfl, rfl, rfl, by decide +kernel, rfl, by decide +kernel, by decide +kernel⟩
def bb_are_numbers : SM := (sRet (lift (mAndV (mOp2 fGe (mVar 0) (mC (.int 1))) (mAndV (mOp2 fGe (mVar 1) (mC (.int 1))) (mChain fLe fLt (mC (.int 0)) (mVar 2) (mVar 1))))))
def ff_are_numbers : FM := runP 3 bb_are_numbers
theorem ok_are_numbers (T : Tx K mg f fd) : FnOk P w K mg base CX0 1 f.f_are_numbers fd.f_are_numbers ["rows", "columns", "shift"] (spP K 3 ff_are_numbers) :=
  have sc := sc_are_numbers
  fn_pure T.F_are_numbers sc (by decide) fun cdv A outer s H E hr => (sss_one (ss_ret (se_p (sp_and (sp_ge (sb_var 0) (SP.sb sp_int)) (sp_and (sp_ge (sb_var 1) (SP.sb sp_int)) (sp_one (sp_chain op_le op_lt op2_I0 op2_I0 (SP.sb sp_int) (sb_var 2) (sb_var 1))))))))
/-! rights_of -/
abbrev nn_rights_of : List PySem.Str := ["rows", "columns", "row", "column"]
theorem sc_rights_of : FnScope nn_rights_of ["rows", "columns"] (defScope (topS 13)) := ⟨rfl, rfl, rfl, by decide +kernel, rfl, by decide +kernel, by decide +kernel⟩
def bb_rights_of : SM := (sRet (lift (mLc2 (wR (rg1 (mVar 0))) (.nm 2) bYes (wR (rg1 (mVar 1))) (.nm 3) bYes (mOp2 fAdd (mOp2 fMul (mVar 2) (mVar 1)) (mOp2 fMod (mOp2 fAdd (mVar 3) (mC (.int 1))) (mVar 1))) [2, 3] [3])))
def ff_rights_of : FM := runP 4 bb_rights_of
theorem ok_rights_of (T : Tx K mg f fd) : FnOk P w K mg base CX0 1 f.f_rights_of fd.f_rights_of ["rows", "columns"] (spP K 2 ff_rights_of) :=
  have sc := sc_rights_of
  fn_pure T.F_rights_of sc (by decide) fun cdv A outer s H E hr => (sss_one (ss_ret (se_p (sp_lc2 (own := [("row", 2), ("column", 3)]) (own1 := [3]) rfl sc.nd (si_range1 T.m_range (sb_var 0)) (okb (N := nn_rights_of) (sc := defScope (topS 13)) (by decide +kernel)) (by simp) (fun _ _ _ _ _ => (sg_name 2 sc.nd)) (fun _ _ _ _ _ => sts_nil) (fun _ _ _ _ _ => (si_range1 T.m_range (sb_var 1))) (fun _ _ _ _ _ => (sg_name 3 sc.nd)) (fun _ _ _ _ _ => sts_nil) (fun _ _ _ _ _ => (sp_add (SP.sb (sp_mul (sb_var 2) (sb_var 1))) (SP.sb (sp_mod (SP.sb (sp_add (sb_var 3) (SP.sb sp_int))) (sb_var 1))))) (by simp [Tg.sl, slL]) (by simp [Tg.sl, slL])))))
/-! uppers_of -/
abbrev nn_uppers_of : List PySem.Str := ["rows", "columns", "shift", "inner", "place", "column"]
theorem sc_uppers_of : FnScope nn_uppers_of ["rows", "columns", "shift"] (defScope (topS 14)) := ⟨rfl, rfl, rfl, by decide +kernel, rfl, by decide +kernel, by decide +kernel⟩
def bb_uppers_of : SM := (sSeq (sSet 3 (lift (mLc (wR (rg1 (mOp2 fMul (mOp2 fSub (mVar 0) (mC (.int 1))) (mVar 1)))) (.nm 4) bYes (mOp2 fAdd (mVar 4) (mVar 1)) [4]))) (sRet (lift (mCat (mVar 3) (mLc (wR (rg1 (mVar 1))) (.nm 5) bYes (mOp2 fMod (mOp2 fAdd (mVar 5) (mVar 2)) (mVar 1)) [5])))))
def ff_uppers_of : FM := runP 6 bb_uppers_of
theorem ok_uppers_of (T : Tx K mg f fd) : FnOk P w K mg base CX0 1 f.f_uppers_of fd.f_uppers_of ["rows", "columns", "shift"] (spP K 3 ff_uppers_of) :=
  have sc := sc_uppers_of
  fn_pure T.F_uppers_of sc (by decide) fun cdv A outer s H E hr => (sss_cons (ss_setLc (own := [("place", 4)]) 3 (by decide) rfl sc.nd (si_range1 T.m_range (SP.sb (sp_mul (SP.sb (sp_sub (sb_var 0) (SP.sb sp_int))) (sb_var 1)))) (okb (N := nn_uppers_of) (sc := defScope (topS 14)) (by decide +kernel)) (fun _ _ _ _ _ => (sg_name 4 sc.nd)) (fun _ _ _ _ _ => sts_nil) (fun _ _ _ _ _ => (sp_add (sb_var 4) (sb_var 1))) (by simp [Tg.sl, slL]) (sw_true rfl rfl rfl (by decide +kernel))) (sss_one (ss_ret (se_p (sp_cat (sb_var 3) (SP.sb (sp_lc (own := [("column", 5)]) rfl sc.nd (si_range1 T.m_range (sb_var 1)) (okb (N := nn_uppers_of) (sc := defScope (topS 14)) (by decide +kernel)) (fun _ _ _ _ _ => (sg_name 5 sc.nd)) (fun _ _ _ _ _ => sts_nil) (fun _ _ _ _ _ => (sp_mod (SP.sb (sp_add (sb_var 5) (sb_var 2))) (sb_var 1))) (by simp [Tg.sl, slL]))))))))
/-! _law_mixed -/
abbrev nn__law_mixed : List PySem.Str := ["_law_cell", "_law_k", "_law_many", "_law_one"]
theorem sc__law_mixed : FnScope nn__law_mixed ["_law_cell", "_law_k", "_law_many"] (defScope (topS 17)) := ⟨rfl, rfl, rfl, by decide +kernel, rfl, by decide +kernel, by decide +kernel⟩
def bb__law_mixed : SM := (sSeq (sSet 3 (lift (mOp2 fMod (mOp2 fPow (mOp2 fAdd (mOp2 fAdd (mOp2 fMod (mVar 0) (mC (.int 2147483647))) (mOp2 fMul (mC (.int 40503)) (mVar 1))) (mC (.int 17))) (mC (.int 5))) (mC (.int 2147483647))))) (sRet (lift (mOp2 fMod (mOp2 fMod (mOp2 fMul (mOp2 fMod (mOp2 fMul (mVar 3) (mOp2 fAdd (mC (.int 48271)) (mVar 1))) (mC (.int 999999937))) (mC (.int 39373))) (mC (.int 2147483629))) (mVar 2)))))
def ff__law_mixed : FM := runP 4 bb__law_mixed
theorem ok__law_mixed (T : Tx K mg f fd) : FnOk P w K mg base CX0 1 f.f__law_mixed fd.f__law_mixed ["_law_cell", "_law_k", "_law_many"] (spP K 3 ff__law_mixed) :=
  have sc := sc__law_mixed
  fn_pure T.F__law_mixed sc (by decide) fun cdv A outer s H E hr => (sss_cons (ss_set 3 sc.nd (by decide) (se_p (sp_mod (SP.sb (sp_pow (SP.sb (sp_add (SP.sb (sp_add (SP.sb (sp_mod (sb_var 0) (SP.sb sp_int))) (SP.sb (sp_mul (SP.sb sp_int) (sb_var 1))))) (SP.sb sp_int))) (SP.sb sp_int))) (SP.sb sp_int)))) (sss_one (ss_ret (se_p (sp_mod (SP.sb (sp_mod (SP.sb (sp_mul (SP.sb (sp_mod (SP.sb (sp_mul (sb_var 3) (SP.sb (sp_add (SP.sb sp_int) (sb_var 1))))) (SP.sb sp_int))) (SP.sb sp_int))) (SP.sb sp_int))) (sb_var 2))))))
/-! _law_whole -/
abbrev nn__law_whole : List PySem.Str := ["_law_found"]
theorem sc__law_whole : FnScope nn__law_whole ["_law_found"] (defScope (topS 19)) := ⟨rfl, rfl, rfl, by decide +kernel, rfl, by decide +kernel, by decide +kernel⟩
def bb__law_whole : SM := (sRet (lift (mAndV (mIsi "int" (mVar 0)) (mNotV (mIsi "bool" (mVar 0))))))
def ff__law_whole : FM := runP 1 bb__law_whole
theorem ok__law_whole (T : Tx K mg f fd) : FnOk P w K mg base CX0 1 f.f__law_whole fd.f__law_whole ["_law_found"] (spP K 1 ff__law_whole) :=
  have sc := sc__law_whole
  fn_pure T.F__law_whole sc (by decide) fun cdv A outer s H E hr => (sss_one (ss_ret (se_p (sp_and (sp_isi T.m_isinstance T.m_int bt_int (sb_var 0) bt_isinstance) (sp_one (sp_not (sp_isi T.m_isinstance T.m_bool bt_bool (sb_var 0) bt_isinstance)))))))
/-! _law_least -/
abbrev nn__law_least : List PySem.Str := ["_law_row_here", "_law_at"]
theorem sc__law_least : FnScope nn__law_least ["_law_row_here"] (defScope (topS 22)) := ⟨rfl, rfl, rfl, by decide +kernel, rfl, by decide +kernel, by decide +kernel⟩
def bb__law_least : SM := (sSeq (sIf (liftT (mB (mOp2 fEq (mCall fLen (lCons (mVar 0) lNil)) (mC (.int 0))))) (sRet (lift (mk (.lst .o) lNil))) sNx) (sSeq (sSet 1 (lift (mIdx (mVar 0) (mCall fMinL (lCons (mVar 0) lNil))))) (sRet (lift (mCat (mSl (mVar 0) (oYes (mVar 1)) oNo) (mSl (mVar 0) oNo (oYes (mVar 1))))))))
def ff__law_least : FM := runP 2 bb__law_least
theorem ok__law_least (T : Tx K mg f fd) : FnOk P w K mg base CX0 1 f.f__law_least fd.f__law_least ["_law_row_here"] (spP K 1 ff__law_least) :=
  have sc := sc__law_least
  fn_pure T.F__law_least sc (by decide) fun cdv A outer s H E hr => (sss_cons (ss_if (set_t (st_eq hr (SP.sb (sp_callB call_len_seq opn_len bt_len T.m_len (sba_cons (sb_var 0) sba_nil))) (SP.sb sp_int))) (sss_one (ss_ret (se_p (sp_lst spa_nil)))) sss_nil) (sss_cons (ss_set 1 sc.nd (by decide) (se_p (sp_index (sb_var 0) (SP.sb (sp_callB (cr_min rfl) opn_min bt_min T.m_min (sba_cons (sb_var 0) sba_nil)))))) (sss_one (ss_ret (se_p (sp_cat (SP.sb (sp_slice (sb_var 0) (so_some (sb_var 1)) so_none)) (SP.sb (sp_slice (sb_var 0) so_none (so_some (sb_var 1))))))))))
/-! check_numbers -/
abbrev nn_check_numbers : List PySem.Str := ["rows", "columns", "shift"]
theorem sc_check_numbers : FnScope nn_check_numbers ["rows", "columns", "shift"] (defScope (topS 11)) := ⟨rfl, rfl, rfl, by decide +kernel, rfl, by decide +kernel, by decide +kernel⟩
def bb_check_numbers : SM := (sSeq (sIf (liftT (mNotT (mTru (mFn ff_are_numbers (lCons (mVar 0) (lCons (mVar 1) (lCons (mVar 2) lNil))))))) (sRaise "NoNumbers" (mC (.str "rows and columns are from 1 on, the shift from 0 to the columns less 1"))) sNx) (sIf (liftT (mB (mOp2 fGt (mOp2 fMul (mVar 0) (mVar 1)) (mC (.int 40))))) (sRaise "NoNumbers" (mFs [.c "rows times columns are at most ", .v (mC (.int 40))])) sNx))
def ff_check_numbers : FM := runX 3 bb_check_numbers
theorem ok_check_numbers (T : Tx K mg f fd) : FnOk P w K mg base (L2.CX P w) 2 f.f_check_numbers fd.f_check_numbers ["rows", "columns", "shift"] (spX K mg 3 ff_check_numbers) :=
  have sc := sc_check_numbers
  fn_raise T.F_check_numbers sc (by decide) fun cdv A outer s H E hr po => (sss_cons (ss_if (set_t (st_not (st_tru (SP.sb (sp_call (ok_are_numbers T) rfl (hr.mono (by decide)) T.g_are_numbers T.F_are_numbers.kp T.b_are_numbers pass0 (sba_cons (sb_var 0) (sba_cons (sb_var 1) (sba_cons (sb_var 2) sba_nil))) (lcl (lcl (lcl lnl)))))))) (sss_one (ss_raiseK T.e_NoNumbers T.n_NoNumbers rfl sp_str)) sss_nil) (sss_one (ss_if (set_t (st_gt (SP.sb (sp_mul (sb_var 0) (sb_var 1))) (SP.sb (sp_intK rfl T.c_MOST_KIND_PLACES)))) (sss_one (ss_raiseK T.e_NoNumbers T.n_NoNumbers rfl (sp_fs (.c (.v (SP.sb (sp_intK rfl T.c_MOST_KIND_PLACES)) .nil))))) sss_nil)))
/-! laid_out -/
abbrev nn_laid_out : List PySem.Str := ["steps", "clock", "size", "slots", "step", "goals", "place", "goal", "even", "_", "row", "slot"]
theorem sc_laid_out : FnScope nn_laid_out ["steps", "clock"] (defScope (topS 15)) := ⟨rfl, rfl, rfl, by decide +kernel, rfl, by decide +kernel, by decide +kernel⟩
def bb_laid_out : SM := (sSeq (sSet 2 (lift (mCall fLen (lCons (mVar 1) lNil)))) (sSeq (sSet 3 (lift (mLc (wL (mItem (mVar 0) (mC (.int 0)))) (.nm 9) bYes (mRep (mk (.lst .o) (lCons (mC (.int 0)) lNil)) (mVar 2)) [9]))) (sSeq (sFor (wE (mPure (mVar 0))) (.tp [(.nm 4), (.nm 5)]) (sFor (wE (mPure (mVar 5))) (.tp [(.nm 6), (.nm 7)]) (sSeq (sSet 8 (lift (mOp2 fAdd (mOp2 fMul (mVar 2) (mVar 6)) (mOp2 fMul (mC (.int 2)) (mVar 4))))) (sSeq (sPut 3 (plItem 3 (plName 3) (mVar 6)) (mOp2 fMul (mC (.int 2)) (mVar 4)) (lift (mPure (mVar 8)))) (sPut 3 (plItem 3 (plName 3) (mVar 7)) (mOp2 fAdd (mOp2 fMul (mC (.int 2)) (mVar 4)) (mC (.int 1))) (lift (mOp2 fAdd (mVar 8) (mC (.int 1))))))))) (sRet (lift (mLc (wL (mVar 3)) (.nm 10) bYes (mFn ff_begun_least (lCons (mLc (wT (mVar 1)) (.nm 11) bYes (mPure (mItem (mVar 10) (mVar 11))) [11]) lNil)) [10]))))))
def ff_laid_out : FM := runP 12 bb_laid_out
theorem ok_laid_out (T : Tx K mg f fd) : FnOk P w K mg base CX0 2 f.f_laid_out fd.f_laid_out ["steps", "clock"] (spP K 2 ff_laid_out) :=
  have sc := sc_laid_out
  fn_pure T.F_laid_out sc (by decide) fun cdv A outer s H E hr => (sss_cons (ss_set 2 sc.nd (by decide) (se_p (sp_callB call_len_seq opn_len bt_len T.m_len (sba_cons (sb_var 1) sba_nil)))) (sss_cons (ss_setLc (own := [("_", 9)]) 3 (by decide) rfl sc.nd (si_list (sb_item (sb_var 0) (SP.sb sp_int))) (okb (N := nn_laid_out) (sc := defScope (topS 15)) (by decide +kernel)) (fun _ _ _ _ _ => (sg_name 9 sc.nd)) (fun _ _ _ _ _ => sts_nil) (fun _ _ _ _ _ => (sp_rep (SP.sb (sp_lst (spa_cons sp_int spa_nil))) (sb_var 2))) (by simp [Tg.sl, slL]) (sw_true rfl rfl rfl (by decide +kernel))) (sss_cons (ss_for rfl PassesOwn.never (sj_enum T.m_enumerate (sp_pure (sb_var 0))) (sg_tup rfl (sgs_cons (sg_name 4 sc.nd) (sgs_cons (sg_name 5 sc.nd) sgs_nil))) (sss_one (ss_for rfl PassesOwn.never (sj_enum T.m_enumerate (sp_pure (sb_var 5))) (sg_tup rfl (sgs_cons (sg_name 6 sc.nd) (sgs_cons (sg_name 7 sc.nd) sgs_nil))) (sss_cons (ss_set 8 sc.nd (by decide) (se_p (sp_add (SP.sb (sp_mul (sb_var 2) (sb_var 6))) (SP.sb (sp_mul (SP.sb sp_int) (sb_var 4)))))) (sss_cons (ss_put (se_p (sp_pure (sb_var 8))) (spl_item (spl_name 3) (sb_var 6)) (SP.sb (sp_mul (SP.sb sp_int) (sb_var 4)))) (sss_one (ss_put (se_p (sp_add (sb_var 8) (SP.sb sp_int))) (spl_item (spl_name 3) (sb_var 7)) (SP.sb (sp_add (SP.sb (sp_mul (SP.sb sp_int) (sb_var 4))) (SP.sb sp_int))))))) (by simp [Tg.sl, slL]))) (by simp [Tg.sl, slL])) (sss_one (ss_ret (se_p (sp_lc (own := [("row", 10)]) rfl sc.nd (si_list (sb_var 3)) (okb (N := nn_laid_out) (sc := defScope (topS 15)) (by decide +kernel)) (fun _ _ _ _ _ => (sg_name 10 sc.nd)) (fun _ _ _ _ _ => sts_nil) (fun _ _ _ _ _ => (sp_call (ok_begun_least T) rfl (hr.mono (by decide)) T.g_begun_least T.F_begun_least.kp T.b_begun_least pass0 (sba_cons (SP.sb (sp_lc (own := [("slot", 11)]) rfl sc.nd (si_tup (sb_var 1)) (by rfl) (fun _ _ _ _ _ => (sg_name 11 sc.nd)) (fun _ _ _ _ _ => sts_nil) (fun _ _ _ _ _ => (sp_item (sb_var 10) (sb_var 11))) (by simp [Tg.sl, slL]))) sba_nil) (lcl lnl))) (by simp [Tg.sl, slL]))))))))
/-! _law_take -/
abbrev nn__law_take : List PySem.Str := ["_law_box", "_law_many", "_law_cell", "_law_draw"]
theorem sc__law_take : FnScope nn__law_take ["_law_box", "_law_many"] (defScope (topS 18)) := ⟨rfl, rfl, rfl, by decide +kernel, rfl, by decide +kernel, by decide +kernel⟩
def bb__law_take : SM := (sSeq (sPut 0 (plName 0) (mC (.int 3)) (lift (mOp2 fAdd (mItem (mVar 0) (mC (.int 3))) (mC (.int 1))))) (sSeq (sSet 2 (lift (mC (.int 0)))) (sSeq (sIf (liftT (mAnd (mB (mOp2 fEq (mItem (mVar 0) (mC (.int 2))) (mC (.int 0)))) (mB (mOp2 fLt (mItem (mVar 0) (mC (.int 1))) (mCall fLen (lCons (mItem (mVar 0) (mC (.int 0))) lNil)))))) (sSeq (sSet 2 (lift (mPure (mItem (mItem (mVar 0) (mC (.int 0))) (mItem (mVar 0) (mC (.int 1))))))) (sSeq (sPut 0 (plName 0) (mC (.int 1)) (lift (mOp2 fAdd (mItem (mVar 0) (mC (.int 1))) (mC (.int 1))))) (sSeq (sIf (liftT (mB (mOp2 fLt (mVar 2) (mOp2 fPow (mC (.int 10)) (mC (.int 18)))))) (sRet (lift (mFn ff__law_mixed (lCons (mVar 2) (lCons (mItem (mVar 0) (mC (.int 3))) (lCons (mVar 1) lNil)))))) sNx) (sPut 0 (plName 0) (mC (.int 2)) (lift (mPure (mVar 2))))))) sNx) (sSeq (sIf (liftT (mB (mOp2 fGt (mItem (mVar 0) (mC (.int 2))) (mC (.int 0))))) (sSeq (sSet 3 (lift (mOp2 fMod (mItem (mVar 0) (mC (.int 2))) (mVar 1)))) (sSeq (sPut 0 (plName 0) (mC (.int 2)) (lift (mOp2 fDiv (mItem (mVar 0) (mC (.int 2))) (mVar 1)))) (sRet (eMove 3)))) sNx) (sSeq (sIf (liftT (mB (mOp2 fGt (mCall fLen (lCons (mItem (mVar 0) (mC (.int 0))) lNil)) (mC (.int 0))))) (sSet 2 (lift (mPure (mItem (mItem (mVar 0) (mC (.int 0))) (mOp2 fMod (mItem (mVar 0) (mC (.int 3))) (mCall fLen (lCons (mItem (mVar 0) (mC (.int 0))) lNil))))))) sNx) (sRet (lift (mFn ff__law_mixed (lCons (mVar 2) (lCons (mItem (mVar 0) (mC (.int 3))) (lCons (mVar 1) lNil)))))))))))
def ff__law_take : FMu := runM 4 [0] bb__law_take
theorem ok__law_take (T : Tx K mg f fd) : FnOk P w K mg base CX0 2 f.f__law_take fd.f__law_take ["_law_box", "_law_many"] (spM K 2 [0] ff__law_take) :=
  have sc := sc__law_take
  fn_mut T.F__law_take sc (by decide) (by decide) fun cdv A outer s H E hr => (sss_cons (ss_put (se_p (sp_add (sb_item (sb_var 0) (SP.sb sp_int)) (SP.sb sp_int))) (spl_name 0) (SP.sb sp_int)) (sss_cons (ss_set 2 sc.nd (by decide) (se_p sp_int)) (sss_cons (ss_if (set_t (st_w (sw_and (st_eq hr (sb_item (sb_var 0) (SP.sb sp_int)) (SP.sb sp_int)) (sw_and1 (st_lt (sb_item (sb_var 0) (SP.sb sp_int)) (SP.sb (sp_callB call_len_seq opn_len bt_len T.m_len (sba_cons (sb_item (sb_var 0) (SP.sb sp_int)) sba_nil)))))))) (sss_cons (ss_set 2 sc.nd (by decide) (se_p (sp_item (sb_item (sb_var 0) (SP.sb sp_int)) (sb_item (sb_var 0) (SP.sb sp_int))))) (sss_cons (ss_put (se_p (sp_add (sb_item (sb_var 0) (SP.sb sp_int)) (SP.sb sp_int))) (spl_name 0) (SP.sb sp_int)) (sss_cons (ss_if (set_t (st_lt (sb_var 2) (SP.sb (sp_pow (SP.sb sp_int) (SP.sb sp_int))))) (sss_one (ss_ret (se_p (sp_call (ok__law_mixed T) rfl (hr.mono (by decide)) T.g__law_mixed T.F__law_mixed.kp T.b__law_mixed pass0 (sba_cons (sb_var 2) (sba_cons (sb_item (sb_var 0) (SP.sb sp_int)) (sba_cons (sb_var 1) sba_nil))) (lcl (lcl (lcl lnl))))))) sss_nil) (sss_one (ss_put (se_p (sp_pure (sb_var 2))) (spl_name 0) (SP.sb sp_int)))))) sss_nil) (sss_cons (ss_if (set_t (st_gt (sb_item (sb_var 0) (SP.sb sp_int)) (SP.sb sp_int))) (sss_cons (ss_set 3 sc.nd (by decide) (se_p (sp_mod (sb_item (sb_var 0) (SP.sb sp_int)) (sb_var 1)))) (sss_cons (ss_put (se_p (sp_div (sb_item (sb_var 0) (SP.sb sp_int)) (sb_var 1))) (spl_name 0) (SP.sb sp_int)) (sss_one (ss_ret (se_move 3 (by decide)))))) sss_nil) (sss_cons (ss_if (set_t (st_gt (SP.sb (sp_callB call_len_seq opn_len bt_len T.m_len (sba_cons (sb_item (sb_var 0) (SP.sb sp_int)) sba_nil))) (SP.sb sp_int))) (sss_one (ss_set 2 sc.nd (by decide) (se_p (sp_item (sb_item (sb_var 0) (SP.sb sp_int)) (SP.sb (sp_mod (sb_item (sb_var 0) (SP.sb sp_int)) (SP.sb (sp_callB call_len_seq opn_len bt_len T.m_len (sba_cons (sb_item (sb_var 0) (SP.sb sp_int)) sba_nil))))))))) sss_nil) (sss_one (ss_ret (se_p (sp_call (ok__law_mixed T) rfl (hr.mono (by decide)) T.g__law_mixed T.F__law_mixed.kp T.b__law_mixed pass0 (sba_cons (sb_var 2) (sba_cons (sb_item (sb_var 0) (SP.sb sp_int)) (sba_cons (sb_var 1) sba_nil))) (lcl (lcl (lcl lnl))))))))))))
/-! _law_row -/
abbrev nn__law_row : List PySem.Str := ["_law_found", "_law_due", "_law_at", "_law_number"]
theorem sc__law_row : FnScope nn__law_row ["_law_found", "_law_due"] (defScope (topS 20)) := ⟨rfl, rfl, rfl, by decide +kernel, rfl, by decide +kernel, by decide +kernel⟩
def bb__law_row : SM := (sSeq (sIf (liftT (mOr (mNotT (mB (mIsi "list" (mVar 0)))) (mB (mOp2 fNe (mCall fLen (lCons (mVar 0) lNil)) (mCall fLen (lCons (mVar 1) lNil)))))) (sRet (lift (mC (.bl false)))) sNx) (sSeq (sFor (wE (mPure (mVar 1))) (.tp [(.nm 2), (.nm 3)]) (sIf (liftT (mOr (mNotT (mTru (mFn ff__law_whole (lCons (mItem (mVar 0) (mVar 2)) lNil)))) (mB (mOp2 fNe (mItem (mVar 0) (mVar 2)) (mVar 3))))) (sRet (lift (mC (.bl false)))) sNx)) (sRet (lift (mC (.bl true))))))
def ff__law_row : FM := runP 4 bb__law_row
theorem ok__law_row (T : Tx K mg f fd) : FnOk P w K mg base CX0 2 f.f__law_row fd.f__law_row ["_law_found", "_law_due"] (spP K 2 ff__law_row) :=
  have sc := sc__law_row
  fn_pure T.F__law_row sc (by decide) fun cdv A outer s H E hr => (sss_cons (ss_if (set_t (st_w (sw_or (st_not (st_val (SP.sb (sp_isi T.m_isinstance T.m_list bt_list (sb_var 0) bt_isinstance)))) (sw_or1 (st_ne hr (SP.sb (sp_callB call_len_seq opn_len bt_len T.m_len (sba_cons (sb_var 0) sba_nil))) (SP.sb (sp_callB call_len_seq opn_len bt_len T.m_len (sba_cons (sb_var 1) sba_nil)))))))) (sss_one (ss_ret (se_p sp_bl))) sss_nil) (sss_cons (ss_for rfl PassesOwn.never (sj_enum T.m_enumerate (sp_pure (sb_var 1))) (sg_tup rfl (sgs_cons (sg_name 2 sc.nd) (sgs_cons (sg_name 3 sc.nd) sgs_nil))) (sss_one (ss_if (set_t (st_w (sw_or (st_not (st_tru (SP.sb (sp_call (ok__law_whole T) rfl (hr.mono (by decide)) T.g__law_whole T.F__law_whole.kp T.b__law_whole pass0 (sba_cons (sb_item (sb_var 0) (sb_var 2)) sba_nil) (lcl lnl))))) (sw_or1 (st_ne hr (sb_item (sb_var 0) (sb_var 2)) (sb_var 3)))))) (sss_one (ss_ret (se_p sp_bl))) sss_nil)) (by simp [Tg.sl, slL])) (sss_one (ss_ret (se_p sp_bl)))))
/-! _law_fours -/
abbrev nn__law_fours : List PySem.Str := ["_law_r", "_law_c", "_law_s", "_law_told", "_law_i", "_law_j", "_law_p", "_law_left", "_law_down"]
theorem sc__law_fours : FnScope nn__law_fours ["_law_r", "_law_c", "_law_s"] (defScope (topS 23)) := ⟨rfl, rfl, rfl, by decide +kernel, rfl, by decide +kernel, by decide +kernel⟩
def bb__law_fours : SM := (sSeq (sSet 3 (lift (mk (.lst .o) lNil))) (sSeq (sFor (wR (rg1 (mVar 0))) (.nm 4) (sFor (wR (rg1 (mVar 1))) (.nm 5) (sSeq (sSet 6 (lift (mOp2 fAdd (mOp2 fMul (mVar 4) (mVar 1)) (mVar 5)))) (sSeq (sSet 7 (lift (mOp2 fAdd (mOp2 fMul (mVar 4) (mVar 1)) (mOp2 fMod (mOp2 fSub (mVar 5) (mC (.int 1))) (mVar 1))))) (sSeq (sSet 8 (lift (mOp2 fSub (mVar 6) (mVar 1)))) (sSeq (sIf (liftT (mB (mOp2 fEq (mVar 4) (mC (.int 0))))) (sSet 8 (lift (mOp2 fAdd (mOp2 fMul (mOp2 fSub (mVar 0) (mC (.int 1))) (mVar 1)) (mOp2 fMod (mOp2 fSub (mVar 5) (mVar 2)) (mVar 1))))) sNx) (sApp 3 (plName 3) (lift (mFn ff__law_least (lCons (mk (.lst .o) (lCons (mOp2 fAdd (mOp2 fMul (mC (.int 4)) (mVar 6)) (mC (.int 2))) (lCons (mOp2 fMul (mC (.int 4)) (mVar 6)) (lCons (mOp2 fAdd (mOp2 fMul (mC (.int 4)) (mVar 8)) (mC (.int 3))) (lCons (mOp2 fAdd (mOp2 fMul (mC (.int 4)) (mVar 7)) (mC (.int 1))) lNil))))) lNil)))))))))) (sRet (eMove 3))))
def ff__law_fours : FM := runP 9 bb__law_fours
theorem ok__law_fours (T : Tx K mg f fd) : FnOk P w K mg base CX0 2 f.f__law_fours fd.f__law_fours ["_law_r", "_law_c", "_law_s"] (spP K 3 ff__law_fours) :=
  have sc := sc__law_fours
  fn_pure T.F__law_fours sc (by decide) fun cdv A outer s H E hr => (sss_cons (ss_set 3 sc.nd (by decide) (se_p (sp_lst spa_nil))) (sss_cons (ss_for rfl PassesOwn.never (sj_range1 T.m_range (sb_var 0)) (sg_name 4 sc.nd) (sss_one (ss_for rfl PassesOwn.never (sj_range1 T.m_range (sb_var 1)) (sg_name 5 sc.nd) (sss_cons (ss_set 6 sc.nd (by decide) (se_p (sp_add (SP.sb (sp_mul (sb_var 4) (sb_var 1))) (sb_var 5)))) (sss_cons (ss_set 7 sc.nd (by decide) (se_p (sp_add (SP.sb (sp_mul (sb_var 4) (sb_var 1))) (SP.sb (sp_mod (SP.sb (sp_sub (sb_var 5) (SP.sb sp_int))) (sb_var 1)))))) (sss_cons (ss_set 8 sc.nd (by decide) (se_p (sp_sub (sb_var 6) (sb_var 1)))) (sss_cons (ss_if (set_t (st_eq hr (sb_var 4) (SP.sb sp_int))) (sss_one (ss_set 8 sc.nd (by decide) (se_p (sp_add (SP.sb (sp_mul (SP.sb (sp_sub (sb_var 0) (SP.sb sp_int))) (sb_var 1))) (SP.sb (sp_mod (SP.sb (sp_sub (sb_var 5) (sb_var 2))) (sb_var 1))))))) sss_nil) (sss_one (ss_append (spl_name 3) (se_p (sp_call (ok__law_least T) rfl (hr.mono (by decide)) T.g__law_least T.F__law_least.kp T.b__law_least pass0 (sba_cons (SP.sb (sp_lst (spa_cons (sp_add (SP.sb (sp_mul (SP.sb sp_int) (sb_var 6))) (SP.sb sp_int)) (spa_cons (sp_mul (SP.sb sp_int) (sb_var 6)) (spa_cons (sp_add (SP.sb (sp_mul (SP.sb sp_int) (sb_var 8))) (SP.sb sp_int)) (spa_cons (sp_add (SP.sb (sp_mul (SP.sb sp_int) (sb_var 7))) (SP.sb sp_int)) spa_nil)))))) sba_nil) (lcl lnl))))))))) (by simp [Tg.sl, slL]))) (by simp [Tg.sl, slL])) (sss_one (ss_ret (se_move 3 (by decide))))))
/-! fours_by -/
abbrev nn_fours_by : List PySem.Str := ["rows", "columns", "shift"]
theorem sc_fours_by : FnScope nn_fours_by ["rows", "columns", "shift"] (defScope (topS 10)) := ⟨rfl, rfl, rfl, by decide +kernel, rfl, by decide +kernel, by decide +kernel⟩
def bb_fours_by : SM := (sRet (lift (mFn ff_laid_out (lCons (mk (.lst .o) (lCons (mFn ff_rights_of (lCons (mVar 0) (lCons (mVar 1) lNil))) (lCons (mFn ff_uppers_of (lCons (mVar 0) (lCons (mVar 1) (lCons (mVar 2) lNil)))) lNil))) (lCons (mCT [0, 3, 1, 2]) lNil)))))
def ff_fours_by : FM := runP 3 bb_fours_by
theorem ok_fours_by (T : Tx K mg f fd) : FnOk P w K mg base CX0 3 f.f_fours_by fd.f_fours_by ["rows", "columns", "shift"] (spP K 3 ff_fours_by) :=
  have sc := sc_fours_by
  fn_pure T.F_fours_by sc (by decide) fun cdv A outer s H E hr => (sss_one (ss_ret (se_p (sp_call (ok_laid_out T) rfl (hr.mono (by decide)) T.g_laid_out T.F_laid_out.kp T.b_laid_out pass0 (sba_cons (SP.sb (sp_lst (spa_cons (sp_call (ok_rights_of T) rfl (hr.mono (by decide)) T.g_rights_of T.F_rights_of.kp T.b_rights_of pass0 (sba_cons (sb_var 0) (sba_cons (sb_var 1) sba_nil)) (lcl (lcl lnl))) (spa_cons (sp_call (ok_uppers_of T) rfl (hr.mono (by decide)) T.g_uppers_of T.F_uppers_of.kp T.b_uppers_of pass0 (sba_cons (sb_var 0) (sba_cons (sb_var 1) (sba_cons (sb_var 2) sba_nil))) (lcl (lcl (lcl lnl)))) spa_nil)))) (sba_cons (SP.sb (sp_tupK rfl T.c_FOURS_CLOCK)) sba_nil)) (lcl (lcl lnl))))))
/-! _law_rows -/
abbrev nn__law_rows : List PySem.Str := ["_law_found", "_law_due", "_law_at", "_law_row_here"]
theorem sc__law_rows : FnScope nn__law_rows ["_law_found", "_law_due"] (defScope (topS 21)) := ⟨rfl, rfl, rfl, by decide +kernel, rfl, by decide +kernel, by decide +kernel⟩
def bb__law_rows : SM := (sSeq (sIf (liftT (mOr (mNotT (mB (mIsi "list" (mVar 0)))) (mB (mOp2 fNe (mCall fLen (lCons (mVar 0) lNil)) (mCall fLen (lCons (mVar 1) lNil)))))) (sRet (lift (mC (.bl false)))) sNx) (sSeq (sFor (wE (mPure (mVar 1))) (.tp [(.nm 2), (.nm 3)]) (sIf (liftT (mNotT (mTru (mFn ff__law_row (lCons (mItem (mVar 0) (mVar 2)) (lCons (mVar 3) lNil)))))) (sRet (lift (mC (.bl false)))) sNx)) (sRet (lift (mC (.bl true))))))
def ff__law_rows : FM := runP 4 bb__law_rows
theorem ok__law_rows (T : Tx K mg f fd) : FnOk P w K mg base CX0 3 f.f__law_rows fd.f__law_rows ["_law_found", "_law_due"] (spP K 2 ff__law_rows) :=
  have sc := sc__law_rows
  fn_pure T.F__law_rows sc (by decide) fun cdv A outer s H E hr => (sss_cons (ss_if (set_t (st_w (sw_or (st_not (st_val (SP.sb (sp_isi T.m_isinstance T.m_list bt_list (sb_var 0) bt_isinstance)))) (sw_or1 (st_ne hr (SP.sb (sp_callB call_len_seq opn_len bt_len T.m_len (sba_cons (sb_var 0) sba_nil))) (SP.sb (sp_callB call_len_seq opn_len bt_len T.m_len (sba_cons (sb_var 1) sba_nil)))))))) (sss_one (ss_ret (se_p sp_bl))) sss_nil) (sss_cons (ss_for rfl PassesOwn.never (sj_enum T.m_enumerate (sp_pure (sb_var 1))) (sg_tup rfl (sgs_cons (sg_name 2 sc.nd) (sgs_cons (sg_name 3 sc.nd) sgs_nil))) (sss_one (ss_if (set_t (st_not (st_tru (SP.sb (sp_call (ok__law_row T) rfl (hr.mono (by decide)) T.g__law_row T.F__law_row.kp T.b__law_row pass0 (sba_cons (sb_item (sb_var 0) (sb_var 2)) (sba_cons (sb_var 3) sba_nil)) (lcl (lcl lnl))))))) (sss_one (ss_ret (se_p sp_bl))) sss_nil)) (by simp [Tg.sl, slL])) (sss_one (ss_ret (se_p sp_bl)))))
/-! _law_numbers -/
abbrev nn__law_numbers : List PySem.Str := ["_law_box", "_law_way", "_law_r", "_law_c"]
theorem sc__law_numbers : FnScope nn__law_numbers ["_law_box"] (defScope (topS 24)) := ⟨rfl, rfl, rfl, by decide +kernel, rfl, by decide +kernel, by decide +kernel⟩
def bb__law_numbers : SM := (sSeq (sSet 1 (eCallM ff__law_take [.mv 0, .ev (lift (mC (.int 6)))])) (sSeq (sIf (liftT (mB (mOp2 fEq (mVar 1) (mC (.int 0))))) (sSeq (sSet 2 (eItem (lift (mk (.lst .o) (lCons (mC (.int 1)) (lCons (mC (.int 2)) (lCons (mC (.int 4)) (lCons (mC (.int 5)) (lCons (mC (.int 8)) (lCons (mC (.int 10)) (lCons (mC (.int 20)) (lCons (mC (.int 40)) lNil)))))))))) (eCallM ff__law_take [.mv 0, .ev (lift (mC (.int 8)))]))) (sSet 3 (lift (mOp2 fDiv (mC (.int 40)) (mVar 2))))) (sSeq (sSet 2 (eOp2 fAdd (lift (mC (.int 1))) (eCallM ff__law_take [.mv 0, .ev (lift (mPure (mItem (mk (.lst .o) (lCons (mC (.int 3)) (lCons (mC (.int 6)) (lCons (mC (.int 12)) (lCons (mC (.int 40)) (lCons (mC (.int 7)) lNil)))))) (mOp2 fSub (mVar 1) (mC (.int 1))))))]))) (sSeq (sSet 3 (eOp2 fAdd (lift (mC (.int 1))) (eCallM ff__law_take [.mv 0, .ev (lift (mOp2 fDiv (mC (.int 40)) (mVar 2)))]))) (sIf (eB (eOp2 fEq (eCallM ff__law_take [.mv 0, .ev (lift (mC (.int 2)))]) (lift (mC (.int 1))))) (sAsg (.tp [.nm 2, .nm 3]) (mk .tup (lCons (mPure (mVar 3)) (lCons (mPure (mVar 2)) lNil)))) sNx)))) (sRet (eMk .tup [.ev (lift (mPure (mVar 2))), .ev (lift (mPure (mVar 3))), .ev (eCallM ff__law_take [.mv 0, .bor 3])]))))
def ff__law_numbers : FMu := runM 4 [0] bb__law_numbers
theorem ok__law_numbers (T : Tx K mg f fd) : FnOk P w K mg base CX0 3 f.f__law_numbers fd.f__law_numbers ["_law_box"] (spM K 1 [0] ff__law_numbers) :=
  have sc := sc__law_numbers
  fn_mut T.F__law_numbers sc (by decide) (by decide) fun cdv A outer s H E hr => (sss_cons (ss_set 1 sc.nd (by decide) (se_callM (ok__law_take T) (hr.mono (by decide)) T.g__law_take T.F__law_take.kp T.b__law_take pass0 rfl rfl (by simp [muS, boS]) (sea_mut 0 (sea_ev (se_p sp_int) sea_nil)))) (sss_cons (ss_if (set_t (st_eq hr (sb_var 1) (SP.sb sp_int))) (sss_cons (ss_set 2 sc.nd (by decide) (se_item (se_p (sp_lst (spa_cons sp_int (spa_cons sp_int (spa_cons sp_int (spa_cons sp_int (spa_cons sp_int (spa_cons sp_int (spa_cons sp_int (spa_cons sp_int spa_nil)))))))))) (se_callM (ok__law_take T) (hr.mono (by decide)) T.g__law_take T.F__law_take.kp T.b__law_take pass0 rfl rfl (by simp [muS, boS]) (sea_mut 0 (sea_ev (se_p sp_int) sea_nil))))) (sss_one (ss_set 3 sc.nd (by decide) (se_p (sp_div (SP.sb sp_int) (sb_var 2)))))) (sss_cons (ss_set 2 sc.nd (by decide) (se_add (se_p sp_int) (se_callM (ok__law_take T) (hr.mono (by decide)) T.g__law_take T.F__law_take.kp T.b__law_take pass0 rfl rfl (by simp [muS, boS]) (sea_mut 0 (sea_ev (se_p (sp_item (SP.sb (sp_lst (spa_cons sp_int (spa_cons sp_int (spa_cons sp_int (spa_cons sp_int (spa_cons sp_int spa_nil))))))) (SP.sb (sp_sub (sb_var 1) (SP.sb sp_int))))) sea_nil))))) (sss_cons (ss_set 3 sc.nd (by decide) (se_add (se_p sp_int) (se_callM (ok__law_take T) (hr.mono (by decide)) T.g__law_take T.F__law_take.kp T.b__law_take pass0 rfl rfl (by simp [muS, boS]) (sea_mut 0 (sea_ev (se_p (sp_div (SP.sb sp_int) (sb_var 2))) sea_nil))))) (sss_one (ss_if (set_eq hr (se_callM (ok__law_take T) (hr.mono (by decide)) T.g__law_take T.F__law_take.kp T.b__law_take pass0 rfl rfl (by simp [muS, boS]) (sea_mut 0 (sea_ev (se_p sp_int) sea_nil))) (se_p sp_int)) (sss_one (ss_par 2 3 rfl sc.nd (by decide) (by decide) (by decide) (spa_cons (sp_pure (sb_var 3)) (spa_cons (sp_pure (sb_var 2)) spa_nil)))) sss_nil))))) (sss_one (ss_ret (se_tupA (sea_ev (se_p (sp_pure (sb_var 2))) (sea_ev (se_p (sp_pure (sb_var 3))) (sea_ev (se_callM (ok__law_take T) (hr.mono (by decide)) T.g__law_take T.F__law_take.kp T.b__law_take pass0 rfl rfl (by simp [muS, boS]) (sea_mut 0 (sea_bor 3 sea_nil))) sea_nil))))))))
/-! _law_spoilt -/
abbrev nn__law_spoilt : List PySem.Str := ["_law_box", "_law_r", "_law_c", "_law_s", "_law_great", "_law_way"]
theorem sc__law_spoilt : FnScope nn__law_spoilt ["_law_box", "_law_r", "_law_c", "_law_s"] (defScope (topS 25)) := ⟨rfl, rfl, rfl, by decide +kernel, rfl, by decide +kernel, by decide +kernel⟩
def bb__law_spoilt : SM := (sSeq (sSet 4 (eOp2 fAdd (eOp2 fMul (eCallM ff__law_take [.mv 0, .ev (lift (mC (.int 2)))]) (lift (mOp2 fPow (mC (.int 10)) (mC (.int 40))))) (eOp2 fMul (eCallM ff__law_take [.mv 0, .ev (lift (mOp2 fPow (mC (.int 10)) (mC (.int 18))))]) (eCallM ff__law_take [.mv 0, .ev (lift (mC (.int 3)))])))) (sSeq (sSet 5 (eCallM ff__law_take [.mv 0, .ev (lift (mC (.int 6)))])) (sSeq (sIf (liftT (mB (mOp2 fEq (mVar 5) (mC (.int 0))))) (sSet 1 (lift (mOp2 fSub (mC (.int 0)) (mVar 4)))) sNx) (sSeq (sIf (liftT (mB (mOp2 fEq (mVar 5) (mC (.int 1))))) (sSet 2 (lift (mOp2 fSub (mC (.int 0)) (mVar 4)))) sNx) (sSeq (sIf (liftT (mB (mOp2 fEq (mVar 5) (mC (.int 2))))) (sSet 3 (lift (mOp2 fSub (mOp1 fNeg (mC (.int 1))) (mVar 4)))) sNx) (sSeq (sIf (liftT (mB (mOp2 fEq (mVar 5) (mC (.int 3))))) (sSet 3 (lift (mOp2 fAdd (mVar 2) (mVar 4)))) sNx) (sSeq (sIf (liftT (mB (mOp2 fEq (mVar 5) (mC (.int 4))))) (sSet 1 (lift (mOp2 fAdd (mOp2 fAdd (mOp2 fDiv (mC (.int 40)) (mCall fMax2 (lCons (mC (.int 1)) (lCons (mVar 2) lNil)))) (mC (.int 1))) (mVar 4)))) sNx) (sSeq (sIf (liftT (mB (mOp2 fEq (mVar 5) (mC (.int 5))))) (sSet 2 (lift (mOp2 fAdd (mOp2 fAdd (mOp2 fDiv (mC (.int 40)) (mCall fMax2 (lCons (mC (.int 1)) (lCons (mVar 1) lNil)))) (mC (.int 1))) (mVar 4)))) sNx) (sRet (lift (mk .tup (lCons (mPure (mVar 1)) (lCons (mPure (mVar 2)) (lCons (mPure (mVar 3)) lNil))))))))))))))
def ff__law_spoilt : FMu := runM 6 [0] bb__law_spoilt
theorem ok__law_spoilt (T : Tx K mg f fd) : FnOk P w K mg base CX0 3 f.f__law_spoilt fd.f__law_spoilt ["_law_box", "_law_r", "_law_c", "_law_s"] (spM K 4 [0] ff__law_spoilt) :=
  have sc := sc__law_spoilt
  fn_mut T.F__law_spoilt sc (by decide) (by decide) fun cdv A outer s H E hr => (sss_cons (ss_set 4 sc.nd (by decide) (se_add (se_mul (se_callM (ok__law_take T) (hr.mono (by decide)) T.g__law_take T.F__law_take.kp T.b__law_take pass0 rfl rfl (by simp [muS, boS]) (sea_mut 0 (sea_ev (se_p sp_int) sea_nil))) (se_p (sp_pow (SP.sb sp_int) (SP.sb sp_int)))) (se_mul (se_callM (ok__law_take T) (hr.mono (by decide)) T.g__law_take T.F__law_take.kp T.b__law_take pass0 rfl rfl (by simp [muS, boS]) (sea_mut 0 (sea_ev (se_p (sp_pow (SP.sb sp_int) (SP.sb sp_int))) sea_nil))) (se_callM (ok__law_take T) (hr.mono (by decide)) T.g__law_take T.F__law_take.kp T.b__law_take pass0 rfl rfl (by simp [muS, boS]) (sea_mut 0 (sea_ev (se_p sp_int) sea_nil)))))) (sss_cons (ss_set 5 sc.nd (by decide) (se_callM (ok__law_take T) (hr.mono (by decide)) T.g__law_take T.F__law_take.kp T.b__law_take pass0 rfl rfl (by simp [muS, boS]) (sea_mut 0 (sea_ev (se_p sp_int) sea_nil)))) (sss_cons (ss_if (set_t (st_eq hr (sb_var 5) (SP.sb sp_int))) (sss_one (ss_set 1 sc.nd (by decide) (se_p (sp_sub (SP.sb sp_int) (sb_var 4))))) sss_nil) (sss_cons (ss_if (set_t (st_eq hr (sb_var 5) (SP.sb sp_int))) (sss_one (ss_set 2 sc.nd (by decide) (se_p (sp_sub (SP.sb sp_int) (sb_var 4))))) sss_nil) (sss_cons (ss_if (set_t (st_eq hr (sb_var 5) (SP.sb sp_int))) (sss_one (ss_set 3 sc.nd (by decide) (se_p (sp_sub (SP.sb (sp_neg (SP.sb sp_int))) (sb_var 4))))) sss_nil) (sss_cons (ss_if (set_t (st_eq hr (sb_var 5) (SP.sb sp_int))) (sss_one (ss_set 3 sc.nd (by decide) (se_p (sp_add (sb_var 2) (sb_var 4))))) sss_nil) (sss_cons (ss_if (set_t (st_eq hr (sb_var 5) (SP.sb sp_int))) (sss_one (ss_set 1 sc.nd (by decide) (se_p (sp_add (SP.sb (sp_add (SP.sb (sp_div (SP.sb sp_int) (SP.sb (sp_callB (call_max2 rfl) opn_max2 bt_max T.m_max (sba_cons (SP.sb sp_int) (sba_cons (sb_var 2) sba_nil)))))) (SP.sb sp_int))) (sb_var 4))))) sss_nil) (sss_cons (ss_if (set_t (st_eq hr (sb_var 5) (SP.sb sp_int))) (sss_one (ss_set 2 sc.nd (by decide) (se_p (sp_add (SP.sb (sp_add (SP.sb (sp_div (SP.sb sp_int) (SP.sb (sp_callB (call_max2 rfl) opn_max2 bt_max T.m_max (sba_cons (SP.sb sp_int) (sba_cons (sb_var 1) sba_nil)))))) (SP.sb sp_int))) (sb_var 4))))) sss_nil) (sss_one (ss_ret (se_p (sp_tup (spa_cons (sp_pure (sb_var 1)) (spa_cons (sp_pure (sb_var 2)) (spa_cons (sp_pure (sb_var 3)) spa_nil)))))))))))))))
/-! fours -/
abbrev nn_fours : List PySem.Str := ["rows", "columns", "shift"]
theorem sc_fours : FnScope nn_fours ["rows", "columns", "shift"] (defScope (topS 9)) := ⟨rfl, rfl, rfl, by decide +kernel, rfl, by decide +kernel, by decide +kernel⟩
def bb_fours : SM := (sSeq (sDropX (eFnX ff_check_numbers (lCons (mVar 0) (lCons (mVar 1) (lCons (mVar 2) lNil))))) (sRet (lift (mFn ff_fours_by (lCons (mVar 0) (lCons (mVar 1) (lCons (mVar 2) lNil)))))))
def ff_fours : FM := runX 3 bb_fours
theorem ok_fours (T : Tx K mg f fd) : FnOk P w K mg base (L2.CX P w) 4 f.f_fours fd.f_fours ["rows", "columns", "shift"] (spX K mg 3 ff_fours) :=
  have sc := sc_fours
  fn_raise T.F_fours sc (by decide) fun cdv A outer s H E hr po => (sss_cons (ss_exprX (sex_call (ok_check_numbers T) rfl (hr.mono (by decide)) T.g_check_numbers T.F_check_numbers.kp T.b_check_numbers (sba_cons (sb_var 0) (sba_cons (sb_var 1) (sba_cons (sb_var 2) sba_nil))) (lcl (lcl (lcl lnl))))) (sss_one (ss_ret (se_p (sp_call (ok_fours_by T) rfl (hr.mono (by decide)) T.g_fours_by T.F_fours_by.kp T.b_fours_by pass0 (sba_cons (sb_var 0) (sba_cons (sb_var 1) (sba_cons (sb_var 2) sba_nil))) (lcl (lcl (lcl lnl))))))))
/-! _law_refused -/
abbrev nn__law_refused : List PySem.Str := ["_law_r", "_law_c", "_law_s", "e"]
theorem sc__law_refused : FnScope nn__law_refused ["_law_r", "_law_c", "_law_s"] (defScope (topS 26)) := ⟨rfl, rfl, rfl, by decide +kernel, rfl, by decide +kernel, by decide +kernel⟩
def bb__law_refused : SM := (sSeq (sTry (sDropX (eFnX ff_fours (lCons (mVar 0) (lCons (mVar 1) (lCons (mVar 2) lNil))))) [.only (tabS ["NoNumbers"] "NoKind") (sRet (lift (mC (.bl false)))), .as (tabS ["NoNumbers"] "NoNumbers") 3 (fun n_ => (sRet (lift (mAndV (mIsX (tabS ["NoNumbers"] "FloorError") n_) (mAndV (mIsX (tabS ["NoNumbers"] "ValueError") n_) (mNotV (mIsX (tabS ["NoNumbers"] "NoKind") n_)))))))]) (sRet (lift (mC (.bl false)))))
def ff__law_refused : FM := runP 4 bb__law_refused
theorem ok__law_refused (T : Tx K mg f fd) : FnOk P w K mg base CX0 5 f.f__law_refused fd.f__law_refused ["_law_r", "_law_c", "_law_s"] (spP K 3 ff__law_refused) :=
  have sc := sc__law_refused
  fn_pure T.F__law_refused sc (by decide) fun cdv A outer s H E hr => (sss_cons (ss_try rfl rfl (fun _ _ po => (sss_one (ss_exprX (sex_call (ok_fours T) rfl (hr.mono (by decide)) T.g_fours T.F_fours.kp T.b_fours (sba_cons (sb_var 0) (sba_cons (sb_var 1) (sba_cons (sb_var 2) sba_nil))) (lcl (lcl (lcl lnl))))))) (.only ⟨rfl, by decide, .inl T.n_NoKind⟩ T.x_NoKind (sn_ss fun _ _ => (sss_one (ss_ret (se_p sp_bl)))) (.as sc.nd rfl rfl (by decide) ⟨rfl, by decide, .inl T.n_NoNumbers⟩ T.x_NoNumbers (su_ret (pu_and (pu_isi rfl (v := .ref f.c_FloorError) (fun _ _ => pe_glob rfl T.n_FloorError rfl) (fun _ h => h) T.i_FloorError T.m_isinstance bt_isinstance) (pu_and (pu_isi rfl (v := .ty "ValueError") (fun _ _ => pe_bltn rfl T.m_ValueError bt_ValueError rfl (by decide)) (fun _ h => h) T.i_ValueError T.m_isinstance bt_isinstance) (pu_one (pu_not (pu_isi rfl (v := .ref f.c_NoKind) (fun _ _ => pe_glob rfl T.n_NoKind rfl) (fun _ h => h) T.i_NoKind T.m_isinstance bt_isinstance)))))) .nil))) (sss_one (ss_ret (se_p sp_bl))))
/-! _law_refused_by_any -/
abbrev nn__law_refused_by_any : List PySem.Str := ["_law_r", "_law_c", "_law_s"]
theorem sc__law_refused_by_any : FnScope nn__law_refused_by_any ["_law_r", "_law_c", "_law_s"] (defScope (topS 27)) := ⟨rfl, rfl, rfl, by decide +kernel, rfl, by decide +kernel, by decide +kernel⟩
def bb__law_refused_by_any : SM := (sSeq (sTry (sDropX (eFnX ff_fours (lCons (mVar 0) (lCons (mVar 1) (lCons (mVar 2) lNil))))) [.only (tabS ["NoNumbers"] "FloorError") (sRet (lift (mC (.bl true))))]) (sRet (lift (mC (.bl false)))))
def ff__law_refused_by_any : FM := runP 3 bb__law_refused_by_any
theorem ok__law_refused_by_any (T : Tx K mg f fd) : FnOk P w K mg base CX0 5 f.f__law_refused_by_any fd.f__law_refused_by_any ["_law_r", "_law_c", "_law_s"] (spP K 3 ff__law_refused_by_any) :=
  have sc := sc__law_refused_by_any
  fn_pure T.F__law_refused_by_any sc (by decide) fun cdv A outer s H E hr => (sss_cons (ss_try rfl rfl (fun _ _ po => (sss_one (ss_exprX (sex_call (ok_fours T) rfl (hr.mono (by decide)) T.g_fours T.F_fours.kp T.b_fours (sba_cons (sb_var 0) (sba_cons (sb_var 1) (sba_cons (sb_var 2) sba_nil))) (lcl (lcl (lcl lnl))))))) (.only ⟨rfl, by decide, .inl T.n_FloorError⟩ T.x_FloorError (sn_ss fun _ _ => (sss_one (ss_ret (se_p sp_bl)))) .nil)) (sss_one (ss_ret (se_p sp_bl))))
/-! law -/
abbrev nn_law : List PySem.Str := ["_law_script", "_law_box", "_law_spoils", "_law_r", "_law_c", "_law_s", "_law_due", "_law_told", "_law_k", "_law_good"]
theorem sc_law : FnScope nn_law ["_law_script"] (defScope (topS 28)) := ⟨rfl, rfl, rfl, by decide +kernel, rfl, by decide +kernel, by decide +kernel⟩
def bb_law : SM := (sSeq (sSet 1 (lift (mk (.lst .o) (lCons (mCallL fList (lCons (mVar 0) lNil)) (lCons (mC (.int 0)) (lCons (mC (.int 0)) (lCons (mC (.int 0)) lNil))))))) (sSeq (sSet 2 (eItem (lift (mk (.lst .o) (lCons (mC (.int 0)) (lCons (mC (.int 0)) (lCons (mC (.int 0)) (lCons (mC (.int 0)) (lCons (mC (.int 0)) (lCons (mC (.int 1)) (lCons (mC (.int 1)) (lCons (mC (.int 2)) lNil)))))))))) (eCallM ff__law_take [.mv 1, .ev (lift (mC (.int 8)))]))) (sSeq (sAsgE (.tp [(.nm 3), (.nm 4), (.nm 5)]) (eCallM ff__law_numbers [.mv 1])) (sSeq (sSet 6 (lift (mFn ff__law_fours (lCons (mVar 3) (lCons (mVar 4) (lCons (mVar 5) lNil)))))) (sSeq (sIf (liftT (mNotT (mTru (mFn ff__law_rows (lCons (mFnN ff_fours (lCons (mVar 3) (lCons (mVar 4) (lCons (mVar 5) lNil)))) (lCons (mVar 6) lNil)))))) (sRet (lift (mC (.bl false)))) sNx) (sSeq (sSet 7 (lift (mFnN ff_fours (lCons (mVar 3) (lCons (mVar 4) (lCons (mVar 5) lNil)))))) (sSeq (sApp 7 (plItem 7 (plName 7) (mC (.int 0))) (lift (mC (.int 7)))) (sSeq (sDrop (ePop 7 (plName 7))) (sSeq (sIf (liftT (mNotT (mTru (mFn ff__law_rows (lCons (mFnN ff_fours (lCons (mVar 3) (lCons (mVar 4) (lCons (mVar 5) lNil)))) (lCons (mVar 6) lNil)))))) (sRet (lift (mC (.bl false)))) sNx) (sSeq (sFor (wR (rg1 (mVar 2))) (.nm 8) (sAsgE (.tp [(.nm 3), (.nm 4), (.nm 5)]) (eCallM ff__law_spoilt [.mv 1, .bor 3, .bor 4, .bor 5]))) (sSeq (sSet 9 (lift (mAndV (mOp2 fGe (mVar 3) (mC (.int 1))) (mAndV (mOp2 fGe (mVar 4) (mC (.int 1))) (mAndV (mChain fLe fLt (mC (.int 0)) (mVar 5) (mVar 4)) (mOp2 fLe (mOp2 fMul (mVar 3) (mVar 4)) (mC (.int 40)))))))) (sSeq (sIf (liftT (mNotT (mTru (mVar 9)))) (sRet (lift (mAndV (mFn ff__law_refused (lCons (mVar 3) (lCons (mVar 4) (lCons (mVar 5) lNil)))) (mFn ff__law_refused_by_any (lCons (mVar 3) (lCons (mVar 4) (lCons (mVar 5) lNil))))))) sNx) (sRet (lift (mFn ff__law_rows (lCons (mFnN ff_fours (lCons (mVar 3) (lCons (mVar 4) (lCons (mVar 5) lNil)))) (lCons (mFn ff__law_fours (lCons (mVar 3) (lCons (mVar 4) (lCons (mVar 5) lNil)))) lNil)))))))))))))))))
def ff_law : FM := runP 10 bb_law
theorem ok_law (T : Tx K mg f fd) : FnOk P w K mg base CX0 6 f.f_law fd.f_law ["_law_script"] (spP K 1 ff_law) :=
  have sc := sc_law
  fn_pure T.F_law sc (by decide) fun cdv A outer s H E hr => (sss_cons (ss_set 1 sc.nd (by decide) (se_p (sp_lst (spa_cons (sp_callTyL call_list_of opnl_list bt_list T.m_list (sba_cons (sb_var 0) sba_nil)) (spa_cons sp_int (spa_cons sp_int (spa_cons sp_int spa_nil))))))) (sss_cons (ss_set 2 sc.nd (by decide) (se_item (se_p (sp_lst (spa_cons sp_int (spa_cons sp_int (spa_cons sp_int (spa_cons sp_int (spa_cons sp_int (spa_cons sp_int (spa_cons sp_int (spa_cons sp_int spa_nil)))))))))) (se_callM (ok__law_take T) (hr.mono (by decide)) T.g__law_take T.F__law_take.kp T.b__law_take pass0 rfl rfl (by simp [muS, boS]) (sea_mut 1 (sea_ev (se_p sp_int) sea_nil))))) (sss_cons (ss_asgE (se_callM (ok__law_numbers T) (hr.mono (by decide)) T.g__law_numbers T.F__law_numbers.kp T.b__law_numbers pass0 rfl rfl (by simp [muS, boS]) (sea_mut 1 sea_nil)) (sg_tup rfl (sgs_cons (sg_name 3 sc.nd) (sgs_cons (sg_name 4 sc.nd) (sgs_cons (sg_name 5 sc.nd) sgs_nil)))) (by simp [Tg.sl, slL])) (sss_cons (ss_set 6 sc.nd (by decide) (se_p (sp_call (ok__law_fours T) rfl (hr.mono (by decide)) T.g__law_fours T.F__law_fours.kp T.b__law_fours pass0 (sba_cons (sb_var 3) (sba_cons (sb_var 4) (sba_cons (sb_var 5) sba_nil))) (lcl (lcl (lcl lnl)))))) (sss_cons (ss_if (set_t (st_not (st_tru (SP.sb (sp_call (ok__law_rows T) rfl (hr.mono (by decide)) T.g__law_rows T.F__law_rows.kp T.b__law_rows pass0 (sba_cons (SP.sb (sp_callN (ok_fours T) rfl (hr.mono (by decide)) T.g_fours T.F_fours.kp T.b_fours (sba_cons (sb_var 3) (sba_cons (sb_var 4) (sba_cons (sb_var 5) sba_nil))) (lcl (lcl (lcl lnl))))) (sba_cons (sb_var 6) sba_nil)) (lcl (lcl lnl))))))) (sss_one (ss_ret (se_p sp_bl))) sss_nil) (sss_cons (ss_set 7 sc.nd (by decide) (se_p (sp_callN (ok_fours T) rfl (hr.mono (by decide)) T.g_fours T.F_fours.kp T.b_fours (sba_cons (sb_var 3) (sba_cons (sb_var 4) (sba_cons (sb_var 5) sba_nil))) (lcl (lcl (lcl lnl)))))) (sss_cons (ss_append (spl_item (spl_name 7) (SP.sb sp_int)) (se_p sp_int)) (sss_cons (ss_expr (se_pop (spl_name 7) (by decide))) (sss_cons (ss_if (set_t (st_not (st_tru (SP.sb (sp_call (ok__law_rows T) rfl (hr.mono (by decide)) T.g__law_rows T.F__law_rows.kp T.b__law_rows pass0 (sba_cons (SP.sb (sp_callN (ok_fours T) rfl (hr.mono (by decide)) T.g_fours T.F_fours.kp T.b_fours (sba_cons (sb_var 3) (sba_cons (sb_var 4) (sba_cons (sb_var 5) sba_nil))) (lcl (lcl (lcl lnl))))) (sba_cons (sb_var 6) sba_nil)) (lcl (lcl lnl))))))) (sss_one (ss_ret (se_p sp_bl))) sss_nil) (sss_cons (ss_for rfl PassesOwn.never (sj_range1 T.m_range (sb_var 2)) (sg_name 8 sc.nd) (sss_one (ss_asgE (se_callM (ok__law_spoilt T) (hr.mono (by decide)) T.g__law_spoilt T.F__law_spoilt.kp T.b__law_spoilt pass0 rfl rfl (by simp [muS, boS]) (sea_mut 1 (sea_bor 3 (sea_bor 4 (sea_bor 5 sea_nil))))) (sg_tup rfl (sgs_cons (sg_name 3 sc.nd) (sgs_cons (sg_name 4 sc.nd) (sgs_cons (sg_name 5 sc.nd) sgs_nil)))) (by simp [Tg.sl, slL]))) (by simp [Tg.sl, slL])) (sss_cons (ss_set 9 sc.nd (by decide) (se_p (sp_and (sp_ge (sb_var 3) (SP.sb sp_int)) (sp_and (sp_ge (sb_var 4) (SP.sb sp_int)) (sp_and (sp_chain op_le op_lt op2_I0 op2_I0 (SP.sb sp_int) (sb_var 5) (sb_var 4)) (sp_one (sp_le (SP.sb (sp_mul (sb_var 3) (sb_var 4))) (SP.sb sp_int)))))))) (sss_cons (ss_if (set_t (st_not (st_tru (sb_var 9)))) (sss_one (ss_ret (se_p (sp_and (sp_call (ok__law_refused T) rfl (hr.mono (by decide)) T.g__law_refused T.F__law_refused.kp T.b__law_refused pass0 (sba_cons (sb_var 3) (sba_cons (sb_var 4) (sba_cons (sb_var 5) sba_nil))) (lcl (lcl (lcl lnl)))) (sp_one (sp_call (ok__law_refused_by_any T) rfl (hr.mono (by decide)) T.g__law_refused_by_any T.F__law_refused_by_any.kp T.b__law_refused_by_any pass0 (sba_cons (sb_var 3) (sba_cons (sb_var 4) (sba_cons (sb_var 5) sba_nil))) (lcl (lcl (lcl lnl))))))))) sss_nil) (sss_one (ss_ret (se_p (sp_call (ok__law_rows T) rfl (hr.mono (by decide)) T.g__law_rows T.F__law_rows.kp T.b__law_rows pass0 (sba_cons (SP.sb (sp_callN (ok_fours T) rfl (hr.mono (by decide)) T.g_fours T.F_fours.kp T.b_fours (sba_cons (sb_var 3) (sba_cons (sb_var 4) (sba_cons (sb_var 5) sba_nil))) (lcl (lcl (lcl lnl))))) (sba_cons (SP.sb (sp_call (ok__law_fours T) rfl (hr.mono (by decide)) T.g__law_fours T.F__law_fours.kp T.b__law_fours pass0 (sba_cons (sb_var 3) (sba_cons (sb_var 4) (sba_cons (sb_var 5) sba_nil))) (lcl (lcl (lcl lnl))))) sba_nil)) (lcl (lcl lnl))))))))))))))))))
end
end Lw

namespace Ty
variable {α β γ σ ρ : Type}

/-! ### steps over plain typed data: what a text of the program comes to -/
/-- a name given -/
def lt (a : α) (f : α → β) : β := f a
@[simp] theorem lt_eq (a : α) (f : α → β) : lt a f = f a := rfl
def ixZ (n : Nat) (i : Int) : Option Nat := if 0 ≤ i then (if i < n then some i.toNat else none) else if -(n : Int) ≤ i then some (i + n).toNat else none
@[irreducible] def idx (xs : List α) (i : Int) : Option α := (ixZ xs.length i).bind fun j => xs[j]?
@[irreducible] def putI (xs : List α) (i : Int) (v : α) : Option (List α) := (ixZ xs.length i).map fun j => xs.set j v
/-- an item changed, of a place that is there -/
@[irreducible] def setI (xs : List α) (i : Int) (v : α) : List α := ((ixZ xs.length i).map fun j => xs.set j v).getD xs
@[irreducible] def pmul (i j : Int) : Option Int := if i.natAbs.log2 < 2000000 ∧ j.natAbs.log2 < 2000000 then some (i * j) else none
@[irreducible] def pdiv (i j : Int) : Option Int := if 0 < j ∧ j < 2 ^ 250 then some (i / j) else none
@[irreducible] def pmod (i j : Int) : Option Int := if 0 < j then some (i % j) else none
@[irreducible] def ppow (i j : Int) : Option Int := if 0 ≤ j ∧ j ≤ 1000 ∧ i.natAbs < 2 ^ 64 then some (i ^ j.toNat) else none
def span (a b : Int) : List Int := (List.range (b - a).toNat).map fun (i : Nat) => a + (i : Int)
@[irreducible] def rng (a b : Int) : Option (List Int) := if -(2 ^ 60) ≤ a ∧ a ≤ 2 ^ 60 ∧ -(2 ^ 60) ≤ b ∧ b ≤ 2 ^ 60 ∧ (b - a).toNat ≤ 16777216 then some (span a b) else none
@[irreducible] def cat (xs ys : List α) : Option (List α) := if xs.length + ys.length ≤ 16777216 then some (xs ++ ys) else none
@[irreducible] def rep (xs : List α) (n : Int) : Option (List α) := if n < 2 ^ 60 ∧ -(2 ^ 60) < n ∧ xs.length * n.toNat ≤ 16777216 then some (List.replicate n.toNat xs).flatten else none
@[irreducible] def app (xs : List α) (v : α) : Option (List α) := if xs.length < 16777216 then some (xs ++ [v]) else none
@[irreducible] def insI (xs : List α) (n : Int) (v : α) : Option (List α) := if xs.length < 16777216 ∧ 0 ≤ n ∧ n < 2 ^ 60 then some (xs.take n.toNat ++ [v] ++ xs.drop n.toNat) else none
@[irreducible] def popI (xs : List α) (n : Int) : Option (α × List α) := if xs.length ≤ 16777216 then (ixZ xs.length n).bind fun j => (xs[j]?).map fun z => (z, xs.eraseIdx j) else none
@[irreducible] def pmax (xs : List Int) : Option Int := xs.max?
@[irreducible] def pmin (xs : List Int) : Option Int := xs.min?
@[irreducible] def ixOf (xs : List Int) (i : Int) : Option Int := if i ∈ xs then some (xs.idxOf i : Nat) else none
def bd (n d : Nat) : Option Int → Nat
  | none => d
  | some i => if i < 0 then (if i < -(n : Int) then 0 else (i + n).toNat) else min i.toNat n
@[irreducible] def sl (xs : List α) (lo hi : Option Int) : List α := (xs.drop (bd xs.length 0 lo)).take (bd xs.length xs.length hi - bd xs.length 0 lo)
/-- a list made by going over another one -/
@[irreducible] def lcm (xs : List α) (f : α → β) : Option (List β) := if xs.length ≤ 16777216 then some (xs.map f) else none
def lcO (p : α → Option Bool) (f : α → Option β) : List α → Option (List β)
  | [] => some []
  | x :: xs => (p x).bind fun b => if b = true then (f x).bind fun y => (lcO p f xs).map (y :: ·) else lcO p f xs
@[irreducible] def lcp (xs : List α) (p : α → Option Bool) (f : α → Option β) : Option (List β) := if xs.length ≤ 16777216 then lcO p f xs else none
def enu : Nat → List α → List (Int × α)
  | _, [] => []
  | i, x :: xs => ((i : Int), x) :: enu (i + 1) xs
/-- what a turn of a loop comes to: go on, leave the loop, end the function -/
inductive Lp (σ ρ : Type) where
  | go (s : σ)
  | br (s : σ)
  | rt (r : ρ)
def forO : List α → σ → (σ → α → Option σ) → Option σ
  | [], s, _ => some s
  | x :: xs, s, f => (f s x).bind fun s' => forO xs s' f
def forR : List α → σ → (σ → α → Option (Lp σ ρ)) → Option (Lp σ ρ)
  | [], s, _ => some (.go s)
  | x :: xs, s, f => (f s x).bind fun r => match r with
    | .go s' => forR xs s' f
    | .br s' => some (.go s')
    | .rt v => some (.rt v)
def whO : Nat → σ → (σ → Option Bool) → (σ → Option σ) → Option σ
  | 0, _, _, _ => none
  | n + 1, s, c, f => (c s).bind fun b => if b = true then (f s).bind fun s' => whO n s' c f else some s
def whR : Nat → σ → (σ → Option Bool) → (σ → Option (Lp σ ρ)) → Option (Lp σ ρ)
  | 0, _, _, _ => none
  | n + 1, s, c, f => (c s).bind fun b => if b = true then (f s).bind fun r => match r with
    | .go s' => whR n s' c f
    | .br s' => some (.go s')
    | .rt v => some (.rt v) else some (.go s)
/-- behind a loop or a test: go on, or be done -/
def aft (o : Option (Lp σ ρ)) (f : σ → Option γ) (g : ρ → Option γ) : Option γ := o.bind fun r => match r with
  | .go s => f s
  | .br s => f s
  | .rt v => g v
@[irreducible] def chk (b : Bool) (o : Option α) : Option α := if b = true then o else none

/-! ### it comes to something that is so -/
def Ok (o : Option α) (Q : α → Prop) : Prop := ∃ a, o = some a ∧ Q a
theorem Ok.of {o : Option α} {a : α} {Q : α → Prop} (h : o = some a) (q : Q a) : Ok o Q := ⟨a, h, q⟩
theorem Ok.ret {a : α} {Q : α → Prop} (q : Q a) : Ok (some a) Q := ⟨a, rfl, q⟩
theorem Ok.mono {o : Option α} {Q R : α → Prop} (h : Ok o Q) (f : ∀ a, Q a → R a) : Ok o R := let ⟨a, e, q⟩ := h; ⟨a, e, f a q⟩
theorem Ok.bind {o : Option α} {f : α → Option β} {Q : α → Prop} {R : β → Prop} (h : Ok o Q) (k : ∀ a, Q a → Ok (f a) R) : Ok (o.bind f) R := by
  obtain ⟨a, e, q⟩ := h
  subst e
  exact k a q
theorem Ok.bindE {o : Option α} {f : α → Option β} {a : α} {R : β → Prop} (h : o = some a) (k : Ok (f a) R) : Ok (o.bind f) R := by
  subst h
  exact k
theorem bs {α β : Type} (a : α) (f : α → Option β) : Option.bind (some a) f = f a := (Option.bind_some a f).trans (Eq.refl (f a))
theorem Ok.lt {a : α} {f : α → Option β} {R : β → Prop} (k : Ok (f a) R) : Ok (Ty.lt a f) R := k
theorem Ok.map {o : Option α} {f : α → β} {R : β → Prop} (h : Ok o fun a => R (f a)) : Ok (o.map f) R := by
  obtain ⟨a, e, q⟩ := h
  subst e
  exact ⟨_, rfl, q⟩
theorem Ok.ite {p : Prop} [Decidable p] {a b : Option α} {Q : α → Prop} (h : p → Ok a Q) (k : ¬p → Ok b Q) : Ok (if p then a else b) Q := by
  split
  · exact h ‹_›
  · exact k ‹_›
theorem Ok.pos {p : Prop} [Decidable p] {a b : Option α} {Q : α → Prop} (h : p) (k : Ok a Q) : Ok (if p then a else b) Q := by rw [if_pos h]; exact k
theorem Ok.neg {p : Prop} [Decidable p] {a b : Option α} {Q : α → Prop} (h : ¬p) (k : Ok b Q) : Ok (if p then a else b) Q := by rw [if_neg h]; exact k
theorem Ok.eqs {o : Option α} {a : α} (h : Ok o (· = a)) : o = some a := by
  obtain ⟨b, e, rfl⟩ := h
  exact e

/-! ### the partial steps, where they come to something -/
theorem ixZ_ok {n : Nat} {i : Int} (h0 : 0 ≤ i) (h1 : i < n) : ixZ n i = some i.toNat := by
  unfold ixZ
  rw [if_pos h0, if_pos h1]
theorem ixZ_neg {n : Nat} {i : Int} (h0 : i < 0) (h1 : -(n : Int) ≤ i) : ixZ n i = some (i + n).toNat := by
  unfold ixZ
  rw [if_neg (by omega), if_pos h1]
theorem idx_at {xs : List α} {i : Int} {x : α} (h0 : 0 ≤ i) (h1 : xs[i.toNat]? = some x) : idx xs i = some x := by
  obtain ⟨h2, h3⟩ := List.getElem?_eq_some_iff.mp h1
  unfold idx
  rw [ixZ_ok h0 (by omega)]
  exact h1
theorem idx_ok {xs : List α} {i : Int} (h0 : 0 ≤ i) (h1 : i < xs.length) : idx xs i = some (xs[i.toNat]'(by omega)) := idx_at h0 (List.getElem?_eq_getElem (by omega))
theorem idx_nat {xs : List α} {i : Nat} (h : i < xs.length) : idx xs (i : Int) = some xs[i] := idx_at (by omega) (by rw [show ((i : Int)).toNat = i by omega]; exact List.getElem?_eq_getElem h)
theorem idx_neg {xs : List α} {i : Int} (h0 : i < 0) (h1 : -(xs.length : Int) ≤ i) : idx xs i = some (xs[(i + xs.length).toNat]'(by omega)) := by
  unfold idx
  rw [ixZ_neg h0 h1]
  exact List.getElem?_eq_getElem (by omega)
theorem idx_last {xs : List α} (h : xs ≠ []) : idx xs (-1) = some (xs.getLast h) := by
  have hl : 0 < xs.length := List.length_pos_iff.mpr h
  rw [idx_neg (by omega) (by omega), List.getLast_eq_getElem]
  congr 2
  omega
theorem idx_mem {xs : List α} {i : Int} {x : α} (h : idx xs i = some x) : x ∈ xs := by
  unfold idx at h
  cases hj : ixZ xs.length i with
  | none => rw [hj] at h; cases h
  | some j => rw [hj] at h; exact List.mem_of_getElem? h
theorem putI_ok {xs : List α} {i : Int} {v : α} (h0 : 0 ≤ i) (h1 : i < xs.length) : putI xs i v = some (xs.set i.toNat v) := by
  unfold putI
  rw [ixZ_ok h0 h1]; rfl
theorem putI_neg {xs : List α} {i : Int} {v : α} (h0 : i < 0) (h1 : -(xs.length : Int) ≤ i) : putI xs i v = some (xs.set (i + xs.length).toNat v) := by
  unfold putI
  rw [ixZ_neg h0 h1]; rfl
theorem setI_ok {xs : List α} {i : Int} {v : α} (h0 : 0 ≤ i) (h1 : i < xs.length) : setI xs i v = xs.set i.toNat v := by
  unfold setI
  rw [ixZ_ok h0 h1]; rfl
theorem setI_neg {xs : List α} {i : Int} {v : α} (h0 : i < 0) (h1 : -(xs.length : Int) ≤ i) : setI xs i v = xs.set (i + xs.length).toNat v := by
  unfold setI
  rw [ixZ_neg h0 h1]; rfl
theorem setI_len {xs : List α} {i : Int} {v : α} : (setI xs i v).length = xs.length := by
  unfold setI
  cases ixZ xs.length i <;> simp
theorem pmul_ok {i j : Int} (h1 : i.natAbs < 2 ^ 250) (h2 : j.natAbs < 2 ^ 250) : pmul i j = some (i * j) := by
  unfold pmul
  have lg : ∀ n : Nat, n < 2 ^ 250 → n.log2 < 2000000 := fun n hn => by
    by_cases z : n = 0
    · subst z; decide
    · exact Nat.lt_trans ((Nat.log2_lt z).mpr hn) (by decide)
  exact if_pos ⟨lg _ h1, lg _ h2⟩
theorem pmul_big {i j : Int} (h1 : i.natAbs.log2 < 2000000) (h2 : j.natAbs.log2 < 2000000) : pmul i j = some (i * j) := by
  unfold pmul
  exact if_pos ⟨h1, h2⟩
theorem pdiv_ok {i j : Int} (h1 : 0 < j) (h2 : j < 2 ^ 250) : pdiv i j = some (i / j) := by
  unfold pdiv
  exact if_pos ⟨h1, h2⟩
theorem pmod_ok {i j : Int} (h1 : 0 < j) : pmod i j = some (i % j) := by
  unfold pmod
  exact if_pos h1
theorem ppow_ok {i j : Int} (h : 0 ≤ j) (h1 : j ≤ 1000) (h2 : i.natAbs < 2 ^ 64) : ppow i j = some (i ^ j.toNat) := by
  unfold ppow
  exact if_pos ⟨h, h1, h2⟩
theorem rng_ok {a b : Int} (h0 : -16777216 ≤ a) (h1 : a ≤ 16777216) (h2 : -16777216 ≤ b) (h : b ≤ 16777216) (hl : b - a ≤ 16777216 := by omega) : rng a b = some (span a b) := by
  unfold rng
  exact if_pos ⟨by omega, by omega, by omega, by omega, by omega⟩
theorem cat_ok {xs ys : List α} (h : xs.length + ys.length ≤ 16777216) : cat xs ys = some (xs ++ ys) := by
  unfold cat
  exact if_pos h
theorem rep_ok {xs : List α} {n : Int} (h : n ≤ 16777216) (h0 : -16777216 ≤ n) (h2 : xs.length * n.toNat ≤ 16777216) : rep xs n = some (List.replicate n.toNat xs).flatten := by
  unfold rep
  exact if_pos ⟨by omega, by omega, h2⟩
theorem flat_one : ∀ (n : Nat) (x : α), (List.replicate n [x]).flatten = List.replicate n x
  | 0, _ => rfl
  | n + 1, x => by rw [List.replicate_succ, List.flatten_cons, flat_one n x, List.replicate_succ]; rfl
theorem rep_one {x : α} {n : Int} (h : n ≤ 16777216) (h0 : -16777216 ≤ n) : rep [x] n = some (List.replicate n.toNat x) := by
  rw [rep_ok h h0 (by simp; omega), flat_one]
theorem app_ok {xs : List α} {v : α} (h : xs.length < 16777216) : app xs v = some (xs ++ [v]) := by
  unfold app
  exact if_pos h
theorem insI_ok {xs : List α} {n : Int} {v : α} (h : xs.length < 16777216) (h0 : 0 ≤ n) (h1 : n ≤ 16777216) : insI xs n v = some (xs.take n.toNat ++ [v] ++ xs.drop n.toNat) := by
  unfold insI
  exact if_pos ⟨h, h0, by omega⟩
theorem popI_ok {xs : List α} {n : Int} (h : xs.length ≤ 16777216) (h0 : 0 ≤ n) (h1 : n < xs.length) : popI xs n = some (xs[n.toNat]'(by omega), xs.eraseIdx n.toNat) := by
  unfold popI
  rw [if_pos h, ixZ_ok h0 h1, Option.bind_some, List.getElem?_eq_getElem (by omega)]; rfl
theorem popI_neg {xs : List α} {n : Int} (h : xs.length ≤ 16777216) (h0 : n < 0) (h1 : -(xs.length : Int) ≤ n) : popI xs n = some (xs[(n + xs.length).toNat]'(by omega), xs.eraseIdx (n + xs.length).toNat) := by
  unfold popI
  rw [if_pos h, ixZ_neg h0 h1, Option.bind_some, List.getElem?_eq_getElem (by omega)]; rfl
theorem pmin_ok {xs : List Int} (h : xs ≠ []) : ∃ m, pmin xs = some m ∧ m ∈ xs ∧ ∀ x ∈ xs, m ≤ x := by
  unfold pmin
  cases hx : xs.min? with
  | none => exact absurd (List.min?_eq_none_iff.mp hx) h
  | some m => exact ⟨m, rfl, (List.min?_eq_some_iff.mp hx).1, (List.min?_eq_some_iff.mp hx).2⟩
theorem pmax_ok {xs : List Int} (h : xs ≠ []) : ∃ m, pmax xs = some m ∧ m ∈ xs ∧ ∀ x ∈ xs, x ≤ m := by
  unfold pmax
  cases hx : xs.max? with
  | none => exact absurd (List.max?_eq_none_iff.mp hx) h
  | some m => exact ⟨m, rfl, (List.max?_eq_some_iff.mp hx).1, (List.max?_eq_some_iff.mp hx).2⟩
theorem ixOf_ok {xs : List Int} {i : Int} (h : i ∈ xs) : ixOf xs i = some ((xs.idxOf i : Nat) : Int) := by
  unfold ixOf
  exact if_pos h
theorem bd_pos {n d : Nat} {i : Int} (h : 0 ≤ i) : bd n d (some i) = min i.toNat n := by
  unfold bd
  exact if_neg (by omega)
theorem bd_neg {n d : Nat} {i : Int} (h : i < 0) (h1 : -(n : Int) ≤ i) : bd n d (some i) = (i + n).toNat := by
  unfold bd
  dsimp only
  rw [if_pos h, if_neg (by omega)]
theorem sl_hi {xs : List α} {i : Int} (h0 : 0 ≤ i) : sl xs (some i) none = xs.drop i.toNat := by
  unfold sl
  rw [bd_pos h0, show bd xs.length xs.length none = xs.length from rfl]
  by_cases h : i.toNat ≤ xs.length
  · rw [Nat.min_eq_left h, List.take_of_length_le (by rw [List.length_drop]; omega)]
  · rw [Nat.min_eq_right (by omega), List.drop_eq_nil_of_le (as := xs) (i := i.toNat) (by omega), List.drop_length]; simp
theorem sl_lo {xs : List α} {i : Int} (h0 : 0 ≤ i) : sl xs none (some i) = xs.take i.toNat := by
  unfold sl
  rw [bd_pos h0, show bd xs.length 0 none = 0 from rfl, List.drop_zero, Nat.sub_zero]
  by_cases h : i.toNat ≤ xs.length
  · rw [Nat.min_eq_left h]
  · rw [Nat.min_eq_right (by omega), List.take_length, List.take_of_length_le (by omega)]
theorem sl_all {xs : List α} : sl xs none none = xs := by
  unfold sl bd
  simp
theorem sl_mid {xs : List α} {i j : Int} (h0 : 0 ≤ i) (h1 : i ≤ j) : sl xs (some i) (some j) = (xs.drop i.toNat).take (j.toNat - i.toNat) := by
  unfold sl
  rw [bd_pos h0, bd_pos (by omega)]
  by_cases h : i.toNat ≤ xs.length
  · rw [Nat.min_eq_left h]
    by_cases h' : j.toNat ≤ xs.length
    · rw [Nat.min_eq_left h']
    · rw [Nat.min_eq_right (by omega), List.take_of_length_le (by rw [List.length_drop]; omega), List.take_of_length_le (by rw [List.length_drop]; omega)]
  · rw [List.drop_eq_nil_of_le (as := xs) (i := i.toNat) (by omega), List.drop_eq_nil_of_le (as := xs) (i := min i.toNat xs.length) (by omega)]; simp
theorem lcm_ok {xs : List α} {f : α → β} (h : xs.length ≤ 16777216) : lcm xs f = some (xs.map f) := by
  unfold lcm
  exact if_pos h
theorem lcO_map {p : α → Option Bool} {f : α → Option β} {pb : α → Bool} {g : α → β} : ∀ {xs : List α}, (∀ x ∈ xs, p x = some (pb x)) → (∀ x ∈ xs, pb x = true → f x = some (g x)) → lcO p f xs = some ((xs.filter pb).map g)
  | [], _, _ => rfl
  | x :: xs, hp, hf => by
    have ih := lcO_map (xs := xs) (fun y hy => hp y (List.mem_cons_of_mem _ hy)) (fun y hy => hf y (List.mem_cons_of_mem _ hy))
    rw [lcO, hp x (List.mem_cons_self ..), Option.bind_some]
    cases hb : pb x with
    | true => rw [if_pos rfl, hf x (List.mem_cons_self ..) hb, Option.bind_some, ih, List.filter_cons_of_pos hb]; rfl
    | false => rw [if_neg (by decide), ih, List.filter_cons_of_neg (by rw [hb]; decide)]
theorem lcp_ok {xs : List α} {p : α → Option Bool} {f : α → Option β} (pb : α → Bool) (g : α → β) (h : xs.length ≤ 16777216) (hp : ∀ x ∈ xs, p x = some (pb x)) (hf : ∀ x ∈ xs, pb x = true → f x = some (g x)) : lcp xs p f = some ((xs.filter pb).map g) := by
  unfold lcp
  rw [if_pos h, lcO_map hp hf]
theorem lcp_all {xs : List α} {p : α → Option Bool} {f : α → Option β} (g : α → β) (h : xs.length ≤ 16777216) (hp : ∀ x ∈ xs, p x = some true) (hf : ∀ x ∈ xs, f x = some (g x)) : lcp xs p f = some (xs.map g) := by
  rw [lcp_ok (fun _ => true) g h hp (fun x hx _ => hf x hx), List.filter_eq_self.mpr (fun _ _ => rfl)]
@[simp] theorem span_length (a b : Int) : (span a b).length = (b - a).toNat := by unfold span; simp
theorem span_get {a b : Int} {k : Nat} (h : k < (b - a).toNat) : (span a b)[k]? = some (a + (k : Int)) := by
  unfold span
  rw [List.getElem?_map, List.getElem?_range h]; rfl
theorem mem_span {a b x : Int} : x ∈ span a b ↔ a ≤ x ∧ x < b := by
  unfold span
  rw [List.mem_map]
  constructor
  · rintro ⟨i, hi, rfl⟩
    rw [List.mem_range] at hi
    omega
  · rintro ⟨h1, h2⟩
    exact ⟨(x - a).toNat, List.mem_range.mpr (by omega), by omega⟩
theorem span_succ {a b : Int} (h : a ≤ b) : span a (b + 1) = span a b ++ [b] := by
  unfold span
  rw [show (b + 1 - a).toNat = (b - a).toNat + 1 by omega, List.range_succ, List.map_append]
  simp
  omega
theorem span_nil {a b : Int} (h : b ≤ a) : span a b = [] := by
  unfold span
  rw [show (b - a).toNat = 0 by omega]; rfl
theorem span_cons {a b : Int} (h : a < b) : span a b = a :: span (a + 1) b := by
  apply List.ext_getElem?
  intro k
  by_cases hk : k < (b - a).toNat
  · rw [span_get hk]
    cases k with
    | zero => simp
    | succ k =>
      rw [List.getElem?_cons_succ, span_get (by omega)]
      congr 1
      omega
  · rw [List.getElem?_eq_none (by rw [span_length]; omega), List.getElem?_eq_none (by rw [List.length_cons, span_length]; omega)]
@[simp] theorem enu_length : ∀ (i : Nat) (xs : List α), (enu i xs).length = xs.length
  | _, [] => rfl
  | i, x :: xs => by rw [enu, List.length_cons, enu_length, List.length_cons]
theorem enu_get : ∀ (i : Nat) (xs : List α) (k : Nat), (enu i xs)[k]? = (xs[k]?).map fun x => (((i + k : Nat) : Int), x)
  | _, [], k => by simp [enu]
  | i, x :: xs, 0 => by simp [enu]
  | i, x :: xs, k + 1 => by
    rw [enu, List.getElem?_cons_succ, enu_get (i + 1) xs k, List.getElem?_cons_succ, show i + 1 + k = i + (k + 1) by omega]

/-! ### loops -/
theorem forO_go {f : σ → α → Option σ} (I : List α → σ → Prop) (xs : List α) : ∀ (post pre : List α) (s : σ), xs = pre ++ post → I pre s → (∀ pre x post s, xs = pre ++ x :: post → I pre s → Ok (f s x) (I (pre ++ [x]))) → Ok (forO post s f) (I xs)
  | [], pre, s, e, h, _ => ⟨s, rfl, by rw [e, List.append_nil]; exact h⟩
  | x :: post, pre, s, e, h, k => by
    rw [forO]
    exact (k pre x post s e h).bind fun s' h' => forO_go I xs post (pre ++ [x]) s' (by rw [e]; simp) h' k
/-- a loop, by what holds of the part that is done -/
theorem forO_ok {f : σ → α → Option σ} {xs : List α} {s : σ} (I : List α → σ → Prop) (h : I [] s) (k : ∀ pre x post s, xs = pre ++ x :: post → I pre s → Ok (f s x) (I (pre ++ [x]))) : Ok (forO xs s f) (I xs) := forO_go I xs xs [] s rfl h k
/-- a loop, by how many turns are done -/
theorem forO_at {f : σ → α → Option σ} {xs : List α} {s : σ} (I : Nat → σ → Prop) (h : I 0 s) (k : ∀ i s (hi : i < xs.length), I i s → Ok (f s xs[i]) (I (i + 1))) : Ok (forO xs s f) (I xs.length) := by
  refine forO_ok (fun pre s => I pre.length s) h fun pre x post s e hI => ?_
  have hi : pre.length < xs.length := by rw [e]; simp
  have hx : xs[pre.length] = x := by simp [e]
  have := k pre.length s hi hI
  rw [hx] at this
  exact this.mono fun a q => by rw [List.length_append]; exact q
/-- a loop over whole numbers -/
theorem forO_span {f : σ → Int → Option σ} {a b : Int} {s : σ} (I : Int → σ → Prop) (hab : a ≤ b) (h : I a s) (k : ∀ i s, a ≤ i → i < b → I i s → Ok (f s i) (I (i + 1))) : Ok (forO (span a b) s f) (I b) := by
  have := forO_at (f := f) (xs := span a b) (s := s) (fun n s => I (a + n) s) (by simpa using h) (fun i s hi hI => by
    have hi' : i < (b - a).toNat := by simpa using hi
    have e : (span a b)[i] = a + (i : Int) := by
      have := span_get hi'
      rw [List.getElem?_eq_getElem hi] at this
      exact Option.some.inj this
    rw [e]
    have := k (a + i) s (by omega) (by omega) hI
    exact this.mono fun _ q => by rw [show a + ((i + 1 : Nat) : Int) = a + i + 1 by omega]; exact q)
  rw [span_length] at this
  exact this.mono fun _ q => by rw [show a + (((b - a).toNat : Nat) : Int) = b by omega] at q; exact q
theorem forO_foldl {f : σ → α → Option σ} {g : σ → α → σ} : ∀ {xs : List α} {s : σ}, (∀ s, ∀ x ∈ xs, f s x = some (g s x)) → forO xs s f = some (xs.foldl g s)
  | [], s, _ => rfl
  | x :: xs, s, h => by
    rw [forO, h s x (List.mem_cons_self ..), Option.bind_some, forO_foldl fun s y hy => h s y (List.mem_cons_of_mem _ hy)]; rfl
theorem forO_append {f : σ → α → Option σ} : ∀ {xs ys : List α} {s : σ}, forO (xs ++ ys) s f = (forO xs s f).bind fun s' => forO ys s' f
  | [], ys, s => rfl
  | x :: xs, ys, s => by
    rw [List.cons_append, forO, forO, Option.bind_assoc]
    congr 1
    funext s'
    exact forO_append
theorem forO_map {f : σ → β → Option σ} {g : α → β} : ∀ {xs : List α} {s : σ}, forO (xs.map g) s f = forO xs s fun s x => f s (g x)
  | [], s => rfl
  | x :: xs, s => by
    rw [List.map_cons, forO, forO]
    congr 1
    funext s'
    exact forO_map
theorem forR_go {f : σ → α → Option (Lp σ ρ)} (I : List α → σ → Prop) (B : σ → Prop) (R : ρ → Prop) (xs : List α) : ∀ (post pre : List α) (s : σ), xs = pre ++ post → I pre s →
    (∀ pre x post s, xs = pre ++ x :: post → I pre s → Ok (f s x) fun r => match r with | .go s' => I (pre ++ [x]) s' | .br s' => B s' | .rt v => R v) → Ok (forR post s f) fun r => match r with | .go s' => I xs s' ∨ B s' | .br s' => False | .rt v => R v
  | [], pre, s, e, h, _ => ⟨_, rfl, .inl (by rw [e, List.append_nil]; exact h)⟩
  | x :: post, pre, s, e, h, k => by
    rw [forR]
    refine (k pre x post s e h).bind fun r hr => ?_
    cases r with
    | go s' => exact forR_go I B R xs post (pre ++ [x]) s' (by rw [e]; simp) hr k
    | br s' => exact ⟨_, rfl, .inr hr⟩
    | rt v => exact ⟨_, rfl, hr⟩
theorem forR_ok {f : σ → α → Option (Lp σ ρ)} {xs : List α} {s : σ} (I : List α → σ → Prop) (B : σ → Prop) (R : ρ → Prop) (h : I [] s)
    (k : ∀ pre x post s, xs = pre ++ x :: post → I pre s → Ok (f s x) fun r => match r with | .go s' => I (pre ++ [x]) s' | .br s' => B s' | .rt v => R v) : Ok (forR xs s f) fun r => match r with | .go s' => I xs s' ∨ B s' | .br s' => False | .rt v => R v := forR_go I B R xs xs [] s rfl h k
/-- a loop with an early end, then what follows: no break -/
theorem aft_for {f : σ → α → Option (Lp σ ρ)} {xs : List α} {s : σ} {p : σ → Option γ} {q : ρ → Option γ} {Q : γ → Prop} (I : List α → σ → Prop) (R : ρ → Prop) (h : I [] s)
    (k : ∀ pre x post s, xs = pre ++ x :: post → I pre s → Ok (f s x) fun r => match r with | .go s' => I (pre ++ [x]) s' | .br s' => False | .rt v => R v) (h1 : ∀ s, I xs s → Ok (p s) Q) (h2 : ∀ v, R v → Ok (q v) Q) : Ok (aft (forR xs s f) p q) Q := by
  unfold aft
  refine (forR_ok I (fun _ => False) R h k).bind fun r hr => ?_
  cases r with
  | go s' => exact h1 s' (hr.elim id False.elim)
  | br s' => exact hr.elim
  | rt v => exact h2 v hr
theorem whO_ok {c : σ → Option Bool} {f : σ → Option σ} (I : σ → Prop) (μ : σ → Nat) (J : σ → Prop) (k : ∀ s, I s → (c s = some true ∧ Ok (f s) fun s' => I s' ∧ μ s' < μ s) ∨ (c s = some false ∧ J s)) : ∀ (n : Nat) (s : σ), I s → μ s < n → Ok (whO n s c f) J
  | 0, s, _, h => absurd h (Nat.not_lt_zero _)
  | n + 1, s, hI, hn => by
    rw [whO]
    rcases k s hI with ⟨h1, h2⟩ | ⟨h1, h2⟩
    · rw [h1, Option.bind_some, if_pos rfl]
      exact h2.bind fun s' h' => whO_ok I μ J k n s' h'.1 (by omega)
    · rw [h1, Option.bind_some, if_neg (by decide)]
      exact ⟨s, rfl, h2⟩
theorem whR_ok {c : σ → Option Bool} {f : σ → Option (Lp σ ρ)} (I : σ → Prop) (μ : σ → Nat) (J : σ → Prop) (R : ρ → Prop) (k : ∀ s, I s → (c s = some true ∧ Ok (f s) fun r => match r with | .go s' => I s' ∧ μ s' < μ s | .br s' => J s' | .rt v => R v) ∨ (c s = some false ∧ J s)) : ∀ (n : Nat) (s : σ), I s → μ s < n → Ok (whR n s c f) fun r => match r with | .go s' => J s' | .br s' => False | .rt v => R v
  | 0, s, _, h => absurd h (Nat.not_lt_zero _)
  | n + 1, s, hI, hn => by
    rw [whR]
    rcases k s hI with ⟨h1, h2⟩ | ⟨h1, h2⟩
    · rw [h1, Option.bind_some, if_pos rfl]
      refine h2.bind fun r hr => ?_
      cases r with
      | go s' => exact whR_ok I μ J R k n s' hr.1 (by omega)
      | br s' => exact ⟨_, rfl, hr⟩
      | rt v => exact ⟨_, rfl, hr⟩
    · rw [h1, Option.bind_some, if_neg (by decide)]
      exact ⟨_, rfl, h2⟩
/-! ### dicts: pairs in the order of their making -/
section
variable {κ ν : Type} [DecidableEq κ]
def dhas (m : List (κ × ν)) (k : κ) : Bool := m.any fun e => decide (e.1 = k)
def dget (m : List (κ × ν)) (k : κ) : Option ν := (m.find? fun e => decide (e.1 = k)).map fun e => e.2
def dput (m : List (κ × ν)) (k : κ) (v : ν) : List (κ × ν) := if dhas m k = true then m.map fun e => if e.1 = k then (e.1, v) else e else m ++ [(k, v)]
def ddel (m : List (κ × ν)) (k : κ) : List (κ × ν) := m.filter fun e => decide (e.1 ≠ k)
@[irreducible] def dputO (m : List (κ × ν)) (k : κ) (v : ν) : Option (List (κ × ν)) := if m.length < 16777216 then some (dput m k v) else none
@[irreducible] def ddelO (m : List (κ × ν)) (k : κ) : Option (List (κ × ν)) := if dhas m k = true then some (ddel m k) else none
theorem dhas_get (m : List (κ × ν)) (k : κ) : dhas m k = (dget m k).isSome := by
  unfold dhas dget
  rw [Option.isSome_map]
  induction m with
  | nil => rfl
  | cons e r ih =>
    rw [List.any_cons, List.find?_cons]
    cases h : decide (e.1 = k) with
    | true => rfl
    | false => rw [Bool.false_or, ih]
theorem dhas_iff {m : List (κ × ν)} {k : κ} : dhas m k = true ↔ k ∈ m.map (·.1) := by
  unfold dhas
  rw [List.any_eq_true, List.mem_map]
  constructor
  · rintro ⟨e, h1, h2⟩
    exact ⟨e, h1, of_decide_eq_true h2⟩
  · rintro ⟨e, h1, h2⟩
    exact ⟨e, h1, decide_eq_true h2⟩
theorem dget_map {κ' ν' : Type} [DecidableEq κ'] {f : κ → κ'} {g : ν → ν'} (hf : ∀ a b, f a = f b → a = b) (m : List (κ × ν)) (k : κ) : dget (m.map fun e => (f e.1, g e.2)) (f k) = (dget m k).map g := by
  unfold dget
  induction m with
  | nil => rfl
  | cons e r ih =>
    rw [List.map_cons, List.find?_cons, List.find?_cons]
    by_cases h : e.1 = k
    · rw [decide_eq_true h, decide_eq_true (by rw [h])]; rfl
    · rw [decide_eq_false h, decide_eq_false (fun z => h (hf _ _ z))]; exact ih
@[simp] theorem dhas_nil {k : κ} : dhas ([] : List (κ × ν)) k = false := rfl
@[simp] theorem dget_nil {k : κ} : dget ([] : List (κ × ν)) k = none := rfl
theorem dget_put {m : List (κ × ν)} {k j : κ} {v : ν} : dget (dput m k v) j = if j = k then some v else dget m j := by
  unfold dput
  by_cases h : dhas m k = true
  · rw [if_pos h]
    have key : ∀ m : List (κ × ν), dget (m.map fun e => if e.1 = k then (e.1, v) else e) j = if j = k then (dget m j).map fun _ => v else dget m j := fun m => by
      induction m with
      | nil => simp [dget]
      | cons e r ih =>
        unfold dget at ih ⊢
        rw [List.map_cons, List.find?_cons, List.find?_cons]
        by_cases h1 : e.1 = k
        · by_cases h2 : k = j
          · subst h2
            simp [h1]
          · have h3 : ¬ j = k := fun z => h2 z.symm
            simp only [h1, if_pos, h2, decide_false, if_neg h3] at ih ⊢
            exact ih
        · rw [if_neg h1]
          by_cases h2 : e.1 = j
          · have h3 : ¬ j = k := fun z => h1 (h2.trans z)
            simp [h2, h3]
          · simp only [h2, decide_false]
            exact ih
    rw [key]
    by_cases h1 : j = k
    · subst h1
      rw [if_pos rfl, if_pos rfl]
      rw [dhas_get] at h
      cases hg : dget m j with
      | none => rw [hg] at h; cases h
      | some z => rfl
    · rw [if_neg h1, if_neg h1]
  · rw [if_neg h]
    have hn : dget m k = none := by
      rw [dhas_get] at h
      cases hg : dget m k with
      | none => rfl
      | some z => rw [hg] at h; exact absurd rfl h
    unfold dget at hn ⊢
    rw [List.find?_append]
    by_cases h1 : j = k
    · subst h1
      rw [if_pos rfl]
      cases hg : m.find? fun e => decide (e.1 = j) with
      | none => simp
      | some z => rw [hg] at hn; cases hn
    · rw [if_neg h1]
      cases hg : m.find? fun e => decide (e.1 = j) with
      | none => simp [show ¬ k = j from fun z => h1 z.symm]
      | some z => rfl
theorem dhas_put {m : List (κ × ν)} {k j : κ} {v : ν} : dhas (dput m k v) j = (decide (j = k) || dhas m j) := by
  rw [dhas_get, dget_put, dhas_get]
  by_cases h : j = k <;> simp [h]
theorem dput_keys {m : List (κ × ν)} {k : κ} {v : ν} : (dput m k v).map (·.1) = if k ∈ m.map (·.1) then m.map (·.1) else m.map (·.1) ++ [k] := by
  unfold dput
  by_cases h : dhas m k = true
  · rw [if_pos h, if_pos (dhas_iff.mp h), List.map_map]
    apply List.map_congr_left
    intro e _
    show (if e.1 = k then (e.1, v) else e).1 = e.1
    split <;> rfl
  · rw [if_neg h, if_neg (fun z => h (dhas_iff.mpr z)), List.map_append]; rfl
theorem dput_length_le {m : List (κ × ν)} {k : κ} {v : ν} : (dput m k v).length ≤ m.length + 1 := by
  unfold dput
  split <;> simp
theorem dput_new {m : List (κ × ν)} {k : κ} {v : ν} (h : dhas m k = false) : dput m k v = m ++ [(k, v)] := by
  unfold dput
  rw [if_neg (by rw [h]; decide)]
theorem dputO_ok {m : List (κ × ν)} {k : κ} {v : ν} (h : m.length < 16777216) : dputO m k v = some (dput m k v) := by
  unfold dputO
  exact if_pos h
theorem ddelO_ok {m : List (κ × ν)} {k : κ} (h : dhas m k = true) : ddelO m k = some (ddel m k) := by
  unfold ddelO
  exact if_pos h
theorem dget_del {m : List (κ × ν)} {k j : κ} : dget (ddel m k) j = if j = k then none else dget m j := by
  unfold dget ddel
  induction m with
  | nil => simp
  | cons e r ih =>
    rw [List.filter_cons, List.find?_cons]
    by_cases h1 : e.1 = k
    · rw [if_neg (by simp [h1]), ih]
      by_cases h2 : j = k
      · simp [h2]
      · simp [h2, h1, show ¬ k = j from fun z => h2 z.symm]
    · rw [if_pos (by simp [h1]), List.find?_cons]
      by_cases h2 : e.1 = j
      · have h3 : ¬ j = k := fun z => h1 (h2.trans z)
        simp [h2, h3]
      · simp only [h2, decide_false]
        exact ih
theorem dhas_del {m : List (κ × ν)} {k j : κ} : dhas (ddel m k) j = (decide (j ≠ k) && dhas m j) := by
  rw [dhas_get, dget_del, dhas_get]
  by_cases h : j = k <;> simp [h]
def dcO (p : α → Option Bool) (f : α → Option (κ × ν)) : List α → List (κ × ν) → Option (List (κ × ν))
  | [], m => some m
  | x :: xs, m => (p x).bind fun b => if b = true then (f x).bind fun e => dcO p f xs (dput m e.1 e.2) else dcO p f xs m
@[irreducible] def dcp (xs : List α) (p : α → Option Bool) (f : α → Option (κ × ν)) : Option (List (κ × ν)) := if xs.length ≤ 16777216 then dcO p f xs [] else none
end
/-! ### a loop that changes what it goes over -/
def forW : List α → σ → (σ → α → Option (σ × α)) → Option (σ × List α)
  | [], s, _ => some (s, [])
  | x :: xs, s, f => (f s x).bind fun r => (forW xs r.1 f).bind fun q => some (q.1, r.2 :: q.2)
theorem forW_map {f : σ → α → Option (σ × α)} {g : α → α} : ∀ {xs : List α} {s : σ}, (∀ s, ∀ x ∈ xs, f s x = some (s, g x)) → forW xs s f = some (s, xs.map g)
  | [], s, _ => rfl
  | x :: xs, s, h => by
    rw [forW, h s x (List.mem_cons_self ..), Option.bind_some, forW_map (fun s y hy => h s y (List.mem_cons_of_mem _ hy))]; rfl
/-! ### more steps -/
section
variable {α β : Type}
def bdS (n : Nat) (st d : Int) : Option Int → Int
  | none => d
  | some i => if 0 < st then max 0 (min (if i < 0 then i + n else i) n) else max (-1) (min (if i < 0 then i + n else i) ((n : Int) - 1))
def stepsOf (n : Nat) (lo hi : Option Int) (st : Int) : List Nat :=
  (List.range (if 0 < st then (if bdS n st 0 lo < bdS n st n hi then (bdS n st n hi - bdS n st 0 lo + st - 1) / st else 0) else (if bdS n st (-1) hi < bdS n st ((n : Int) - 1) lo then (bdS n st ((n : Int) - 1) lo - bdS n st (-1) hi - st - 1) / (-st) else 0)).toNat).map
    fun (k : Nat) => ((if 0 < st then bdS n st 0 lo else bdS n st ((n : Int) - 1) lo) + st * (k : Int)).toNat
@[irreducible] def slS (xs : List α) (lo hi : Option Int) (st : Int) : Option (List α) := if st = 0 then none else some ((stepsOf xs.length lo hi st).filterMap fun i => xs[i]?)
theorem filterMap_at {xs : List α} {l : List Nat} (h : ∀ i ∈ l, i < xs.length) : (l.filterMap fun i => xs[i]?).length = l.length := by
  induction l with
  | nil => rfl
  | cons i l ih =>
    rw [List.filterMap_cons, List.getElem?_eq_getElem (h i (List.mem_cons_self ..)), List.length_cons, List.length_cons, ih fun j hj => h j (List.mem_cons_of_mem _ hj)]
theorem slS_rev {xs : List α} : slS xs none none (-1) = some xs.reverse := by
  unfold slS
  rw [if_neg (by decide)]
  congr 1
  have e : stepsOf xs.length none none (-1) = (List.range xs.length).map fun k => xs.length - 1 - k := by
    unfold stepsOf bdS
    simp only [show ¬ (0 : Int) < -1 by decide, if_false]
    have h1 : (if (-1 : Int) < (xs.length : Int) - 1 then ((xs.length : Int) - 1 - -1 - -1 - 1) / - -1 else 0).toNat = xs.length := by
      split
      · rw [show (- -1 : Int) = 1 by decide, Int.ediv_one]; omega
      · omega
    rw [h1]
    apply List.map_congr_left
    intro k hk
    rw [List.mem_range] at hk
    omega
  rw [e, List.filterMap_map]
  apply List.ext_getElem?
  intro i
  have hl : ((List.range xs.length).filterMap ((fun i => xs[i]?) ∘ fun k => xs.length - 1 - k)) = (List.range xs.length).filterMap fun k => xs.reverse[k]? := by
    have q : ∀ l : List Nat, (∀ k ∈ l, k < xs.length) → l.filterMap ((fun i => xs[i]?) ∘ fun k => xs.length - 1 - k) = l.filterMap fun k => xs.reverse[k]? := by
      intro l hl
      induction l with
      | nil => rfl
      | cons k l ih =>
        rw [List.filterMap_cons, List.filterMap_cons, ih fun j hj => hl j (List.mem_cons_of_mem _ hj)]
        have hk := hl k (List.mem_cons_self ..)
        show (match xs[xs.length - 1 - k]? with | none => _ | some b => _) = _
        rw [List.getElem?_reverse hk]
        cases xs[xs.length - 1 - k]? <;> rfl
    exact q _ fun k hk => List.mem_range.mp hk
  rw [hl]
  have : (List.range xs.length).filterMap (fun k => xs.reverse[k]?) = xs.reverse := by
    have q : ∀ ys : List α, (List.range ys.length).filterMap (fun k => ys[k]?) = ys := by
      intro ys
      induction ys with
      | nil => rfl
      | cons y ys ih =>
        rw [List.length_cons, List.range_succ_eq_map, List.filterMap_cons]
        simp only [List.getElem?_cons_zero]
        rw [List.filterMap_map]
        congr 1
    have := q xs.reverse
    rw [List.length_reverse] at this
    exact this
  rw [this]
theorem slS_mem {xs ys : List α} {lo hi : Option Int} {st : Int} (h : slS xs lo hi st = some ys) {y : α} (hy : y ∈ ys) : y ∈ xs := by
  unfold slS at h
  split at h
  · cases h
  · cases h
    obtain ⟨i, _, h⟩ := List.mem_filterMap.mp hy
    exact List.mem_of_getElem? h
@[irreducible] def extO (xs ys : List α) : Option (List α) := if xs.length + ys.length < 16777216 then some (xs ++ ys) else none
theorem extO_ok {xs ys : List α} (h : xs.length + ys.length < 16777216) : extO xs ys = some (xs ++ ys) := by
  unfold extO
  exact if_pos h
@[irreducible] def popL (xs : List α) : Option (α × List α) := (xs[xs.length - 1]?).map fun z => (z, xs.dropLast)
theorem popL_ok {xs : List α} (h : xs ≠ []) : popL xs = some (xs.getLast h, xs.dropLast) := by
  unfold popL
  have hl : 0 < xs.length := List.length_pos_iff.mpr h
  rw [List.getElem?_eq_getElem (by omega), List.getLast_eq_getElem]; rfl
def un2 : List α → Option (α × α)
  | [a, b] => some (a, b)
  | _ => none
def un3 : List α → Option (α × α × α)
  | [a, b, c] => some (a, b, c)
  | _ => none
def un4 : List α → Option (α × α × α × α)
  | [a, b, c, d] => some (a, b, c, d)
  | _ => none
def un5 : List α → Option (α × α × α × α × α)
  | [a, b, c, d, e] => some (a, b, c, d, e)
  | _ => none
def un6 : List α → Option (α × α × α × α × α × α)
  | [a, b, c, d, e, f] => some (a, b, c, d, e, f)
  | _ => none
end
/-! ### sorted whole numbers -/
def srt (ns : List Int) : List Int := ns.mergeSort fun a b => decide (a ≤ b)
theorem srt_perm (ns : List Int) : (srt ns).Perm ns := List.mergeSort_perm ..
theorem srt_rise (ns : List Int) : (srt ns).Pairwise (· ≤ ·) := by
  have := List.pairwise_mergeSort (le := fun a b : Int => decide (a ≤ b)) (fun a b c h1 h2 => by simp at *; omega) (fun a b => by simp; omega) ns
  exact this.imp (fun h => by simpa using h)
theorem srt_eq {ns ms : List Int} (h : ms.Perm ns) (h2 : ms.Pairwise (· ≤ ·)) : ms = srt ns := List.Perm.eq_of_pairwise (le := (· ≤ ·)) (fun a b _ _ h1 h2 => by omega) h2 (srt_rise ns) (h.trans (srt_perm ns).symm)
theorem srt_of_perm {ns ms : List Int} (h : ms.Perm ns) : srt ms = srt ns := srt_eq ((srt_perm ms).trans h) (srt_rise ms)
theorem srt_length (ns : List Int) : (srt ns).length = ns.length := (srt_perm ns).length_eq
theorem mem_srt {ns : List Int} {x : Int} : x ∈ srt ns ↔ x ∈ ns := (srt_perm ns).mem_iff
@[irreducible] def bitX (i j : Int) : Int := if j = 1 then i + 1 - 2 * (i % 2) else 0
theorem bitX_one (i : Int) : bitX i 1 = i + 1 - 2 * (i % 2) := by
  unfold bitX
  exact if_pos rfl
end Ty

namespace Ow
open PySem L2 Ty

/-! ### how typed things are laid as data -/
section
variable {α β γ δ : Type}
def cI (x : Int) : D := .s (.int x)
def cB (x : Bool) : D := .s (.bl x)
def cU (_ : Unit) : D := .s .non
def cL (o : Fl) (c : α → D) (xs : List α) : D := .n (.lst o) (xs.map c)
def k1 (c : α → D) (x : α) : List D := [c x]
def k2 (c : α → D) (k : β → List D) (x : α × β) : List D := c x.1 :: k x.2
/-- a tuple -/
def cT (k : α → List D) (x : α) : D := .n .tup (k x)
/-- a list of parts of unlike kinds -/
def cR (o : Fl) (k : α → List D) (x : α) : D := .n (.lst o) (k x)
def cO (c : α → D) : Option α → D
  | none => .s .non
  | some x => c x
class Pu (c : α → D) : Prop where
  pu : ∀ x, (c x).pure = true
class PuK (k : α → List D) : Prop where
  pu : ∀ x, pureL (k x) = true
class NoF (c : α → D) : Prop where
  no : ∀ x, (c x).noF = true
class NoFK (k : α → List D) : Prop where
  no : ∀ x, noFL (k x) = true
class Fz (c : α → D) (c' : outParam (α → D)) : Prop where
  fz : ∀ x, (c x).frz = c' x
class FzK (k : α → List D) (k' : outParam (α → List D)) : Prop where
  fz : ∀ x, frzD (k x) = k' x
instance : Pu cI := ⟨fun _ => rfl⟩
instance : Pu cB := ⟨fun _ => rfl⟩
instance : Pu cU := ⟨fun _ => rfl⟩
theorem pureL_cod {c : α → D} [Pu c] : ∀ xs : List α, pureL (xs.map c) = true
  | [] => rfl
  | x :: xs => by rw [List.map_cons, pureL, Pu.pu, pureL_cod xs]; rfl
instance {c : α → D} [Pu c] : Pu (cL .s c) := ⟨fun xs => by rw [cL, D.pure, pureL_cod]; rfl⟩
instance {c : α → D} [Pu c] : Pu (cL .w c) := ⟨fun xs => by rw [cL, D.pure, pureL_cod]; rfl⟩
instance {c : α → D} [Pu c] : PuK (k1 c) := ⟨fun x => by rw [k1, pureL, Pu.pu]; rfl⟩
instance {c : α → D} {k : β → List D} [Pu c] [PuK k] : PuK (k2 c k) := ⟨fun x => by rw [k2, pureL, Pu.pu, PuK.pu]; rfl⟩
instance {k : α → List D} [PuK k] : Pu (cT k) := ⟨fun x => by rw [cT, D.pure, PuK.pu]; rfl⟩
instance {k : α → List D} [PuK k] : Pu (cR .s k) := ⟨fun x => by rw [cR, D.pure, PuK.pu]; rfl⟩
instance {c : α → D} [Pu c] : Pu (cO c) := ⟨fun x => by cases x <;> first | rfl | exact Pu.pu (c := c) _⟩
instance : NoF cI := ⟨fun _ => rfl⟩
instance : NoF cB := ⟨fun _ => rfl⟩
instance : NoF cU := ⟨fun _ => rfl⟩
theorem noFL_cod {c : α → D} [NoF c] : ∀ xs : List α, noFL (xs.map c) = true
  | [] => rfl
  | x :: xs => by rw [List.map_cons, noFL, NoF.no, noFL_cod xs]; rfl
instance {c : α → D} [NoF c] : NoF (cL .o c) := ⟨fun xs => by rw [cL, D.noF, noFL_cod]; rfl⟩
instance {c : α → D} [NoF c] : NoFK (k1 c) := ⟨fun x => by rw [k1, noFL, NoF.no]; rfl⟩
instance {c : α → D} {k : β → List D} [NoF c] [NoFK k] : NoFK (k2 c k) := ⟨fun x => by rw [k2, noFL, NoF.no, NoFK.no]; rfl⟩
instance {k : α → List D} [NoFK k] : NoF (cT k) := ⟨fun x => by rw [cT, D.noF, NoFK.no]; rfl⟩
instance {k : α → List D} [NoFK k] : NoF (cR .o k) := ⟨fun x => by rw [cR, D.noF, NoFK.no]; rfl⟩
instance {c : α → D} [NoF c] : NoF (cO c) := ⟨fun x => by cases x <;> first | rfl | exact NoF.no (c := c) _⟩
instance : Fz cI cI := ⟨fun _ => rfl⟩
instance : Fz cB cB := ⟨fun _ => rfl⟩
instance : Fz cU cU := ⟨fun _ => rfl⟩
theorem frzL_cod {c c' : α → D} [Fz c c'] : ∀ xs : List α, frzD (xs.map c) = xs.map c'
  | [] => rfl
  | x :: xs => by rw [List.map_cons, frzD, Fz.fz, frzL_cod xs]; rfl
instance {c c' : α → D} [Fz c c'] : Fz (cL .o c) (cL .s c') := ⟨fun xs => by rw [cL, D.frz, frzL_cod]; rfl⟩
instance {c c' : α → D} [Fz c c'] : Fz (cL .s c) (cL .s c') := ⟨fun xs => by rw [cL, D.frz, frzL_cod]; rfl⟩
instance {c c' : α → D} [Fz c c'] : Fz (cL .w c) (cL .w c') := ⟨fun xs => by rw [cL, D.frz, frzL_cod]; rfl⟩
instance {c c' : α → D} [Fz c c'] : FzK (k1 c) (k1 c') := ⟨fun x => by rw [k1, frzD, Fz.fz]; rfl⟩
instance {c c' : α → D} {k k' : β → List D} [Fz c c'] [FzK k k'] : FzK (k2 c k) (k2 c' k') := ⟨fun x => by rw [k2, frzD, Fz.fz, FzK.fz]; rfl⟩
instance {k k' : α → List D} [FzK k k'] : Fz (cT k) (cT k') := ⟨fun x => by rw [cT, D.frz, FzK.fz]; rfl⟩
instance {k k' : α → List D} [FzK k k'] : Fz (cR .o k) (cR .s k') := ⟨fun x => by rw [cR, D.frz, FzK.fz]; rfl⟩
instance {k k' : α → List D} [FzK k k'] : Fz (cR .s k) (cR .s k') := ⟨fun x => by rw [cR, D.frz, FzK.fz]; rfl⟩
instance {c c' : α → D} [Fz c c'] : Fz (cO c) (cO c') := ⟨fun x => by cases x <;> first | rfl | exact Fz.fz (c := c) _⟩

/-! ### what may be compared -/
def pI (x : Int) : PyData := .int x
def pB (x : Bool) : PyData := .bool x
def pL (p : α → PyData) (xs : List α) : PyData := .list (xs.map p)
def q1 (p : α → PyData) (x : α) : List PyData := [p x]
def q2 (p : α → PyData) (q : β → List PyData) (x : α × β) : List PyData := p x.1 :: q x.2
def pT (q : α → List PyData) (x : α) : PyData := .tuple (q x)
def pR (q : α → List PyData) (x : α) : PyData := .list (q x)
class Pd (p : α → PyData) where
  dep : Nat
  can : ∀ x, (p x).canLay0 = true
  deep : ∀ x, (p x).depth ≤ dep
  inj : ∀ x y, PyData.eqv (p x) (p y) = true ↔ x = y
class PdK (q : α → List PyData) where
  dep : Nat
  can : ∀ x, PyData.canLayAll0 (q x) = true
  deep : ∀ x, PyData.depthAll (q x) ≤ dep
  inj : ∀ x y, PyData.eqvAll (q x) (q y) = true ↔ x = y
instance : Pd pI := ⟨0, fun _ => rfl, fun _ => Nat.le_refl _, fun x y => by simp [pI, PyData.eqv]⟩
instance : Pd pB := ⟨0, fun _ => rfl, fun _ => Nat.le_refl _, fun x y => by simp [pB, PyData.eqv]⟩
theorem canL_cod {p : α → PyData} [Pd p] : ∀ xs : List α, PyData.canLayAll0 (xs.map p) = true
  | [] => rfl
  | x :: xs => by rw [List.map_cons, PyData.canLayAll0, Pd.can, canL_cod xs]; rfl
theorem deepL_cod {p : α → PyData} [Pd p] : ∀ xs : List α, PyData.depthAll (xs.map p) ≤ Pd.dep p
  | [] => by simp [PyData.depthAll]
  | x :: xs => by
    rw [List.map_cons, PyData.depthAll]
    have := Pd.deep (p := p) x
    have := deepL_cod (p := p) xs
    omega
theorem injL_cod {p : α → PyData} [Pd p] : ∀ xs ys : List α, PyData.eqvAll (xs.map p) (ys.map p) = true ↔ xs = ys
  | [], [] => by simp [PyData.eqvAll]
  | [], y :: ys => by simp [PyData.eqvAll]
  | x :: xs, [] => by simp [PyData.eqvAll]
  | x :: xs, y :: ys => by
    rw [List.map_cons, List.map_cons, PyData.eqvAll, Bool.and_eq_true, Pd.inj, injL_cod xs ys, List.cons.injEq]
instance {p : α → PyData} [Pd p] : Pd (pL p) := ⟨Pd.dep p + 1, fun xs => by rw [pL, PyData.canLay0, canL_cod], fun xs => by rw [pL, PyData.depth]; exact Nat.add_le_add_right (deepL_cod xs) 1, fun xs ys => by rw [pL, pL, PyData.eqv, injL_cod]⟩
instance {p : α → PyData} [Pd p] : PdK (q1 p) := ⟨Pd.dep p, fun x => by simp [q1, PyData.canLayAll0, Pd.can], fun x => by simp [q1, PyData.depthAll]; exact Pd.deep x, fun x y => by simp [q1, PyData.eqvAll, Pd.inj]⟩
instance {p : α → PyData} {q : β → List PyData} [Pd p] [PdK q] : PdK (q2 p q) := ⟨max (Pd.dep p) (PdK.dep q), fun x => by simp [q2, PyData.canLayAll0, Pd.can, PdK.can], fun x => by
    rw [q2, PyData.depthAll]
    have := Pd.deep (p := p) x.1
    have := PdK.deep (q := q) x.2
    omega, fun x y => by
    rw [q2, q2, PyData.eqvAll, Bool.and_eq_true, Pd.inj, PdK.inj]
    exact Prod.ext_iff.symm⟩
instance {q : α → List PyData} [PdK q] : Pd (pT q) := ⟨PdK.dep q + 1, fun x => by rw [pT, PyData.canLay0, PdK.can], fun x => by rw [pT, PyData.depth]; exact Nat.add_le_add_right (PdK.deep x) 1, fun x y => by rw [pT, pT, PyData.eqv, PdK.inj]⟩
instance {q : α → List PyData} [PdK q] : Pd (pR q) := ⟨PdK.dep q + 1, fun x => by rw [pR, PyData.canLay0, PdK.can], fun x => by rw [pR, PyData.depth]; exact Nat.add_le_add_right (PdK.deep x) 1, fun x y => by rw [pR, pR, PyData.eqv, PdK.inj]⟩
class Dt (c : α → D) (p : outParam (α → PyData)) : Prop where
  dt : ∀ x, (c x).dat = some (p x)
class DtK (k : α → List D) (q : outParam (α → List PyData)) : Prop where
  dt : ∀ x, datL (k x) = some (q x)
instance : Dt cI pI := ⟨fun _ => rfl⟩
instance : Dt cB pB := ⟨fun _ => rfl⟩
theorem datL_cod {c : α → D} {p : α → PyData} [Dt c p] : ∀ xs : List α, datL (xs.map c) = some (xs.map p)
  | [] => rfl
  | x :: xs => by rw [List.map_cons, datL, Dt.dt, Option.bind_some, datL_cod xs]; rfl
instance {o : Fl} {c : α → D} {p : α → PyData} [Dt c p] : Dt (cL o c) (pL p) := ⟨fun xs => by rw [cL, D.dat, datL_cod]; rfl⟩
instance {c : α → D} {p : α → PyData} [Dt c p] : DtK (k1 c) (q1 p) := ⟨fun x => by rw [k1, datL, Dt.dt]; rfl⟩
instance {c : α → D} {p : α → PyData} {k : β → List D} {q : β → List PyData} [Dt c p] [DtK k q] : DtK (k2 c k) (q2 p q) := ⟨fun x => by rw [k2, datL, Dt.dt, Option.bind_some, DtK.dt]; rfl⟩
instance {k : α → List D} {q : α → List PyData} [DtK k q] : Dt (cT k) (pT q) := ⟨fun x => by rw [cT, D.dat, DtK.dt]; rfl⟩
instance {o : Fl} {k : α → List D} {q : α → List PyData} [DtK k q] : Dt (cR o k) (pR q) := ⟨fun x => by rw [cR, D.dat, DtK.dt]; rfl⟩
theorem shaped_cod {p : α → PyData} [Pd p] (h : Pd.dep p ≤ 64) (x : α) : SeqAt.shaped (p x) = true := by
  unfold SeqAt.shaped
  have := Pd.deep (p := p) x
  simp [Pd.can, show (p x).depth ≤ 64 by omega]
theorem eqB_cod [DecidableEq α] {c c' : α → D} {p : α → PyData} [Dt c p] [Dt c' p] [Pd p] (h : Pd.dep p ≤ 64) (x y : α) : fEqB (c x) (c' y) = some (decide (x = y)) := by
  unfold fEqB
  rw [Dt.dt (c := c), Dt.dt (c := c'), Option.bind_some, Option.bind_some, shaped_cod h, shaped_cod h, if_pos (by rfl)]
  congr 1
  rw [Bool.eq_iff_iff, Pd.inj, decide_eq_true_iff]
theorem in_cod [DecidableEq α] {c c' : α → D} {p : α → PyData} [Dt c p] [Dt c' p] [Pd p] (h : Pd.dep p ≤ 63) (o : Fl) (x : α) (ys : List α) : fIn (c x) (cL o c' ys) = some (.bl (decide (x ∈ ys))) := by
  unfold fIn
  have h2 : SeqAt.shaped (PyData.list (ys.map p)) = true := shaped_cod (p := pL p) (Nat.add_le_add_right h 1) ys
  rw [Dt.dt (c := c), Option.bind_some]
  show Option.bind (datL (ys.map c')) _ = _
  rw [datL_cod (c := c'), Option.bind_some, shaped_cod (Nat.le_trans h (by decide)), h2, if_pos (by rfl)]
  congr 2
  rw [Bool.eq_iff_iff, List.any_map, List.any_eq_true, decide_eq_true_iff]
  constructor
  · rintro ⟨z, hz, e⟩
    rw [(Pd.inj z x).mp e] at hz
    exact hz
  · intro hz
    exact ⟨x, hz, (Pd.inj x x).mpr rfl⟩
end

/-! ### what is known of the names -/
abbrev Pat := List (Option D)
def Mt (P : Pat) (env : Env) : Prop := env.length = P.length ∧ ∀ (i : Nat) (d : D), P[i]? = some (some d) → env[i]? = some (some d)
def Le : Pat → Pat → Prop
  | [], [] => True
  | _ :: P, none :: P' => Le P P'
  | p :: P, some d :: P' => p = some d ∧ Le P P'
  | _, _ => False
section
variable {P P' : Pat} {env : Env} {d : D} {i : Nat}
theorem Le.get : ∀ {P P' : Pat}, Le P P' → P.length = P'.length ∧ ∀ (i : Nat) (d : D), P'[i]? = some (some d) → P[i]? = some (some d)
  | [], [], _ => ⟨rfl, fun _ _ h => h⟩
  | p :: P, none :: P', h => by
    obtain ⟨h1, h2⟩ := Le.get (P := P) (P' := P') h
    refine ⟨by simp [h1], fun i d g => ?_⟩
    cases i with
    | zero => simp at g
    | succ i => exact h2 i d g
  | p :: P, some d :: P', h => by
    obtain ⟨h1, h2⟩ := Le.get (P := P) (P' := P') h.2
    refine ⟨by simp [h1], fun i d g => ?_⟩
    cases i with
    | zero => rw [h.1]; exact g
    | succ i => exact h2 i d g
theorem Mt.le (h : Mt P env) (l : Le P P') : Mt P' env := ⟨h.1.trans l.get.1, fun i d g => h.2 i d (l.get.2 i d g)⟩
theorem Mt.set (h : Mt P env) {o : Option D} : Mt (P.set i o) (env.set i o) := by
  refine ⟨by simp [h.1], fun j d g => ?_⟩
  rw [List.getElem?_set] at g ⊢
  by_cases q : i = j
  · rw [if_pos q] at g ⊢
    by_cases l : i < P.length
    · rw [if_pos l] at g
      rw [if_pos (by rw [h.1]; exact l)]
      exact g
    · rw [if_neg l] at g; cases g
  · rw [if_neg q] at g ⊢
    exact h.2 j d g
theorem Mt.lose (h : Mt P env) {o : Option D} : Mt (P.set i none) (env.set i o) := by
  refine ⟨by simp [h.1], fun j d g => ?_⟩
  rw [List.getElem?_set] at g ⊢
  by_cases q : i = j
  · rw [if_pos q] at g
    split at g <;> cases g
  · rw [if_neg q] at g ⊢
    exact h.2 j d g
theorem Mt.join (h : Mt P env) (e : P[i]? = some (some d)) : env[i]?.join = some d := by rw [h.2 i d e]; rfl
theorem Mt.start {ds : List D} {n : Nat} : Mt (initD n ds) (initD n ds) := ⟨rfl, fun _ _ h => h⟩
theorem Mt.any {n : Nat} (h : Mt P env) (e : P.length = n) : Mt (List.replicate n none) env := ⟨by rw [h.1, e, List.length_replicate], fun i d g => by
  rw [List.getElem?_replicate] at g
  split at g <;> cases g⟩
end

/-! ### what parts of the text come to -/
section
variable {α β γ : Type} {env : Env} {P : Pat}
def EV (m : PM) (env : Env) (o : Option α) (c : α → D) : Prop := ∀ x, o = some x → m env = some (c x)
def EVB (m : BM) (env : Env) (o : Option Bool) : Prop := ∀ x, o = some x → m env = some x
def EVL (m : LM) (env : Env) (o : Option (List α)) (c : α → D) : Prop := ∀ x, o = some x → m env = some (x.map c)
def EVD (m : LM) (env : Env) (o : Option α) (k : α → List D) : Prop := ∀ x, o = some x → m env = some (k x)
def EE (m : EM) (env : Env) (o : Option α) (k : α → D × Pat) : Prop := ∀ x, o = some x → ∃ e, m env = some ((k x).1, e) ∧ Mt (k x).2 e
def ET (m : TM) (env : Env) (o : Option α) (k : α → Bool × Pat) : Prop := ∀ x, o = some x → ∃ e, m env = some ((k x).1, e) ∧ Mt (k x).2 e
def ES (m : SM) (env : Env) (o : Option α) (K : α → O → Prop) (Q : α → Pat) : Prop := ∀ x, o = some x → ∃ fl e, m env = some (fl, e) ∧ K x fl ∧ Mt (Q x) e
variable {ma mb m : PM} {mt mu : BM} {ml : LM} {c c' : α → D} {d : D} {v : V}
theorem bsome {o : Option α} {f : α → Option β} {z : β} (h : o.bind f = some z) : ∃ x, o = some x ∧ f x = some z := bind_some h
theorem EV.tot {x : α} (h : m env = some (c x)) : EV m env (some x) c := fun y e => by cases e; exact h
theorem EVB.tot {x : Bool} (h : mt env = some x) : EVB mt env (some x) := fun y e => by cases e; exact h
theorem EVL.tot {x : List α} {ml : LM} (h : ml env = some (x.map c)) : EVL ml env (some x) c := fun y e => by cases e; exact h
theorem EV.hoist {c2 : β → D} {oa : Option β} {o : β → Option α} (h : EV ma env oa c2) (k : ∀ a, ma env = some (c2 a) → EV m env (o a) c) : EV m env (oa.bind o) c := fun x e => by
  obtain ⟨a, h1, h2⟩ := bsome e
  exact k a (h a h1) x h2
theorem EVB.hoist {c2 : β → D} {oa : Option β} {o : β → Option Bool} (h : EV ma env oa c2) (k : ∀ a, ma env = some (c2 a) → EVB mt env (o a)) : EVB mt env (oa.bind o) := fun x e => by
  obtain ⟨a, h1, h2⟩ := bsome e
  exact k a (h a h1) x h2
theorem EVB.hoistB {oa : Option Bool} {o : Bool → Option Bool} (h : EVB mu env oa) (k : ∀ a, mu env = some a → EVB mt env (o a)) : EVB mt env (oa.bind o) := fun x e => by
  obtain ⟨a, h1, h2⟩ := bsome e
  exact k a (h a h1) x h2
theorem EV.hoistB {oa : Option Bool} {o : Bool → Option α} (h : EVB mu env oa) (k : ∀ a, mu env = some a → EV m env (o a) c) : EV m env (oa.bind o) c := fun x e => by
  obtain ⟨a, h1, h2⟩ := bsome e
  exact k a (h a h1) x h2
theorem EVL.hoist {c2 : β → D} {oa : Option β} {o : β → Option (List α)} (h : EV ma env oa c2) (k : ∀ a, ma env = some (c2 a) → EVL ml env (o a) c) : EVL ml env (oa.bind o) c := fun x e => by
  obtain ⟨a, h1, h2⟩ := bsome e
  exact k a (h a h1) x h2
theorem EE.hoist {c2 : β → D} {oa : Option β} {o : β → Option α} {me : EM} {k : α → D × Pat} (h : EV ma env oa c2) (f : ∀ a, ma env = some (c2 a) → EE me env (o a) k) : EE me env (oa.bind o) k := fun x e => by
  obtain ⟨a, h1, h2⟩ := bsome e
  exact f a (h a h1) x h2
theorem ES.hoist {c2 : β → D} {oa : Option β} {o : β → Option α} {ms : SM} {K : α → O → Prop} {Q : α → Pat} (h : EV ma env oa c2) (f : ∀ a, ma env = some (c2 a) → ES ms env (o a) K Q) : ES ms env (oa.bind o) K Q := fun x e => by
  obtain ⟨a, h1, h2⟩ := bsome e
  exact f a (h a h1) x h2
theorem ES.hoistB {oa : Option Bool} {o : Bool → Option α} {ms : SM} {K : α → O → Prop} {Q : α → Pat} (h : EVB mu env oa) (f : ∀ a, mu env = some a → ES ms env (o a) K Q) : ES ms env (oa.bind o) K Q := fun x e => by
  obtain ⟨a, h1, h2⟩ := bsome e
  exact f a (h a h1) x h2

/-! whole values -/
theorem e_var {i : Nat} (h : Mt P env) (e : P[i]? = some (some d)) : mVar i env = some d := h.join e
theorem e_pure (h : m env = some d) (p : d.pure = true := by rfl) : mPure m env = some d := by
  unfold mPure
  rw [h, Option.bind_some, if_pos p]
theorem e_pureC {x : α} [Pu c] (h : m env = some (c x)) : mPure m env = some (c x) := e_pure h (Pu.pu x)
theorem e_op2 {f : D → D → Option V} {d1 d2 : D} (h1 : ma env = some d1) (h2 : mb env = some d2) (hf : f d1 d2 = some v) (hs : scl v = true := by rfl) : mOp2 f ma mb env = some (.s v) := by
  unfold mOp2 sv
  rw [h1, Option.bind_some, h2, Option.bind_some, hf, Option.bind_some, if_pos hs]
theorem e_op1 {f : D → Option V} {d1 : D} (h1 : ma env = some d1) (hf : f d1 = some v) (hs : scl v = true := by rfl) : mOp1 f ma env = some (.s v) := by
  unfold mOp1 sv
  rw [h1, Option.bind_some, hf, Option.bind_some, if_pos hs]
section
variable {i j : Int}
theorem e_add (h1 : ma env = some (cI i)) (h2 : mb env = some (cI j)) : mOp2 fAdd ma mb env = some (cI (i + j)) := e_op2 h1 h2 rfl
theorem e_sub (h1 : ma env = some (cI i)) (h2 : mb env = some (cI j)) : mOp2 fSub ma mb env = some (cI (i - j)) := e_op2 h1 h2 rfl
theorem e_lt (h1 : ma env = some (cI i)) (h2 : mb env = some (cI j)) : mOp2 fLt ma mb env = some (cB (decide (i < j))) := e_op2 h1 h2 rfl
theorem e_le (h1 : ma env = some (cI i)) (h2 : mb env = some (cI j)) : mOp2 fLe ma mb env = some (cB (decide (i ≤ j))) := e_op2 h1 h2 rfl
theorem e_gt (h1 : ma env = some (cI i)) (h2 : mb env = some (cI j)) : mOp2 fGt ma mb env = some (cB (decide (j < i))) := e_op2 h1 h2 rfl
theorem e_ge (h1 : ma env = some (cI i)) (h2 : mb env = some (cI j)) : mOp2 fGe ma mb env = some (cB (decide (j ≤ i))) := e_op2 h1 h2 rfl
theorem e_xor (h1 : ma env = some (cI i)) (h2 : mb env = some (cI j)) : mOp2 fXor ma mb env = some (cI (Builtin.bitXor i j)) := e_op2 h1 h2 rfl
theorem e_neg (h1 : ma env = some (cI i)) : mOp1 fNeg ma env = some (cI (-i)) := e_op1 h1 rfl
theorem e_mulC (h1 : ma env = some (cI i)) (h2 : mb env = some (cI j)) (h : CMulB i j) : mOp2 fMul ma mb env = some (cI (i * j)) := e_op2 h1 h2 (fMul_int h)
theorem e_modC (h1 : ma env = some (cI i)) (h2 : mb env = some (cI j)) (h : 0 < j := by decide) : mOp2 fMod ma mb env = some (cI (i % j)) := e_op2 h1 h2 (fMod_int h)
theorem e_divC (h1 : ma env = some (cI i)) (h2 : mb env = some (cI j)) (h : 0 < j := by decide) (h' : j.natAbs.log2 < 9000 := by decide) : mOp2 fDiv ma mb env = some (cI (i / j)) := e_op2 h1 h2 (fDiv_int h h')
theorem e_powC {w : Int} (h1 : ma env = some (cI i)) (h2 : mb env = some (cI j)) (h : 0 ≤ j ∧ j ≤ 1000000 ∧ i.natAbs < 2 ^ 64 := by decide) (hw : i ^ j.toNat = w := by decide) : mOp2 fPow ma mb env = some (cI w) := by
  rw [← hw]
  exact e_op2 h1 h2 (fPow_int h)
theorem v_mul (h1 : ma env = some (cI i)) (h2 : mb env = some (cI j)) : EV (mOp2 fMul ma mb) env (pmul i j) cI := fun x e => by
  unfold pmul at e
  split at e
  · rename_i h
    cases e
    exact e_mulC h1 h2 (wide_mulB h.1 h.2)
  · cases e
theorem v_div (h1 : ma env = some (cI i)) (h2 : mb env = some (cI j)) : EV (mOp2 fDiv ma mb) env (pdiv i j) cI := fun x e => by
  unfold pdiv at e
  split at e
  · rename_i h
    cases e
    exact e_divC h1 h2 h.1 (Nat.lt_trans (log2_lt (k := 250) (by decide) (by omega)) (by decide))
  · cases e
theorem v_mod (h1 : ma env = some (cI i)) (h2 : mb env = some (cI j)) : EV (mOp2 fMod ma mb) env (pmod i j) cI := fun x e => by
  unfold pmod at e
  split at e
  · cases e
    exact e_modC h1 h2 ‹_›
  · cases e
theorem v_pow (h1 : ma env = some (cI i)) (h2 : mb env = some (cI j)) : EV (mOp2 fPow ma mb) env (ppow i j) cI := fun x e => by
  unfold ppow at e
  split at e
  · rename_i h
    cases e
    exact e_powC h1 h2 ⟨h.1, by omega, h.2.2⟩ rfl
  · cases e
end
theorem e_eq [DecidableEq α] {c c' : α → D} {p : α → PyData} [Dt c p] [Dt c' p] [Pd p] {x y : α} (h1 : ma env = some (c x)) (h2 : mb env = some (c' y)) (h : Pd.dep p ≤ 64 := by decide) : mOp2 fEq ma mb env = some (cB (decide (x = y))) := e_op2 h1 h2 (by rw [fEq, eqB_cod h]; rfl)
theorem e_ne [DecidableEq α] {c c' : α → D} {p : α → PyData} [Dt c p] [Dt c' p] [Pd p] {x y : α} (h1 : ma env = some (c x)) (h2 : mb env = some (c' y)) (h : Pd.dep p ≤ 64 := by decide) : mOp2 fNe ma mb env = some (cB (decide (x ≠ y))) := e_op2 h1 h2 (by
  rw [fNe, eqB_cod h, Option.map_some]
  simp)
theorem e_in [DecidableEq α] {c c' : α → D} {p : α → PyData} [Dt c p] [Dt c' p] [Pd p] {o : Fl} {x : α} {ys : List α} (h1 : ma env = some (c x)) (h2 : mb env = some (cL o c' ys)) (h : Pd.dep p ≤ 63 := by decide) : mOp2 fIn ma mb env = some (cB (decide (x ∈ ys))) := e_op2 h1 h2 (in_cod h o x ys)
theorem e_nin [DecidableEq α] {c c' : α → D} {p : α → PyData} [Dt c p] [Dt c' p] [Pd p] {o : Fl} {x : α} {ys : List α} (h1 : ma env = some (c x)) (h2 : mb env = some (cL o c' ys)) (h : Pd.dep p ≤ 63 := by decide) : mOp2 fNotIn ma mb env = some (cB (decide (x ∉ ys))) := e_op2 h1 h2 (by
  rw [fNotIn, in_cod h o x ys]
  simp)
/-- what is never None -/
class NN (c : α → D) : Prop where
  nn : ∀ x, isNon (c x) = false
instance : NN cI := ⟨fun _ => rfl⟩
instance : NN cB := ⟨fun _ => rfl⟩
instance {o : Fl} {c : α → D} : NN (cL o c) := ⟨fun _ => rfl⟩
instance {k : α → List D} : NN (cT k) := ⟨fun _ => rfl⟩
instance {o : Fl} {k : α → List D} : NN (cR o k) := ⟨fun _ => rfl⟩
theorem e_isN {x : Option α} [NN c] (h1 : ma env = some (cO c x)) (h2 : mb env = some (.s .non)) : mOp2 fIsN ma mb env = some (cB (decide (x = none))) := e_op2 h1 h2 (by
  rw [fIsN]
  cases x with
  | none => rfl
  | some x => rw [cO, NN.nn]; rfl)
theorem e_notN {x : Option α} [NN c] (h1 : ma env = some (cO c x)) (h2 : mb env = some (.s .non)) : mOp2 fNotN ma mb env = some (cB (decide (x ≠ none))) := e_op2 h1 h2 (by
  rw [fNotN]
  cases x with
  | none => rfl
  | some x => rw [cO, NN.nn]; rfl)
theorem e_nil : lNil env = some [] := rfl
theorem e_cons {ds : List D} (h : m env = some d) (h2 : ml env = some ds) : lCons m ml env = some (d :: ds) := by
  unfold lCons
  rw [h, Option.bind_some, h2]; rfl
theorem e_mk {k : Kd} {ds : List D} (h : ml env = some ds) (hl : ds.length ≤ 16777216 := by exact Nat.le_of_ble_eq_true rfl) : mk k ml env = some (.n k ds) := by
  unfold mk
  rw [h, Option.bind_some, if_pos hl]
theorem e_call {f : List D → Option V} {ds : List D} (h : ml env = some ds) (hf : f ds = some v) (hs : scl v = true := by rfl) : mCall f ml env = some (.s v) := by
  unfold mCall sv
  rw [h, Option.bind_some, hf, Option.bind_some, if_pos hs]
theorem e_call1 {f : List D → Option V} (h : m env = some d) (hf : f [d] = some v) (hs : scl v = true := by rfl) : mCall f (lCons m lNil) env = some (.s v) := e_call (e_cons h e_nil) hf hs
theorem e_call2 {f : List D → Option V} {d2 : D} (h : ma env = some d) (h2 : mb env = some d2) (hf : f [d, d2] = some v) (hs : scl v = true := by rfl) : mCall f (lCons ma (lCons mb lNil)) env = some (.s v) := e_call (e_cons h (e_cons h2 e_nil)) hf hs
theorem e_len {o : Fl} {xs : List α} (h : m env = some (cL o c xs)) : mCall fLen (lCons m lNil) env = some (cI xs.length) := e_call1 h (by rw [cL, fLen, List.length_map])
theorem e_lenT {n : Nat} {ds : List D} (h : m env = some (.n .tup ds)) (hn : ds.length = n := by rfl) : mCall fLen (lCons m lNil) env = some (cI n) := e_call1 h (by rw [fLen, hn])
theorem intsD_cod (xs : List Int) : intsD (xs.map cI) = some xs := intsD_map xs
theorem boolsD_cod (xs : List Bool) : boolsD (xs.map cB) = some xs := boolsD_map xs
theorem li_cod {o : Fl} (xs : List Int) : li [cL o cI xs] = some xs := intsD_map xs
theorem lb_cod {o : Fl} (xs : List Bool) : lb [cL o cB xs] = some xs := boolsD_map xs
theorem e_sum {o : Fl} {xs : List Int} (h : m env = some (cL o cI xs)) : mCall fSum (lCons m lNil) env = some (cI xs.sum) := e_call1 h (by rw [fSum, li_cod]; rfl)
theorem e_any {o : Fl} {xs : List Bool} (h : m env = some (cL o cB xs)) : mCall fAny (lCons m lNil) env = some (cB (xs.any id)) := e_call1 h (by rw [fAny, lb_cod]; rfl)
theorem e_all {o : Fl} {xs : List Bool} (h : m env = some (cL o cB xs)) : mCall fAll (lCons m lNil) env = some (cB (xs.all id)) := e_call1 h (by rw [fAll, lb_cod]; rfl)
theorem v_max {o : Fl} {xs : List Int} (h : m env = some (cL o cI xs)) : EV (mCall fMaxL (lCons m lNil)) env (pmax xs) cI := fun x e => e_call1 h (by
  unfold pmax at e
  rw [fMaxL, li_cod, Option.bind_some, e]; rfl)
theorem v_min {o : Fl} {xs : List Int} (h : m env = some (cL o cI xs)) : EV (mCall fMinL (lCons m lNil)) env (pmin xs) cI := fun x e => e_call1 h (by
  unfold pmin at e
  rw [fMinL, li_cod, Option.bind_some, e]; rfl)
theorem e_abs {i : Int} (h : m env = some (cI i)) : mCall fAbs (lCons m lNil) env = some (cI (if i < 0 then -i else i)) := e_call1 h rfl
theorem e_max2 {i j : Int} (h : ma env = some (cI i)) (h2 : mb env = some (cI j)) : mCall fMax2 (lCons ma (lCons mb lNil)) env = some (cI (max i j)) := e_call2 h h2 (by
  rw [show max i j = if j > i then j else i by split <;> omega]; rfl)
theorem e_min2 {i j : Int} (h : ma env = some (cI i)) (h2 : mb env = some (cI j)) : mCall fMin2 (lCons ma (lCons mb lNil)) env = some (cI (min i j)) := e_call2 h h2 (by
  rw [show min i j = if j < i then j else i by split <;> omega]; rfl)
theorem e_callL {f : List D → Option (List D)} {ds rs : List D} (h : ml env = some ds) (hf : f ds = some rs) (hp : pureL rs = true) : mCallL f ml env = some (.n (.lst .o) rs) := by
  unfold mCallL
  rw [h, Option.bind_some, hf, Option.bind_some, if_pos hp]
theorem e_list [Pu c] {o : Fl} {xs : List α} (h : m env = some (cL o c xs)) : mCallL fList (lCons m lNil) env = some (cL .o c xs) := e_callL (e_cons h e_nil) rfl (pureL_cod xs)
theorem e_sorted {o : Fl} {xs : List Int} (h : m env = some (cL o cI xs)) : mCallL fSorted (lCons m lNil) env = some (cL .o cI (Ty.srt xs)) := e_callL (e_cons h e_nil) (by rw [fSorted, li_cod]; rfl) (pureL_cod (c := cI) _)
theorem e_item {x y d : D} (h1 : ma env = some x) (h2 : mb env = some y) (h : fItem x y = some d) : mItem ma mb env = some d := by
  unfold mItem
  rw [h1, Option.bind_some, h2, Option.bind_some, h]
/-- an item of a tuple, of a list of unlike parts, at a place that stands there -/
theorem e_itemT {ds : List D} {i : Int} (h1 : ma env = some (.n .tup ds)) (h2 : mb env = some (cI i)) (h : atI ds i = some d := by rfl) : mItem ma mb env = some d := e_item h1 h2 h
theorem e_itemR {ds : List D} {o : Fl} {i : Int} (h1 : ma env = some (.n (.lst o) ds)) (h2 : mb env = some (cI i)) (h : atI ds i = some d := by rfl) : mItem ma mb env = some d := e_item h1 h2 h
theorem ixN_Z (n : Nat) (i : Int) : ixN n i = ixZ n i := rfl
theorem atI_idx (xs : List α) (i : Int) : atI xs i = idx xs i := by unfold atI idx; rfl
theorem v_item {o : Fl} {xs : List α} {i : Int} (h1 : ma env = some (cL o c xs)) (h2 : mb env = some (cI i)) : EV (mItem ma mb) env (idx xs i) c := fun x e => e_item h1 h2 (by
  show atI (xs.map c) i = _
  rw [atI_map, atI_idx, e]; rfl)
theorem v_cat [Pu c] {o o' : Fl} {xs ys : List α} (h1 : ma env = some (cL o c xs)) (h2 : mb env = some (cL o' c ys)) (hn : (nw o && nw o') = true := by rfl) : EV (mCat ma mb) env (cat xs ys) (cL .o c) := fun x e => by
  unfold cat at e
  split at e
  · rename_i hl
    cases e
    unfold mCat
    rw [h1, Option.bind_some, h2, Option.bind_some]
    have : fCat (cL o c xs) (cL o' c ys) = some ((xs ++ ys).map c) := by
      unfold fCat cL
      dsimp only
      rw [if_pos (by rw [hn]; simpa using hl), List.map_append]
    rw [this, Option.bind_some, if_pos (pureL_cod _)]; rfl
  · cases e
theorem rep_map {f : α → β} (n : Nat) (xs : List α) : (List.replicate n (xs.map f)).flatten = (List.replicate n xs).flatten.map f := by
  rw [List.map_flatten, List.map_replicate]
theorem v_rep [Pu c] {o : Fl} {xs : List α} {n : Int} (h1 : ma env = some (cL o c xs)) (h2 : mb env = some (cI n)) (hn : nw o = true := by rfl) : EV (mRep ma mb) env (rep xs n) (cL .o c) := fun x e => by
  unfold rep at e
  split at e
  · rename_i hl
    cases e
    unfold mRep
    rw [h1, Option.bind_some, h2, Option.bind_some]
    have : fRep (cL o c xs) (cI n) = some ((List.replicate n.toNat xs).flatten.map c) := by
      unfold fRep cL cI
      dsimp only
      rw [if_pos (by rw [hn]; simp only [Bool.true_and, List.length_map]; exact decide_eq_true ⟨by omega, by omega, hl.2.2⟩), rep_map]
    rw [this, Option.bind_some, if_pos (pureL_cod _)]; rfl
  · cases e
theorem sIx_bd (n : Nat) (d : Nat) (o : Option Int) : HT.sIx n d o = bd n d o := by
  cases o with
  | none => rfl
  | some i => unfold HT.sIx bd; first | rfl | (dsimp only; split <;> first | rfl | (split <;> first | rfl | omega) | omega)
theorem cutG_sl (xs : List α) (lo hi : Option Int) : cutG xs lo hi = sl xs lo hi := by
  unfold cutG sl
  rw [sIx_bd, sIx_bd]
theorem e_oNo : oNo env = some none := rfl
theorem e_oYes {i : Int} (h : m env = some (cI i)) : oYes m env = some (some i) := by
  unfold oYes
  rw [h]; rfl
theorem e_sl [Pu c] {o : Fl} {xs : List α} {lo hi : Env → Option (Option Int)} {a b : Option Int} (h1 : m env = some (cL o c xs)) (h2 : lo env = some a) (h3 : hi env = some b) : mSl m lo hi env = some (cL .o c (sl xs a b)) := by
  unfold mSl
  rw [h1, Option.bind_some, h2, Option.bind_some, h3, Option.bind_some]
  unfold cL
  dsimp only
  rw [cutG_map, cutG_sl, if_pos (pureL_cod _)]
theorem rg_1 {i : Int} (h : m env = some (cI i)) : rg1 m env = some (0, i) := by
  unfold rg1
  rw [h]; rfl
theorem rg_2 {i j : Int} (h : ma env = some (cI i)) (h2 : mb env = some (cI j)) : rg2 ma mb env = some (i, j) := by
  unfold rg2
  rw [h]
  show Option.bind (some i) _ = _
  rw [Option.bind_some, h2]; rfl
theorem rng_of {a b : Int} {xs : List Int} (h : rng a b = some xs) : RgOk a b ∧ xs = span a b := by
  unfold rng at h
  split at h
  · rename_i g
    cases h
    refine ⟨?_, rfl⟩
    unfold RgOk
    omega
  · cases h
theorem rgD_span (a b : Int) : rgD a b = (span a b).map cI := by
  unfold rgD span
  rw [List.map_map]; rfl
theorem v_rg {r : Env → Option (Int × Int)} {a b : Int} (h : r env = some (a, b)) : EV (mRg r) env (rng a b) (cL .o cI) := fun x e => by
  obtain ⟨h1, rfl⟩ := rng_of e
  unfold mRg
  rw [h, Option.bind_some, if_pos (decide_eq_true h1), rgD_span]; rfl
theorem e_isi {T : String} {b : Bool} (h : m env = some d) (hb : isiD T d = some (.bl b)) : mIsi T m env = some (cB b) := by
  unfold mIsi sv
  rw [h, Option.bind_some, hb, Option.bind_some]; rfl
theorem v_index {o : Fl} {xs : List Int} {i : Int} (h1 : ma env = some (cL o cI xs)) (h2 : mb env = some (cI i)) : EV (mIdx ma mb) env (ixOf xs i) cI := fun x e => by
  unfold ixOf at e
  split at e
  · rename_i h
    cases e
    unfold mIdx
    rw [h1, Option.bind_some, h2, Option.bind_some]
    unfold fIdx cL cI
    dsimp only
    rw [show (xs.map fun x => D.s (.int x)) = xs.map cI from rfl, intsD_cod, Option.bind_some, if_pos h]; rfl
  · cases e
theorem e_notV {b : Bool} (h : m env = some (cB b)) : mNotV m env = some (cB (!b)) := by
  unfold mNotV
  rw [h]; rfl
/-! truths, as what is so -/
section
variable {p q : Prop} [Decidable p] [Decidable q]
theorem e_B {b : Bool} (h : m env = some (cB b)) : mB m env = some b := by
  unfold mB
  rw [h]; rfl
theorem e_Bv {b : Bool} (h : m env = some (cB b)) : mB m env = some (decide (b = true)) := by
  rw [e_B h]
  cases b <;> rfl
theorem e_truB {b : Bool} (h : m env = some (cB b)) : mTru m env = some (decide (b = true)) := by
  unfold mTru
  rw [h]
  cases b <;> rfl
theorem e_truI {i : Int} (h : m env = some (cI i)) : mTru m env = some (decide (i ≠ 0)) := by
  unfold mTru
  rw [h]
  show some (i != 0) = _
  congr 1
  by_cases h : i = 0 <;> simp [h]
theorem e_truL {o : Fl} {xs : List α} (h : m env = some (cL o c xs)) : mTru m env = some (decide (xs ≠ [])) := by
  unfold mTru
  rw [h]
  cases xs <;> rfl
theorem e_not (h : mt env = some (decide p)) : mNotT mt env = some (decide ¬p) := by
  unfold mNotT
  rw [h]
  by_cases hp : p <;> simp [hp]
theorem e_and (h : mt env = some (decide p)) (h2 : mu env = some (decide q)) : mAnd mt mu env = some (decide (p ∧ q)) := by
  unfold mAnd
  rw [h, h2]
  by_cases hp : p <;> simp [hp]
theorem e_or (h : mt env = some (decide p)) (h2 : mu env = some (decide q)) : mOr mt mu env = some (decide (p ∨ q)) := by
  unfold mOr
  rw [h, h2]
  by_cases hp : p <;> simp [hp]
theorem e_and_f (h : mt env = some false) : mAnd mt mu env = some false := by
  unfold mAnd
  rw [h]; rfl
theorem e_and_t {b : Bool} (h : mt env = some true) (h2 : mu env = some b) : mAnd mt mu env = some b := by
  unfold mAnd
  rw [h]; exact h2
theorem e_or_t (h : mt env = some true) : mOr mt mu env = some true := by
  unfold mOr
  rw [h]; rfl
theorem e_or_f {b : Bool} (h : mt env = some false) (h2 : mu env = some b) : mOr mt mu env = some b := by
  unfold mOr
  rw [h]; exact h2
theorem v_and {o : Option Bool} (h : mt env = some (decide p)) (h2 : p → EVB mu env o) : EVB (mAnd mt mu) env (if p then o else some false) := fun x e => by
  unfold mAnd
  rw [h, Option.bind_some]
  by_cases hp : p
  · rw [if_pos hp] at e
    rw [if_pos (decide_eq_true hp)]
    exact h2 hp x e
  · rw [if_neg hp] at e
    cases e
    rw [if_neg (by simpa using hp)]
theorem v_or {o : Option Bool} (h : mt env = some (decide p)) (h2 : ¬p → EVB mu env o) : EVB (mOr mt mu) env (if p then some true else o) := fun x e => by
  unfold mOr
  rw [h, Option.bind_some]
  by_cases hp : p
  · rw [if_pos hp] at e
    cases e
    rw [if_pos (decide_eq_true hp)]
  · rw [if_neg hp] at e
    rw [if_neg (by simpa using hp)]
    exact h2 hp x e
theorem v_andO {o o2 : Option Bool} (h : EVB mt env o) (h2 : EVB mu env o2) : EVB (mAnd mt mu) env (o.bind fun b => if b = true then o2 else some false) := fun x e => by
  obtain ⟨b, h3, h4⟩ := bsome e
  unfold mAnd
  rw [h b h3, Option.bind_some]
  cases b with
  | true => rw [if_pos rfl] at h4; rw [if_pos rfl]; exact h2 x h4
  | false => rw [if_neg (by decide)] at h4; rw [if_neg (by decide)]; exact h4
theorem v_orO {o o2 : Option Bool} (h : EVB mt env o) (h2 : EVB mu env o2) : EVB (mOr mt mu) env (o.bind fun b => if b = true then some true else o2) := fun x e => by
  obtain ⟨b, h3, h4⟩ := bsome e
  unfold mOr
  rw [h b h3, Option.bind_some]
  cases b with
  | true => rw [if_pos rfl] at h4; rw [if_pos rfl]; exact h4
  | false => rw [if_neg (by decide)] at h4; rw [if_neg (by decide)]; exact h2 x h4
theorem v_notO {o : Option Bool} (h : EVB mt env o) : EVB (mNotT mt) env (o.bind fun b => some (!b)) := fun x e => by
  obtain ⟨b, h3, h4⟩ := bsome e
  cases h4
  unfold mNotT
  rw [h b h3]; rfl
/-- truths as values -/
theorem e_vB {b : Bool} (h : (m env).bind toB = some b) : mB m env = some b := h
theorem e_andV (h : m env = some (cB (decide p))) (h2 : ma env = some (cB (decide q))) : mAndV m ma env = some (cB (decide (p ∧ q))) := by
  unfold mAndV
  rw [h, h2]
  show (Option.bind (some (decide p)) _) = _
  by_cases hp : p <;> simp [hp, cB, toB]
theorem e_orV (h : m env = some (cB (decide p))) (h2 : ma env = some (cB (decide q))) : mOrV m ma env = some (cB (decide (p ∨ q))) := by
  unfold mOrV
  rw [h, h2]
  show (Option.bind (some (decide p)) _) = _
  by_cases hp : p <;> simp [hp, cB, toB]
theorem v_andV {o : Option Bool} (h : m env = some (cB (decide p))) (h2 : p → EV ma env o cB) : EV (mAndV m ma) env (if p then o else some false) cB := fun x e => by
  unfold mAndV
  rw [h]
  show (Option.bind (some (decide p)) _) = _
  by_cases hp : p
  · rw [if_pos hp] at e
    rw [Option.bind_some, if_pos (decide_eq_true hp), h2 hp x e]; rfl
  · rw [if_neg hp] at e
    cases e
    rw [Option.bind_some, if_neg (by simpa using hp)]; rfl
theorem v_orV {o : Option Bool} (h : m env = some (cB (decide p))) (h2 : ¬p → EV ma env o cB) : EV (mOrV m ma) env (if p then some true else o) cB := fun x e => by
  unfold mOrV
  rw [h]
  show (Option.bind (some (decide p)) _) = _
  by_cases hp : p
  · rw [if_pos hp] at e
    cases e
    rw [Option.bind_some, if_pos (decide_eq_true hp)]; rfl
  · rw [if_neg hp] at e
    rw [Option.bind_some, if_neg (by simpa using hp), h2 hp x e]; rfl
theorem e_boolP {b : Bool} (h : m env = some (cB b)) : m env = some (cB (decide (b = true))) := by
  rw [h]
  cases b <;> rfl
theorem e_notP (h : m env = some (cB (decide p))) : mNotV m env = some (cB (decide ¬p)) := by
  rw [e_notV h]
  by_cases hp : p <;> simp [hp]
theorem e_if {x y : α} (h : mt env = some (decide p)) (h1 : p → ma env = some (c x)) (h2 : ¬p → mb env = some (c y)) : mIf mt ma mb env = some (c (if p then x else y)) := by
  unfold mIf
  rw [h, Option.bind_some]
  by_cases hp : p
  · rw [if_pos hp, if_pos (decide_eq_true hp)]; exact h1 hp
  · rw [if_neg hp, if_neg (by simpa using hp)]; exact h2 hp
theorem v_if {oa ob : Option α} (h : mt env = some (decide p)) (h1 : p → EV ma env oa c) (h2 : ¬p → EV mb env ob c) : EV (mIf mt ma mb) env (if p then oa else ob) c := fun x e => by
  unfold mIf
  rw [h, Option.bind_some]
  by_cases hp : p
  · rw [if_pos hp] at e
    rw [if_pos (decide_eq_true hp)]; exact h1 hp x e
  · rw [if_neg hp] at e
    rw [if_neg (by simpa using hp)]; exact h2 hp x e
end
/-- a def called: t tells what it comes to -/
theorem v_fn {f : FM} {ds : List D} {t : Option α} (h : ml env = some ds) (hf : ∀ x, t = some x → f (frzD ds) = some (c x)) [NoF c] : EV (mFn f ml) env t c := fun x e => by
  unfold mFn
  rw [h, Option.bind_some, hf x e, Option.bind_some, NoF.no]; rfl
theorem v_fnP {f : FM} {ds : List D} {t : Option α} (h : ml env = some ds) (hf : ∀ x, t = some x → f (frzD ds) = some (c x)) (hp : pureL ds = true) : EV (mFn f ml) env t c := fun x e => by
  unfold mFn
  rw [h, Option.bind_some, hf x e, Option.bind_some, hp, Bool.or_true]; rfl
end
end Ow

namespace Ow
open PySem L2 Ty
section
variable {α β γ σ ρ : Type} {env : Env} {P P1 P2 : Pat} {ma mb m : PM} {mt mu : BM} {ml mi : LM} {c c' : α → D} {d : D} {v : V}

/-! ### what is gone over -/
theorem w_L {o : Fl} {xs : List α} (h : m env = some (cL o c xs)) : wL m env = some (xs.map c) := by
  unfold wL
  rw [h]; rfl
theorem w_LF [Fz c c'] {o : Fl} {xs : List α} (h : m env = some (cL o c xs)) : wLF m env = some (xs.map c') := by
  unfold wLF
  rw [h, Option.bind_some, cL, D.frz, frzL_cod]; rfl
theorem w_T {ds : List D} (h : m env = some (.n .tup ds)) : wT m env = some ds := by
  unfold wT
  rw [h]; rfl
theorem w_R {r : Env → Option (Int × Int)} {a b : Int} (h : r env = some (a, b)) : EVL (wR r) env (rng a b) cI := fun x e => by
  obtain ⟨h1, rfl⟩ := rng_of e
  unfold wR
  rw [h, Option.bind_some, if_pos (decide_eq_true h1)]
  unfold rgDn span
  rw [List.map_map]; rfl
theorem zipD {c2 : β → D} : ∀ (xs : List α) (ys : List β), List.zipWith (fun x y => D.n .tup [x, y]) (xs.map c) (ys.map c2) = (xs.zip ys).map (cT (k2 c (k1 c2)))
  | [], _ => rfl
  | x :: xs, [] => rfl
  | x :: xs, y :: ys => by rw [List.map_cons, List.map_cons, List.zipWith_cons_cons, List.zip_cons_cons, List.map_cons, zipD xs ys]; rfl
theorem w_Z {c2 : β → D} {o o' : Fl} {xs : List α} {ys : List β} (h : ma env = some (cL o c xs)) (h2 : mb env = some (cL o' c2 ys)) : wZ ma mb env = some ((xs.zip ys).map (cT (k2 c (k1 c2)))) := by
  unfold wZ
  rw [h, Option.bind_some, h2, Option.bind_some, ← zipD]; rfl
theorem enD_enu : ∀ (i : Nat) (xs : List α), enD i (xs.map c) = (enu i xs).map (cT (k2 cI (k1 c)))
  | _, [] => rfl
  | i, x :: xs => by rw [List.map_cons, enD, enD_enu (i + 1) xs, enu, List.map_cons]; rfl
theorem w_E {o : Fl} {xs : List α} (h : m env = some (cL o c xs)) : wE m env = some ((enu 0 xs).map (cT (k2 cI (k1 c)))) := by
  unfold wE
  rw [h, Option.bind_some, ← enD_enu]; rfl
theorem EV.hoistL {oa : Option (List α)} {o : List α → Option β} {c2 : β → D} (h : EVL ml env oa c) (k : ∀ a, ml env = some (a.map c) → EV m env (o a) c2) : EV m env (oa.bind o) c2 := fun x e => by
  obtain ⟨a, h1, h2⟩ := bsome e
  exact k a (h a h1) x h2
theorem ES.hoistL {oa : Option (List α)} {o : List α → Option β} {ms : SM} {K : β → O → Prop} {Q : β → Pat} (h : EVL ml env oa c) (k : ∀ a, ml env = some (a.map c) → ES ms env (o a) K Q) : ES ms env (oa.bind o) K Q := fun x e => by
  obtain ⟨a, h1, h2⟩ := bsome e
  exact k a (h a h1) x h2
theorem EE.hoistL {oa : Option (List α)} {o : List α → Option β} {me : EM} {k2 : β → D × Pat} (h : EVL ml env oa c) (k : ∀ a, ml env = some (a.map c) → EE me env (o a) k2) : EE me env (oa.bind o) k2 := fun x e => by
  obtain ⟨a, h1, h2⟩ := bsome e
  exact k a (h a h1) x h2

/-! ### targets -/
def BDt (g : Tg) (d : D) (P P1 : Pat) : Prop := ∀ e, Mt P e → ∃ e1, bD g d e = some e1 ∧ Mt P1 e1
def BDs (gs : List Tg) (ds : List D) (P P1 : Pat) : Prop := gs.length = ds.length ∧ ∀ e, Mt P e → ∃ e1, bDs gs ds e = some e1 ∧ Mt P1 e1
theorem b_nm {j : Nat} : BDt (.nm j) d P (P.set j (some d)) := fun e h => ⟨_, bD_nm _ _ _, h.set⟩
theorem b_tp {gs : List Tg} {ds : List D} (h : BDs gs ds P P1) : BDt (.tp gs) (.n .tup ds) P P1 := fun e he => by
  obtain ⟨e1, h1, h2⟩ := h.2 e he
  exact ⟨e1, by rw [bD, if_pos h.1.symm, h1], h2⟩
theorem b_nil : BDs [] [] P P := ⟨rfl, fun e h => ⟨e, by rw [bDs], h⟩⟩
theorem b_cons {g : Tg} {gs : List Tg} {ds : List D} (h : BDt g d P P1) (h2 : BDs gs ds P1 P2) : BDs (g :: gs) (d :: ds) P P2 := ⟨by simp [h2.1], fun e he => by
  obtain ⟨e1, g1, g2⟩ := h e he
  obtain ⟨e2, g3, g4⟩ := h2.2 e1 g2
  exact ⟨e2, by rw [bDs, g1, Option.bind_some, g3], g4⟩⟩
theorem Mt.wipe : ∀ {vs : List Nat} {P : Pat} {env : Env}, Mt P env → Mt (wipeD P vs) (wipeD env vs)
  | [], _, _, h => h
  | v :: vs, _, _, h => (Mt.wipe (vs := vs) h).set

/-! ### lists made by going over -/
theorem v_lcm {c2 : β → D} {g : Tg} {me : PM} {vs : List Nat} {xs : List α} {f : α → β} {Px : α → Pat} (w : mi env = some (xs.map c)) (h : Mt P env) (hb : ∀ x, BDt g (c x) (wipeD P vs) (Px x)) (he : ∀ x e, Mt (Px x) e → me e = some (c2 (f x))) :
    EV (mLc mi g bYes me vs) env (lcm xs f) (cL .o c2) := fun x e => by
  unfold lcm at e
  split at e
  · rename_i hl
    cases e
    unfold mLc
    rw [w, Option.bind_some, if_pos (by rw [List.length_map]; exact hl)]
    have : ∀ xs : List α, lcD g bYes me (wipeD env vs) (xs.map c) = some ((xs.map f).map c2) := fun xs => by
      induction xs with
      | nil => rfl
      | cons x xs ih =>
        obtain ⟨e1, g1, g2⟩ := hb x _ h.wipe
        rw [List.map_cons, lcD, g1, Option.bind_some]
        show Option.bind (some true) _ = _
        rw [Option.bind_some, if_pos rfl, he x e1 g2, Option.bind_some, ih]; rfl
    rw [this]; rfl
  · cases e
theorem v_lcp {c2 : β → D} {g : Tg} {me : PM} {vs : List Nat} {xs : List α} {p : α → Option Bool} {f : α → Option β} {Px : α → Pat} (w : mi env = some (xs.map c)) (h : Mt P env) (hb : ∀ x, BDt g (c x) (wipeD P vs) (Px x)) (ht : ∀ x e, Mt (Px x) e → EVB mt e (p x)) (he : ∀ x e, Mt (Px x) e → EV me e (f x) c2) :
    EV (mLc mi g mt me vs) env (lcp xs p f) (cL .o c2) := fun x e => by
  unfold lcp at e
  split at e
  · rename_i hl
    unfold mLc
    rw [w, Option.bind_some, if_pos (by rw [List.length_map]; exact hl)]
    have : ∀ (xs : List α) (ys : List β), lcO p f xs = some ys → lcD g mt me (wipeD env vs) (xs.map c) = some (ys.map c2) := fun xs => by
      induction xs with
      | nil => intro ys hy; cases hy; rfl
      | cons x xs ih =>
        intro ys hy
        rw [lcO] at hy
        obtain ⟨b, hb1, hy⟩ := bsome hy
        obtain ⟨e1, g1, g2⟩ := hb x _ h.wipe
        rw [List.map_cons, lcD, g1, Option.bind_some, ht x e1 g2 b hb1, Option.bind_some]
        cases b with
        | true =>
          rw [if_pos rfl] at hy
          obtain ⟨y, hy1, hy⟩ := bsome hy
          cases hr : lcO p f xs with
          | none => rw [hr] at hy; cases hy
          | some zs =>
            rw [hr] at hy
            cases hy
            rw [if_pos rfl, he x e1 g2 y hy1, Option.bind_some, ih zs hr]; rfl
        | false =>
          rw [if_neg (by decide)] at hy
          rw [if_neg (by decide)]
          exact ih ys hy
    rw [this xs x e]; rfl
  · cases e
theorem vb_yes : EVB bYes env (some true) := fun x e => by cases e; rfl
theorem vb_p {p : Prop} [Decidable p] (h : mt env = some (decide p)) : EVB mt env (some (decide p)) := EVB.tot h

/-! ### statements -/
variable {K : α → O → Prop} {Q : α → Pat} {o oa ob : Option α} {n mS mA mB : SM} {me : EM}
theorem s_skip {a : α} (h : Mt (Q a) env) (hK : K a .nx) : ES sNx env (some a) K Q := fun x e => by
  cases e
  exact ⟨.nx, env, rfl, hK, h⟩
theorem s_brk {a : α} (h : Mt (Q a) env) (hK : K a .bk) : ES sBk env (some a) K Q := fun x e => by
  cases e
  exact ⟨.bk, env, rfl, hK, h⟩
theorem s_cont {a : α} (h : Mt (Q a) env) (hK : K a .ct) : ES sCt env (some a) K Q := fun x e => by
  cases e
  exact ⟨.ct, env, rfl, hK, h⟩
theorem s_retN {a : α} (h : Mt (Q a) env) (hK : K a (.rt (.s .non))) : ES sRetN env (some a) K Q := fun x e => by
  cases e
  exact ⟨_, env, rfl, hK, h⟩
theorem s_none : ES (fun _ => none) env (none : Option α) K Q := fun x e => by cases e
theorem s_last (h : ES (sSeq mS sNx) env o K Q) : ES mS env o K Q := fun x e => by
  obtain ⟨fl, e1, h1, h2, h3⟩ := h x e
  unfold sSeq at h1
  obtain ⟨y, hy, h4⟩ := bind_some h1
  obtain ⟨f, e2⟩ := y
  refine ⟨f, e2, hy, ?_⟩
  cases f <;> (cases h4; exact ⟨h2, h3⟩)
theorem s_seq {τ : Type} {oa : Option τ} {o : τ → Option α} {Pa : τ → Pat} (h : ES mS env oa (fun _ fl => fl = .nx) Pa) (h2 : ∀ a e, Mt (Pa a) e → ES n e (o a) K Q) : ES (sSeq mS n) env (oa.bind o) K Q := fun x e => by
  obtain ⟨a, h3, h4⟩ := bsome e
  obtain ⟨fl, e1, h5, rfl, h7⟩ := h a h3
  obtain ⟨fl, e2, h8, h9⟩ := h2 a e1 h7 x h4
  exact ⟨fl, e2, by unfold sSeq; rw [h5]; exact h8, h9⟩
theorem s_let {τ : Type} {ct : τ → D} {a : τ} {i : Nat} {o : τ → Option α} (hm : m env = some (ct a)) (h : Mt P env) (h2 : ∀ a e, Mt (P.set i (some (ct a))) e → ES n e (o a) K Q) : ES (sSeq (sSet i (lift m)) n) env (lt a o) K Q := fun x e => by
  obtain ⟨fl, e2, h8, h9⟩ := h2 a _ (h.set (o := some (ct a))) x e
  exact ⟨fl, e2, by unfold sSeq sSet lift; rw [hm]; exact h8, h9⟩
theorem s_setV {τ : Type} {ct : τ → D} {oa : Option τ} {i : Nat} {o : τ → Option α} (hm : EV m env oa ct) (h : Mt P env) (h2 : ∀ a e, Mt (P.set i (some (ct a))) e → ES n e (o a) K Q) : ES (sSeq (sSet i (lift m)) n) env (oa.bind o) K Q := fun x e => by
  obtain ⟨a, h3, h4⟩ := bsome e
  exact s_let (hm a h3) h h2 x h4
theorem s_setE {τ : Type} {oa : Option τ} {i : Nat} {o : τ → Option α} {k : τ → D × Pat} (hm : EE me env oa k) (h2 : ∀ a e, Mt ((k a).2.set i (some (k a).1)) e → ES n e (o a) K Q) : ES (sSeq (sSet i me) n) env (oa.bind o) K Q := fun x e => by
  obtain ⟨a, h3, h4⟩ := bsome e
  obtain ⟨e1, h5, h6⟩ := hm a h3
  obtain ⟨fl, e2, h8, h9⟩ := h2 a _ h6.set x h4
  exact ⟨fl, e2, by unfold sSeq sSet; rw [h5]; exact h8, h9⟩
theorem s_drop {τ : Type} {oa : Option τ} {o : τ → Option α} {k : τ → D × Pat} (hm : EE me env oa k) (h2 : ∀ a e, Mt (k a).2 e → ES n e (o a) K Q) : ES (sSeq (sDrop me) n) env (oa.bind o) K Q := fun x e => by
  obtain ⟨a, h3, h4⟩ := bsome e
  obtain ⟨e1, h5, h6⟩ := hm a h3
  obtain ⟨fl, e2, h8, h9⟩ := h2 a _ h6 x h4
  exact ⟨fl, e2, by unfold sSeq sDrop; rw [h5]; exact h8, h9⟩
theorem s_asg {τ : Type} {ct : τ → D} {a : τ} {g : Tg} {o : τ → Option α} {Pa : τ → Pat} (hm : m env = some (ct a)) [Pu ct] (h : Mt P env) (hb : ∀ a, BDt g (ct a) P (Pa a)) (h2 : ∀ a e, Mt (Pa a) e → ES n e (o a) K Q) : ES (sSeq (sAsg g m) n) env (lt a o) K Q := fun x e => by
  obtain ⟨e1, g1, g2⟩ := hb a env h
  obtain ⟨fl, e2, h8, h9⟩ := h2 a e1 g2 x e
  exact ⟨fl, e2, by unfold sSeq sAsg; rw [hm, Option.bind_some, if_pos (Pu.pu a), g1]; exact h8, h9⟩
theorem s_asgV {τ : Type} {ct : τ → D} {oa : Option τ} {g : Tg} {o : τ → Option α} {Pa : τ → Pat} (hm : EV m env oa ct) [Pu ct] (h : Mt P env) (hb : ∀ a, BDt g (ct a) P (Pa a)) (h2 : ∀ a e, Mt (Pa a) e → ES n e (o a) K Q) : ES (sSeq (sAsg g m) n) env (oa.bind o) K Q := fun x e => by
  obtain ⟨a, h3, h4⟩ := bsome e
  exact s_asg (hm a h3) h hb h2 x h4
theorem s_aug {f : D → D → Option V} {i : Nat} {τ : Type} {ct : τ → V} {a : τ} {d1 d2 : D} {o : τ → Option α} (hm : m env = some d2) (h : Mt P env) (hi : P[i]? = some (some d1)) (hf : f d1 d2 = some (ct a)) (hs : scl (ct a) = true) (h2 : ∀ a e, Mt (P.set i (some (.s (ct a)))) e → ES n e (o a) K Q) : ES (sSeq (sAugF i f m) n) env (lt a o) K Q := fun x e => by
  obtain ⟨fl, e2, h8, h9⟩ := h2 a _ (h.set (o := some (.s (ct a)))) x e
  exact ⟨fl, e2, by
    have : sv (ct a) = some (.s (ct a)) := if_pos hs
    unfold sSeq sAugF; rw [hm, Option.bind_some, h.join hi, Option.bind_some, hf, Option.bind_some, this]; exact h8, h9⟩
theorem s_augAdd {i : Nat} {a b : Int} {o : Int → Option α} (hm : m env = some (cI b)) (h : Mt P env) (hi : P[i]? = some (some (cI a))) (h2 : ∀ a e, Mt (P.set i (some (cI a))) e → ES n e (o a) K Q) : ES (sSeq (sAugF i fAdd m) n) env (lt (a + b) o) K Q := s_aug (ct := V.int) hm h hi rfl rfl h2
theorem s_augSub {i : Nat} {a b : Int} {o : Int → Option α} (hm : m env = some (cI b)) (h : Mt P env) (hi : P[i]? = some (some (cI a))) (h2 : ∀ a e, Mt (P.set i (some (cI a))) e → ES n e (o a) K Q) : ES (sSeq (sAugF i fSub m) n) env (lt (a - b) o) K Q := s_aug (ct := V.int) hm h hi rfl rfl h2
theorem s_augMul {i : Nat} {a b : Int} {o : Int → Option α} (hm : m env = some (cI b)) (h : Mt P env) (hi : P[i]? = some (some (cI a))) (h2 : ∀ a e, Mt (P.set i (some (cI a))) e → ES n e (o a) K Q) : ES (sSeq (sAugF i fMul m) n) env ((pmul a b).bind o) K Q := fun x e => by
  obtain ⟨z, h3, h4⟩ := bsome e
  unfold pmul at h3
  split at h3
  · rename_i g
    cases h3
    exact s_aug (ct := V.int) (a := a * b) hm h hi (fMul_int (wide_mulB g.1 g.2)) rfl h2 x h4
  · cases h3
theorem s_ret {a : α} (hm : m env = some d) (h : Mt (Q a) env) (hK : K a (.rt d)) : ES (sRet (lift m)) env (some a) K Q := fun x e => by
  cases e
  exact ⟨.rt d, env, by unfold sRet lift; rw [hm]; rfl, hK, h⟩
theorem s_retV {τ : Type} {ct : τ → D} {oa : Option τ} {w : τ → α} (hm : EV m env oa ct) (h : ∀ a, Mt (Q (w a)) env) (hK : ∀ a, K (w a) (.rt (ct a))) : ES (sRet (lift m)) env (oa.bind fun a => some (w a)) K Q := fun x e => by
  obtain ⟨a, h3, h4⟩ := bsome e
  cases h4
  exact ⟨_, env, by unfold sRet lift; rw [hm a h3]; rfl, hK a, h a⟩
/-- told as it comes -/
theorem s_retO {ct : α → D} (hm : EV m env o ct) (h : ∀ a, Mt (Q a) env) (hK : ∀ a, K a (.rt (ct a))) : ES (sRet (lift m)) env o K Q := fun x e => ⟨_, env, by unfold sRet lift; rw [hm x e]; rfl, hK x, h x⟩
theorem s_retE {τ : Type} {oa : Option τ} {w : τ → α} {k : τ → D × Pat} (hm : EE me env oa k) (h : ∀ a e, Mt (k a).2 e → Mt (Q (w a)) e) (hK : ∀ a, K (w a) (.rt (k a).1)) : ES (sRet me) env (oa.bind fun a => some (w a)) K Q := fun x e => by
  obtain ⟨a, h3, h4⟩ := bsome e
  cases h4
  obtain ⟨e1, h5, h6⟩ := hm a h3
  exact ⟨_, e1, by unfold sRet; rw [h5]; rfl, hK a, h a e1 h6⟩
theorem s_frz {i : Nat} {τ : Type} {ct ct' : τ → D} [Fz ct ct'] {a : τ} (h : Mt P env) (hi : P[i]? = some (some (ct a))) (h2 : ∀ e, Mt (P.set i (some (ct' a))) e → ES mS e o K Q) : ES (fun env => mS (frzAt i env)) env o K Q := by
  have : frzAt i env = env.set i (some (ct' a)) := by
    unfold frzAt
    rw [h.join hi]
    dsimp only
    rw [Fz.fz (c := ct)]
  show ES (fun env => mS (frzAt i env)) env o K Q
  intro x e
  obtain ⟨fl, e2, h8, h9⟩ := h2 _ (h.set (o := some (ct' a))) x e
  exact ⟨fl, e2, by show mS (frzAt i env) = _; rw [this]; exact h8, h9⟩
/-! tests -/
section
variable {p : Prop} [Decidable p]
theorem e_dec {b : Bool} (h : mt env = some b) : mt env = some (decide (b = true)) := by
  rw [h]
  cases b <;> rfl
theorem if_go (ht : mt env = some (decide p)) : sIf (liftT mt) mA mB env = if p then mA env else mB env := by
  unfold sIf liftT
  rw [ht, Option.map_some, Option.bind_some]
  by_cases hp : p <;> simp [hp]
theorem s_if (ht : mt env = some (decide p)) (hA : p → ES mA env oa K Q) (hB : ¬p → ES mB env ob K Q) : ES (sIf (liftT mt) mA mB) env (if p then oa else ob) K Q := fun x e => by
  rw [if_go ht]
  by_cases hp : p
  · rw [if_pos hp] at e ⊢; exact hA hp x e
  · rw [if_neg hp] at e ⊢; exact hB hp x e
theorem seq_pass {mS n : SM} {e e1 : Env} {fl : O} (h : mS e = some (fl, e1)) (hf : fl ≠ .nx) : sSeq mS n e = some (fl, e1) := by
  unfold sSeq
  rw [h, Option.bind_some]
  cases fl <;> first | rfl | exact absurd rfl hf
theorem s_ifx (ht : mt env = some (decide p)) (hA : p → ES mA env oa (fun x fl => K x fl ∧ fl ≠ .nx) Q) (hB : ¬p → ES (sSeq mB n) env ob K Q) : ES (sSeq (sIf (liftT mt) mA mB) n) env (if p then oa else ob) K Q := fun x e => by
  by_cases hp : p
  · rw [if_pos hp] at e
    obtain ⟨fl, e1, h1, h2, h3⟩ := hA hp x e
    exact ⟨fl, e1, seq_pass (by rw [if_go ht, if_pos hp]; exact h1) h2.2, h2.1, h3⟩
  · rw [if_neg hp] at e
    obtain ⟨fl, e1, h1, h2, h3⟩ := hB hp x e
    refine ⟨fl, e1, ?_, h2, h3⟩
    unfold sSeq at h1 ⊢
    rw [if_go ht, if_neg hp]; exact h1
theorem s_ify (ht : mt env = some (decide p)) (hA : p → ES (sSeq mA n) env oa K Q) (hB : ¬p → ES mB env ob (fun x fl => K x fl ∧ fl ≠ .nx) Q) : ES (sSeq (sIf (liftT mt) mA mB) n) env (if p then oa else ob) K Q := fun x e => by
  by_cases hp : p
  · rw [if_pos hp] at e
    obtain ⟨fl, e1, h1, h2, h3⟩ := hA hp x e
    refine ⟨fl, e1, ?_, h2, h3⟩
    unfold sSeq at h1 ⊢
    rw [if_go ht, if_pos hp]; exact h1
  · rw [if_neg hp] at e
    obtain ⟨fl, e1, h1, h2, h3⟩ := hB hp x e
    exact ⟨fl, e1, seq_pass (by rw [if_go ht, if_neg hp]; exact h1) h2.2, h2.1, h3⟩
theorem s_if2 (ht : mt env = some (decide p)) (hA : p → ES (sSeq mA n) env oa K Q) (hB : ¬p → ES (sSeq mB n) env ob K Q) : ES (sSeq (sIf (liftT mt) mA mB) n) env (if p then oa else ob) K Q := fun x e => by
  by_cases hp : p
  · rw [if_pos hp] at e
    obtain ⟨fl, e1, h1, h2, h3⟩ := hA hp x e
    refine ⟨fl, e1, ?_, h2, h3⟩
    unfold sSeq at h1 ⊢
    rw [if_go ht, if_pos hp]; exact h1
  · rw [if_neg hp] at e
    obtain ⟨fl, e1, h1, h2, h3⟩ := hB hp x e
    refine ⟨fl, e1, ?_, h2, h3⟩
    unfold sSeq at h1 ⊢
    rw [if_go ht, if_neg hp]; exact h1
end
/-- a test whose end is known -/
theorem s_ifT (ht : mt env = some true) (hA : ES (sSeq mA n) env o K Q) : ES (sSeq (sIf (liftT mt) mA mB) n) env o K Q := fun x e => by
  obtain ⟨fl, e1, h1, h2, h3⟩ := hA x e
  refine ⟨fl, e1, ?_, h2, h3⟩
  unfold sSeq at h1 ⊢
  rw [if_go (p := True) (by rw [ht]; rfl), if_pos trivial]; exact h1
theorem s_ifF (ht : mt env = some false) (hB : ES (sSeq mB n) env o K Q) : ES (sSeq (sIf (liftT mt) mA mB) n) env o K Q := fun x e => by
  obtain ⟨fl, e1, h1, h2, h3⟩ := hB x e
  refine ⟨fl, e1, ?_, h2, h3⟩
  unfold sSeq at h1 ⊢
  rw [if_go (p := False) (by rw [ht]; rfl), if_neg id]; exact h1
theorem s_sk (h : ES n env o K Q) : ES (sSeq sNx n) env o K Q := h
theorem s_assoc {mC : SM} (h : ES (sSeq mA (sSeq mB mC)) env o K Q) : ES (sSeq (sSeq mA mB) mC) env o K Q := fun x e => by
  obtain ⟨fl, e1, h1, h2⟩ := h x e
  refine ⟨fl, e1, ?_, h2⟩
  unfold sSeq at h1 ⊢
  cases ha : mA env with
  | none => rw [ha] at h1; cases h1
  | some y =>
    rw [ha] at h1
    obtain ⟨f, e2⟩ := y
    cases f <;> first | exact h1 | (rw [← h1]; rfl)
/-- a block that ends for good -/
theorem s_exit (h : ES mS env o (fun x fl => K x fl ∧ fl ≠ .nx) Q) : ES (sSeq mS n) env o K Q := fun x e => by
  obtain ⟨fl, e1, h1, h2, h3⟩ := h x e
  exact ⟨fl, e1, seq_pass h1 h2.2, h2.1, h3⟩
/-! tests that change things -/
section
variable {τ : Type} {oc : Option τ} {mc : TM} {p : τ → Prop} [DecidablePred p] {Pa : τ → Pat} {fa fb : τ → Option α}
theorem s_ifE (hc : ET mc env oc (fun a => (decide (p a), Pa a))) (hA : ∀ a e, Mt (Pa a) e → p a → ES mA e (fa a) K Q) (hB : ∀ a e, Mt (Pa a) e → ¬p a → ES mB e (fb a) K Q) : ES (sIf mc mA mB) env (oc.bind fun a => if p a then fa a else fb a) K Q := fun x e => by
  obtain ⟨a, h3, h4⟩ := bsome e
  obtain ⟨e1, h5, h6⟩ := hc a h3
  unfold sIf
  rw [h5, Option.bind_some]
  by_cases hp : p a
  · rw [if_pos hp] at h4
    rw [if_pos (decide_eq_true hp)]
    exact hA a e1 h6 hp x h4
  · rw [if_neg hp] at h4
    rw [if_neg (by simpa using hp)]
    exact hB a e1 h6 hp x h4
theorem s_if2E (hc : ET mc env oc (fun a => (decide (p a), Pa a))) (hA : ∀ a e, Mt (Pa a) e → p a → ES (sSeq mA n) e (fa a) K Q) (hB : ∀ a e, Mt (Pa a) e → ¬p a → ES (sSeq mB n) e (fb a) K Q) : ES (sSeq (sIf mc mA mB) n) env (oc.bind fun a => if p a then fa a else fb a) K Q := fun x e => by
  obtain ⟨a, h3, h4⟩ := bsome e
  obtain ⟨e1, h5, h6⟩ := hc a h3
  unfold sSeq sIf
  rw [h5, Option.bind_some]
  by_cases hp : p a
  · rw [if_pos hp] at h4
    rw [if_pos (decide_eq_true hp)]
    exact hA a e1 h6 hp x h4
  · rw [if_neg hp] at h4
    rw [if_neg (by simpa using hp)]
    exact hB a e1 h6 hp x h4
end

/-! ### loops -/
def lpB (cr : ρ → D) : Lp σ ρ → O → Prop
  | .go _, fl => fl = .nx ∨ fl = .ct
  | .br _, fl => fl = .bk
  | .rt r, fl => fl = .rt (cr r)
def lpD (cr : ρ → D) : Lp σ ρ → O → Prop
  | .go _, fl => fl = .nx
  | .br _, fl => fl = .nx
  | .rt r, fl => fl = .rt (cr r)
def lpQ (Pl : σ → Pat) (Pr : ρ → Pat) : Lp σ ρ → Pat
  | .go s => Pl s
  | .br s => Pl s
  | .rt r => Pr r
theorem s_for {g : Tg} {mb : SM} {xs : List α} {s0 : σ} {f : σ → α → Option σ} {Pl : σ → Pat} {Px : σ → α → Pat} (w : mi env = some (xs.map c)) [Pu c] (h : Mt (Pl s0) env) (hb : ∀ s x, BDt g (c x) (Pl s) (Px s x))
    (hs : ∀ s x e, Mt (Px s x) e → ES mb e (f s x) (fun _ fl => fl = .nx ∨ fl = .ct) Pl) : ES (sFor mi g mb) env (forO xs s0 f) (fun _ fl => fl = .nx) Pl := fun y e => by
  unfold sFor
  rw [w, Option.bind_some, if_pos (pureL_cod xs)]
  clear w
  induction xs generalizing s0 env with
  | nil => cases e; exact ⟨.nx, env, rfl, rfl, h⟩
  | cons x xs ih =>
    rw [forO] at e
    obtain ⟨s1, h1, h2⟩ := bsome e
    obtain ⟨e1, g1, g2⟩ := hb s0 x env h
    obtain ⟨fl, e2, g3, g4, g5⟩ := hs s0 x e1 g2 s1 h1
    rw [List.map_cons, forD, g1, Option.bind_some, g3, Option.bind_some]
    rcases g4 with rfl | rfl
    · exact ih g5 h2
    · exact ih g5 h2
theorem s_forR {g : Tg} {mb : SM} {xs : List α} {s0 : σ} {cr : ρ → D} {f : σ → α → Option (Lp σ ρ)} {Pl : σ → Pat} {Pr : ρ → Pat} {Px : σ → α → Pat} (w : mi env = some (xs.map c)) [Pu c] (h : Mt (Pl s0) env) (hb : ∀ s x, BDt g (c x) (Pl s) (Px s x))
    (hs : ∀ s x e, Mt (Px s x) e → ES mb e (f s x) (lpB cr) (lpQ Pl Pr)) : ES (sFor mi g mb) env (forR xs s0 f) (lpD cr) (lpQ Pl Pr) := fun y e => by
  unfold sFor
  rw [w, Option.bind_some, if_pos (pureL_cod xs)]
  clear w
  induction xs generalizing s0 env with
  | nil => cases e; exact ⟨.nx, env, rfl, rfl, h⟩
  | cons x xs ih =>
    rw [forR] at e
    obtain ⟨r, h1, h2⟩ := bsome e
    obtain ⟨e1, g1, g2⟩ := hb s0 x env h
    obtain ⟨fl, e2, g3, g4, g5⟩ := hs s0 x e1 g2 r h1
    rw [List.map_cons, forD, g1, Option.bind_some, g3, Option.bind_some]
    cases r with
    | go s1 =>
      rcases g4 with rfl | rfl
      · exact ih g5 h2
      · exact ih g5 h2
    | br s1 =>
      cases g4
      cases h2
      exact ⟨.nx, e2, rfl, rfl, g5⟩
    | rt v =>
      cases g4
      cases h2
      exact ⟨_, e2, rfl, rfl, g5⟩
theorem s_wh {mb : SM} {s0 : σ} {k : Nat} {cd : σ → Option Bool} {f : σ → Option σ} {Pl : σ → Pat} (h : Mt (Pl s0) env) (hc : ∀ s e, Mt (Pl s) e → EVB mt e (cd s)) (hs : ∀ s e, Mt (Pl s) e → ES mb e (f s) (fun _ fl => fl = .nx ∨ fl = .ct) Pl) :
    ES (whD (liftT mt) mb k) env (whO k s0 cd f) (fun _ fl => fl = .nx) Pl := fun y e => by
  induction k generalizing s0 env with
  | zero => cases e
  | succ k ih =>
    rw [whO] at e
    obtain ⟨b, h1, h2⟩ := bsome e
    rw [whD]
    unfold liftT
    rw [hc s0 env h b h1, Option.map_some, Option.bind_some]
    cases b with
    | true =>
      rw [if_pos rfl] at h2 ⊢
      obtain ⟨s1, h3, h4⟩ := bsome h2
      obtain ⟨fl, e2, g3, g4, g5⟩ := hs s0 env h s1 h3
      rw [g3, Option.bind_some]
      rcases g4 with rfl | rfl
      · exact ih g5 h4
      · exact ih g5 h4
    | false =>
      rw [if_neg (by decide)] at h2
      rw [if_neg (fun z => by cases z)]
      cases h2
      exact ⟨.nx, env, rfl, rfl, h⟩
theorem s_whR {mb : SM} {s0 : σ} {k : Nat} {cr : ρ → D} {cd : σ → Option Bool} {f : σ → Option (Lp σ ρ)} {Pl : σ → Pat} {Pr : ρ → Pat} (h : Mt (Pl s0) env) (hc : ∀ s e, Mt (Pl s) e → EVB mt e (cd s)) (hs : ∀ s e, Mt (Pl s) e → ES mb e (f s) (lpB cr) (lpQ Pl Pr)) :
    ES (whD (liftT mt) mb k) env (whR k s0 cd f) (lpD cr) (lpQ Pl Pr) := fun y e => by
  induction k generalizing s0 env with
  | zero => cases e
  | succ k ih =>
    rw [whR] at e
    obtain ⟨b, h1, h2⟩ := bsome e
    rw [whD]
    unfold liftT
    rw [hc s0 env h b h1, Option.map_some, Option.bind_some]
    cases b with
    | true =>
      rw [if_pos rfl] at h2 ⊢
      obtain ⟨r, h3, h4⟩ := bsome h2
      obtain ⟨fl, e2, g3, g4, g5⟩ := hs s0 env h r h3
      rw [g3, Option.bind_some]
      cases r with
      | go s1 =>
        rcases g4 with rfl | rfl
        · exact ih g5 h4
        · exact ih g5 h4
      | br s1 =>
        cases g4
        cases h4
        exact ⟨.nx, e2, rfl, rfl, g5⟩
      | rt v =>
        cases g4
        cases h4
        exact ⟨_, e2, rfl, rfl, g5⟩
    | false =>
      rw [if_neg (by decide)] at h2
      rw [if_neg (fun z => by cases z)]
      cases h2
      exact ⟨.nx, env, rfl, rfl, h⟩
/-- behind a loop with an early end -/
theorem s_aft {cr : ρ → D} {ol : Option (Lp σ ρ)} {f : σ → Option α} {w : ρ → α} {Pl : σ → Pat} {Pr : ρ → Pat} (h : ES mS env ol (lpD cr) (lpQ Pl Pr)) (h2 : ∀ s e, Mt (Pl s) e → ES n e (f s) K Q) (h3 : ∀ r e, Mt (Pr r) e → Mt (Q (w r)) e) (hK : ∀ r, K (w r) (.rt (cr r))) : ES (sSeq mS n) env (aft ol f fun r => some (w r)) K Q := fun x e => by
  unfold aft at e
  obtain ⟨r, h4, h5⟩ := bsome e
  obtain ⟨fl, e1, h6, h7, h8⟩ := h r h4
  cases r with
  | go s =>
    cases h7
    obtain ⟨fl, e2, h9, h10⟩ := h2 s e1 h8 x h5
    exact ⟨fl, e2, by unfold sSeq; rw [h6]; exact h9, h10⟩
  | br s =>
    cases h7
    obtain ⟨fl, e2, h9, h10⟩ := h2 s e1 h8 x h5
    exact ⟨fl, e2, by unfold sSeq; rw [h6]; exact h9, h10⟩
  | rt v =>
    cases h7
    cases h5
    exact ⟨_, e1, by unfold sSeq; rw [h6]; rfl, hK v, h3 v e1 h8⟩

/-! ### defs -/
/-- a coding that never gives the mark of an exception -/
class Nx (c : α → D) : Prop where
  nx : ∀ x, (c x).isx = false
instance : Nx cI := ⟨fun _ => rfl⟩
instance : Nx cB := ⟨fun _ => rfl⟩
instance : Nx cU := ⟨fun _ => rfl⟩
instance {o : Fl} {c : α → D} : Nx (cL o c) := ⟨fun _ => rfl⟩
instance {k : α → List D} : Nx (cT k) := ⟨fun _ => rfl⟩
instance {o : Fl} {k : α → List D} : Nx (cR o k) := ⟨fun _ => rfl⟩
instance {c : α → D} [Nx c] : Nx (cO c) := ⟨fun x => by cases x <;> first | rfl | exact Nx.nx (c := c) _⟩
def fnK (c : α → D) (x : α) : O → Prop
  | .rt d => d = c x
  | .nx => c x = .s .non
  | _ => False
theorem run_p [Nx c] {k : Nat} {ds : List D} (h : ES mS (initD k ds) o (fnK c) Q) : ∀ x, o = some x → runP k mS ds = some (c x) := fun x e => by
  obtain ⟨fl, e1, h1, h2, h3⟩ := h x e
  unfold runP
  rw [h1, Option.bind_some]
  cases fl with
  | rt d => cases h2; dsimp only; rw [Nx.nx (c := c)]; rfl
  | nx =>
    have h2 : c x = .s .non := h2
    show some (D.s .non) = _
    rw [h2]
  | bk => exact h2.elim
  | ct => exact h2.elim
theorem pick_mt : ∀ {mu : List Nat} {P : Pat} {e : Env} {os : List D}, Mt P e → pickD mu P = some os → pickD mu e = some os
  | [], _, _, _, _, h => h
  | i :: is, P, e, os, hm, h => by
    unfold pickD at h ⊢
    obtain ⟨d, h1, h2⟩ := bind_some h
    have hi : P[i]? = some (some d) := by
      cases q : P[i]? with
      | none => rw [q] at h1; cases h1
      | some z => rw [q] at h1; cases z with
        | none => cases h1
        | some z => cases h1; rfl
    rw [hm.join hi, Option.bind_some]
    cases q : pickD is (P.set i none) with
    | none => rw [q] at h2; cases h2
    | some zs =>
      rw [q] at h2
      rw [pick_mt (hm.set (i := i) (o := none)) q]; exact h2
theorem run_m {k : Nat} {mu : List Nat} {ds : List D} {os : α → List D} (h : ES mS (initD k ds) o (fnK c) Q) (hp : ∀ x, pickD mu (Q x) = some (os x)) (hx : ∀ x, (c x).isx = false := by intro x; first | rfl | exact Nx.nx _) : ∀ x, o = some x → runM k mu mS ds = some (c x, os x) := fun x e => by
  obtain ⟨fl, e1, h1, h2, h3⟩ := h x e
  unfold runM
  rw [h1, Option.bind_some]
  have q := pick_mt h3 (hp x)
  cases fl with
  | rt d =>
    cases h2
    dsimp only
    rw [hx, q]; rfl
  | nx =>
    have h2 : c x = .s .non := h2
    dsimp only
    rw [q, h2]; rfl
  | bk => exact h2.elim
  | ct => exact h2.elim
end
end Ow

namespace Ow
open PySem L2 Ty
section
variable {α β γ σ ρ ζ τ : Type} {env : Env} {P P1 P2 : Pat} {ma mb m : PM} {mt mu : BM} {ml mi : LM} {c c' : α → D} {cz : ζ → D} {d : D} {v : V}
variable {K : β → O → Prop} {Q : β → Pat} {n mS : SM} {me m1 m2 : EM} {i : Nat} {pm : Env → Option (List Nat)} {x : α} {up : ζ → α}

theorem ES.bindE {oa : Option τ} {o : τ → Option β} {ms : SM} (f : ∀ a, oa = some a → ES ms env (o a) K Q) : ES ms env (oa.bind o) K Q := fun x e => by
  obtain ⟨a, h1, h2⟩ := bsome e
  exact f a h1 x h2
theorem EE.bindE {oa : Option τ} {o : τ → Option β} {k : β → D × Pat} (f : ∀ a, oa = some a → EE me env (o a) k) : EE me env (oa.bind o) k := fun x e => by
  obtain ⟨a, h1, h2⟩ := bsome e
  exact f a h1 x h2
theorem EV.bindE {oa : Option τ} {o : τ → Option α} (f : ∀ a, oa = some a → EV m env (o a) c) : EV m env (oa.bind o) c := fun x e => by
  obtain ⟨a, h1, h2⟩ := bsome e
  exact f a h1 x h2

/-! ### places -/
/-- z stands at the place within what slot i holds; up tells the whole with another one there -/
structure PLs (pm : Env → Option (List Nat)) (env : Env) (i : Nat) (x : α) (c : α → D) (z : ζ) (cz : ζ → D) (up : ζ → α) : Prop where
  ex : ∃ p, pm env = some p ∧ atD p (c x) = some (cz z) ∧ ∀ (F : List D → Option (List D)) (ds ds' : List D) (z' : ζ), cz z = .n (.lst .o) ds → F ds = some ds' → cz z' = .n (.lst .o) ds' → modD p F (c x) = some (c (up z'))
  sl : env[i]?.join = some (c x)
theorem pl_name (h : Mt P env) (e : P[i]? = some (some (c x))) : PLs (plName i) env i x c x c id := by
  refine ⟨⟨[], by unfold plName; rw [h.join e]; rfl, rfl, fun F ds ds' z' h1 h2 h3 => ?_⟩, h.join e⟩
  rw [h1, modD, h2, Option.map_some]
  show some _ = some (c z')
  rw [h3]
theorem modD_snoc : ∀ (p : List Nat) (j : Nat) (F : List D → Option (List D)) (d : D) (ds : List D) (x y : D), atD p d = some (.n (.lst .o) ds) → ds[j]? = some x → modD [] F x = some y → modD (p ++ [j]) F d = modD p (fun ds => some (ds.set j y)) d
  | [], j, F, d, ds, x, y, h1, h2, h3 => by
    cases h1
    show modD [j] F _ = modD [] _ _
    simp only [modD, h2, h3, Option.bind_some, Option.map_some]
  | k :: p, j, F, d, ds, x, y, h1, h2, h3 => by
    unfold atD at h1
    obtain ⟨u, h4, h5⟩ := bind_some h1
    have ih := modD_snoc p j F u ds x y h5 h2 h3
    cases d with
    | s v => simp [D.kids] at h4
    | n k' es =>
      have h6 : es[k]? = some u := h4
      clear h1 h4
      show modD (k :: (p ++ [j])) F _ = _
      cases k' with
      | lst o => cases o <;> simp only [modD, h6, ih, Option.bind_some]
      | tup => simp only [modD, h6, ih, Option.bind_some]
      | dic o ks => simp only [modD]
      | dct o ks => simp only [modD]
theorem atD_sn : ∀ (p : List Nat) (j : Nat) (d : D) (e : D) (x : D), atD p d = some e → e.kids[j]? = some x → atD (p ++ [j]) d = some x
  | [], j, d, e, x, h1, h2 => by
    cases h1
    show atD [j] _ = _
    rw [atD, h2]; rfl
  | k :: p, j, d, e, x, h1, h2 => by
    unfold atD at h1
    obtain ⟨u, h4, h5⟩ := bind_some h1
    show atD (k :: (p ++ [j])) d = _
    rw [atD, h4, Option.bind_some, atD_sn p j u e x h5 h2]
theorem idx_ix {xs : List ζ} {k : Int} {z : ζ} (h : idx xs k = some z) : ∃ j, ixN xs.length k = some j ∧ xs[j]? = some z := by
  rw [← atI_idx] at h
  unfold atI at h
  exact bind_some h
theorem setI_ix {xs : List ζ} {k : Int} {j : Nat} {z : ζ} (h : ixN xs.length k = some j) : setI xs k z = xs.set j z := by
  unfold setI
  rw [← ixN_Z, h]; rfl
theorem pl_item {xs : List ζ} {k : Int} {z : ζ} {up : List ζ → α} (h : PLs pm env i x c xs (cL .o cz) up) (hk : mb env = some (cI k)) (hz : idx xs k = some z) : PLs (plItem i pm mb) env i x c z cz fun z' => up (setI xs k z') := by
  obtain ⟨⟨p, h1, h2, h3⟩, hs⟩ := h
  obtain ⟨j, h4, h5⟩ := idx_ix hz
  have h6 : (xs.map cz)[j]? = some (cz z) := by rw [List.getElem?_map, h5]; rfl
  refine ⟨⟨p ++ [j], ?_, atD_sn p j _ _ _ h2 h6, fun F ds ds' z' g1 g2 g3 => ?_⟩, hs⟩
  · unfold plItem
    rw [h1, Option.bind_some, hk, Option.bind_some]
    show Option.bind (some k) _ = _
    rw [Option.bind_some, hs, Option.bind_some, h2, Option.bind_some]
    show Option.map _ (ixN (xs.map cz).length k) = _
    rw [List.length_map, h4]; rfl
  · have h7 : modD [] F (cz z) = some (cz z') := by rw [g1, modD, g2, g3]; rfl
    rw [modD_snoc p j F (c x) (xs.map cz) (cz z) (cz z') h2 h6 h7]
    exact h3 _ (xs.map cz) ((xs.map cz).set j (cz z')) (setI xs k z') rfl rfl (by rw [setI_ix h4, cL, List.map_set])
/-- what is stored at a place -/
theorem s_app {xs : List ζ} {y : ζ} {o : List ζ → Option β} {up : List ζ → α} (h : PLs pm env i x c xs (cL .o cz) up) (hy : m env = some (cz y)) (hm : Mt P env) (h2 : ∀ z e, Mt (P.set i (some (c (up z)))) e → ES n e (o z) K Q) : ES (sSeq (sApp i pm (lift m)) n) env ((app xs y).bind o) K Q := ES.bindE fun z e => by
  unfold app at e
  split at e
  · rename_i hl
    cases e
    obtain ⟨⟨p, g1, g2, g3⟩, hs⟩ := h
    have g4 := g3 (fun ds => if ds.length < 16777216 then some (ds ++ [cz y]) else none) (xs.map cz) ((xs ++ [y]).map cz) (xs ++ [y]) rfl (by rw [List.length_map, if_pos hl, List.map_append]; rfl) rfl
    intro w hw
    obtain ⟨fl, e2, q1, q2⟩ := h2 _ _ (hm.set (i := i) (o := some (c (up (xs ++ [y]))))) w hw
    refine ⟨fl, e2, ?_, q2⟩
    unfold sSeq sApp lift
    rw [g1, Option.bind_some, hy, Option.map_some, Option.bind_some, hs, Option.bind_some]
    dsimp only
    rw [g4]; exact q1
  · cases e
/-- the same, of what is told by a part that changes things -/
theorem s_appE {xs : List ζ} {oy : Option τ} {y : τ → ζ} {Py : τ → Pat} {o : τ → List ζ → Option β} {up : List ζ → α} (h : PLs pm env i x c xs (cL .o cz) up) (hy : EE me env oy (fun a => (cz (y a), Py a))) (h2 : ∀ a z e, Mt ((Py a).set i (some (c (up z)))) e → ES n e (o a z) K Q) : ES (sSeq (sApp i pm me) n) env (oy.bind fun a => (app xs (y a)).bind (o a)) K Q := ES.bindE fun a ha => ES.bindE fun z e => by
  unfold app at e
  split at e
  · rename_i hl
    cases e
    obtain ⟨⟨p, g1, g2, g3⟩, hs⟩ := h
    obtain ⟨e1, f1, f2⟩ := hy a ha
    have g4 := g3 (fun ds => if ds.length < 16777216 then some (ds ++ [cz (y a)]) else none) (xs.map cz) ((xs ++ [y a]).map cz) (xs ++ [y a]) rfl (by rw [List.length_map, if_pos hl, List.map_append]; rfl) rfl
    intro w hw
    obtain ⟨fl, e2, q1, q2⟩ := h2 a _ _ (f2.set (i := i) (o := some (c (up (xs ++ [y a]))))) w hw
    refine ⟨fl, e2, ?_, q2⟩
    unfold sSeq sApp
    rw [g1, Option.bind_some, f1, Option.bind_some, hs, Option.bind_some]
    dsimp only
    rw [g4]; exact q1
  · cases e
theorem s_put {xs : List ζ} {y : ζ} {k : Int} {o : List ζ → Option β} {up : List ζ → α} (hy : m env = some (cz y)) (h : PLs pm env i x c xs (cL .o cz) up) (hk : mb env = some (cI k)) (hm : Mt P env) (h2 : ∀ z e, Mt (P.set i (some (c (up z)))) e → ES n e (o z) K Q) : ES (sSeq (sPut i pm mb (lift m)) n) env ((putI xs k y).bind o) K Q := ES.bindE fun z e => by
  unfold putI at e
  rw [← ixN_Z] at e
  cases hj : ixN xs.length k with
  | none => rw [hj] at e; cases e
  | some j =>
    rw [hj] at e
    cases e
    obtain ⟨⟨p, g1, g2, g3⟩, hs⟩ := h
    have g4 := g3 (fun ds => (ixN ds.length k).map fun j => ds.set j (cz y)) (xs.map cz) ((xs.map cz).set j (cz y)) (xs.set j y) rfl (by rw [List.length_map, hj]; rfl) (by rw [cL, List.map_set])
    intro w hw
    obtain ⟨fl, e2, q1, q2⟩ := h2 _ _ (hm.set (i := i) (o := some (c (up (xs.set j y))))) w hw
    refine ⟨fl, e2, ?_, q2⟩
    unfold sSeq sPut lift
    rw [hy, Option.map_some, Option.bind_some, g1, Option.bind_some, hk, Option.bind_some]
    show Option.bind (Option.bind (some k) _) _ = _
    rw [Option.bind_some, hs, Option.bind_some]
    dsimp only
    rw [g4]; exact q1
/-- an item of a list of unlike parts put anew; also the first of what a part that changes things tells -/
theorem eraseIdx_mp {f : ζ → D} : ∀ (xs : List ζ) (j : Nat), (xs.eraseIdx j).map f = (xs.map f).eraseIdx j
  | [], _ => rfl
  | x :: xs, 0 => rfl
  | x :: xs, j + 1 => by rw [List.eraseIdx_cons_succ, List.map_cons, eraseIdx_mp xs j]; rfl
theorem s_putR {y : D} {k : Int} {ds ds' : List D} {x' : α} {o : Option β} (hy : m env = some y) (hm : Mt P env) (e : P[i]? = some (some (c x))) (hk : mb env = some (cI k)) (hd : c x = .n (.lst .o) ds) (hd' : ((ixN ds.length k).map fun j => ds.set j y) = some ds') (hx : c x' = .n (.lst .o) ds') (h2 : ∀ e, Mt (P.set i (some (c x'))) e → ES n e o K Q) : ES (sSeq (sPut i (plName i) mb (lift m)) n) env o K Q := fun w hw => by
  obtain ⟨fl, e2, q1, q2⟩ := h2 _ (hm.set (i := i) (o := some (c x'))) w hw
  refine ⟨fl, e2, ?_, q2⟩
  unfold sSeq sPut lift plName
  rw [hy, Option.map_some, Option.bind_some, hm.join e, Option.map_some, Option.bind_some, hk, Option.bind_some]
  show Option.bind (Option.bind (some (c x)) fun d => _) _ = _
  rw [Option.bind_some, hd]
  simp only [modD, hd', Option.map_some, Option.bind_some]
  rw [← hx]
  exact q1
theorem s_ins {xs : List ζ} {y : ζ} {k : Int} {o : List ζ → Option β} {up : List ζ → α} (h : PLs pm env i x c xs (cL .o cz) up) (hk : mb env = some (cI k)) (hy : m env = some (cz y)) (hm : Mt P env) (h2 : ∀ z e, Mt (P.set i (some (c (up z)))) e → ES n e (o z) K Q) : ES (sSeq (sIns i pm (lift mb) (lift m)) n) env ((insI xs k y).bind o) K Q := ES.bindE fun z e => by
  unfold insI at e
  split at e
  · rename_i hl
    cases e
    obtain ⟨⟨p, g1, g2, g3⟩, hs⟩ := h
    have g4 := g3 (fun ds => if (ds.length < 16777216 ∧ 0 ≤ k ∧ k < 2 ^ 63) then some (ds.take k.toNat ++ [cz y] ++ ds.drop k.toNat) else none) (xs.map cz) ((xs.take k.toNat ++ [y] ++ xs.drop k.toNat).map cz) (xs.take k.toNat ++ [y] ++ xs.drop k.toNat) rfl (by
      rw [List.length_map, if_pos ⟨hl.1, hl.2.1, by omega⟩, List.map_append, List.map_append, List.map_take, List.map_drop]; rfl) rfl
    intro w hw
    obtain ⟨fl, e2, q1, q2⟩ := h2 _ _ (hm.set (i := i) (o := some (c (up (xs.take k.toNat ++ [y] ++ xs.drop k.toNat))))) w hw
    refine ⟨fl, e2, ?_, q2⟩
    unfold sSeq sIns lift
    rw [g1, Option.bind_some, hk, Option.map_some, Option.bind_some, hy, Option.map_some, Option.bind_some]
    show Option.bind (Option.bind (some k) _) _ = _
    rw [Option.bind_some, hs, Option.bind_some]
    dsimp only
    rw [g4]; exact q1
  · cases e

/-! ### parts that change things -/
theorem ee_p (h : m env = some d) (hm : Mt P env) : EE (lift m) env (some ()) (fun _ => (d, P)) := fun x e => ⟨env, by unfold lift; rw [h]; rfl, hm⟩
theorem ee_v {o : Option α} (h : EV m env o c) (hm : Mt P env) : EE (lift m) env o (fun a => (c a, P)) := fun x e => ⟨env, by unfold lift; rw [h x e]; rfl, hm⟩
theorem ee_move (hm : Mt P env) (e : P[i]? = some (some d)) : EE (eMove i) env (some ()) (fun _ => (d, P.set i none)) := fun x _ => ⟨_, by unfold eMove; rw [hm.join e]; rfl, hm.set⟩
theorem s_setM {j : Nat} {o : α → Option β} (hm : Mt P env) (e : P[j]? = some (some (c x))) (h2 : ∀ a e, Mt ((P.set j none).set i (some (c a))) e → ES n e (o a) K Q) : ES (sSeq (sSet i (eMove j)) n) env (lt x o) K Q := fun w hw => by
  obtain ⟨fl, e2, q1, q2⟩ := h2 x _ ((hm.set (i := j) (o := none)).set (i := i) (o := some (c x))) w hw
  exact ⟨fl, e2, by unfold sSeq sSet eMove; rw [hm.join e]; exact q1, q2⟩
theorem s_retM {w : β} (hm : Mt P env) (e : P[i]? = some (some d)) (h : ∀ e, Mt (P.set i none) e → Mt (Q w) e) (hK : K w (.rt d)) : ES (sRet (eMove i)) env (some w) K Q := fun x hx => by
  cases hx
  exact ⟨_, _, by unfold sRet eMove; rw [hm.join e]; rfl, hK, h _ hm.set⟩
theorem s_appM {xs : List ζ} {j : Nat} {y : ζ} {o : List ζ → Option β} {up : List ζ → α} (h : PLs pm env i x c xs (cL .o cz) up) (hm : Mt P env) (e : P[j]? = some (some (cz y))) (h2 : ∀ z e, Mt ((P.set j none).set i (some (c (up z)))) e → ES n e (o z) K Q) : ES (sSeq (sApp i pm (eMove j)) n) env ((app xs y).bind o) K Q := by
  have := s_appE (o := fun _ z => o z) (n := n) (K := K) (Q := Q) (cz := cz) (y := fun _ : Unit => y) h (ee_move hm e) (fun _ z e => h2 z e)
  exact this
theorem ee_op2 {f : D → D → Option V} {oa : Option α} {ob : α → Option γ} {da : α → D} {Pa : α → Pat} {db : α → γ → D} {Pb : α → γ → Pat} {w : α → γ → V} (ha : EE m1 env oa (fun a => (da a, Pa a))) (hb : ∀ a e, Mt (Pa a) e → EE m2 e (ob a) (fun b => (db a b, Pb a b))) (hf : ∀ a b, f (da a) (db a b) = some (w a b)) (hs : ∀ a b, scl (w a b) = true) :
    EE (eOp2 f m1 m2) env (oa.bind fun a => (ob a).bind fun b => some (a, b)) (fun x => (.s (w x.1 x.2), Pb x.1 x.2)) := EE.bindE fun a h1 => EE.bindE fun b h2 => fun x e => by
  cases e
  obtain ⟨e1, h3, h4⟩ := ha a h1
  obtain ⟨e2, h5, h6⟩ := hb a e1 h4 b h2
  refine ⟨e2, ?_, h6⟩
  unfold eOp2
  rw [h3, Option.bind_some, h5, Option.bind_some, hf a b, Option.bind_some]
  show Option.map _ (if _ then _ else _) = _
  rw [if_pos (hs a b)]; rfl
/-- the left part alone changes things -/
theorem ee_opL {f : D → D → Option V} {oa : Option α} {da : α → D} {Pa : α → Pat} {db : α → D} {w : α → V} (ha : EE m1 env oa (fun a => (da a, Pa a))) (hb : ∀ a e, Mt (Pa a) e → mb e = some (db a)) (hf : ∀ a, f (da a) (db a) = some (w a)) (hs : ∀ a, scl (w a) = true) :
    EE (eOp2 f m1 (lift mb)) env oa (fun a => (.s (w a), Pa a)) := fun a h1 => by
  obtain ⟨e1, h3, h4⟩ := ha a h1
  refine ⟨e1, ?_, h4⟩
  unfold eOp2 lift
  rw [h3, Option.bind_some, hb a e1 h4, Option.map_some, Option.bind_some, hf a, Option.bind_some]
  show Option.map _ (if _ then _ else _) = _
  rw [if_pos (hs a)]; rfl
theorem ee_opR {f : D → D → Option V} {ob : Option γ} {da : D} {db : γ → D} {Pb : γ → Pat} {w : γ → V} (ha : ma env = some da) (hb : EE m2 env ob (fun b => (db b, Pb b))) (hf : ∀ b, f da (db b) = some (w b)) (hs : ∀ b, scl (w b) = true) :
    EE (eOp2 f (lift ma) m2) env ob (fun b => (.s (w b), Pb b)) := fun b h1 => by
  obtain ⟨e1, h3, h4⟩ := hb b h1
  refine ⟨e1, ?_, h4⟩
  unfold eOp2 lift
  rw [ha, Option.map_some, Option.bind_some, h3, Option.bind_some, hf b, Option.bind_some]
  show Option.map _ (if _ then _ else _) = _
  rw [if_pos (hs b)]; rfl
/-- an operation that comes to nothing at times -/
theorem ee_opLp {f : D → D → Option V} {oa : Option α} {da : α → D} {Pa : α → Pat} {db : α → D} {z : α → Option Int} (ha : EE m1 env oa (fun a => (da a, Pa a))) (hb : ∀ a e, Mt (Pa a) e → mb e = some (db a)) (hf : ∀ a w, z a = some w → f (da a) (db a) = some (.int w)) :
    EE (eOp2 f m1 (lift mb)) env (oa.bind fun a => (z a).bind fun w => some (a, w)) (fun x => (cI x.2, Pa x.1)) := EE.bindE fun a h1 => EE.bindE fun w h2 => fun x e => by
  cases e
  obtain ⟨e1, h3, h4⟩ := ha a h1
  refine ⟨e1, ?_, h4⟩
  unfold eOp2 lift
  rw [h3, Option.bind_some, hb a e1 h4, Option.map_some, Option.bind_some, hf a w h2]; rfl
theorem ee_opRp {f : D → D → Option V} {ob : Option γ} {da : D} {db : γ → D} {Pb : γ → Pat} {z : γ → Option Int} (ha : ma env = some da) (hb : EE m2 env ob (fun b => (db b, Pb b))) (hf : ∀ b w, z b = some w → f da (db b) = some (.int w)) :
    EE (eOp2 f (lift ma) m2) env (ob.bind fun b => (z b).bind fun w => some (b, w)) (fun x => (cI x.2, Pb x.1)) := EE.bindE fun b h1 => EE.bindE fun w h2 => fun x e => by
  cases e
  obtain ⟨e1, h3, h4⟩ := hb b h1
  refine ⟨e1, ?_, h4⟩
  unfold eOp2 lift
  rw [ha, Option.map_some, Option.bind_some, h3, Option.bind_some, hf b w h2]; rfl
theorem ee_op2p {f : D → D → Option V} {oa : Option α} {ob : α → Option γ} {da : α → D} {Pa : α → Pat} {db : α → γ → D} {Pb : α → γ → Pat} {z : α → γ → Option Int} (ha : EE m1 env oa (fun a => (da a, Pa a))) (hb : ∀ a e, Mt (Pa a) e → EE m2 e (ob a) (fun b => (db a b, Pb a b))) (hf : ∀ a b w, z a b = some w → f (da a) (db a b) = some (.int w)) :
    EE (eOp2 f m1 m2) env (oa.bind fun a => (ob a).bind fun b => (z a b).bind fun w => some ((a, b), w)) (fun x => (cI x.2, Pb x.1.1 x.1.2)) := EE.bindE fun a h1 => EE.bindE fun b h2 => EE.bindE fun w h3 => fun x e => by
  cases e
  obtain ⟨e1, h4, h5⟩ := ha a h1
  obtain ⟨e2, h6, h7⟩ := hb a e1 h5 b h2
  refine ⟨e2, ?_, h7⟩
  unfold eOp2
  rw [h4, Option.bind_some, h6, Option.bind_some, hf a b w h3]; rfl
theorem pf_mul {i j w : Int} (h : pmul i j = some w) : fMul (cI i) (cI j) = some (.int w) := by
  unfold pmul at h
  split at h
  · rename_i g
    cases h
    exact fMul_int (wide_mulB g.1 g.2)
  · cases h
theorem pf_mod {i j w : Int} (h : pmod i j = some w) : fMod (cI i) (cI j) = some (.int w) := by
  unfold pmod at h
  split at h
  · cases h
    exact fMod_int ‹_›
  · cases h
theorem pf_div {i j w : Int} (h : pdiv i j = some w) : fDiv (cI i) (cI j) = some (.int w) := by
  unfold pdiv at h
  split at h
  · rename_i g
    cases h
    exact fDiv_int g.1 (Nat.lt_trans (log2_lt (k := 250) (by decide) (by omega)) (by decide))
  · cases h
/-- an item of a list at hand, at a place that is told by a part that changes things -/
theorem ee_itemR {xs : List α} {o : Fl} {ob : Option γ} {k : γ → Int} {Pb : γ → Pat} [Pu c] (ha : ma env = some (cL o c xs)) (hb : EE m2 env ob (fun b => (cI (k b), Pb b))) :
    EE (eItem (lift ma) m2) env (ob.bind fun b => (idx xs (k b)).bind fun z => some (b, z)) (fun x => (c x.2, Pb x.1)) := EE.bindE fun b h1 => EE.bindE fun z h2 => fun x e => by
  cases e
  obtain ⟨e1, h3, h4⟩ := hb b h1
  refine ⟨e1, ?_, h4⟩
  unfold eItem lift
  rw [ha, Option.map_some, Option.bind_some, h3, Option.bind_some]
  have : fItem (cL o c xs) (cI (k b)) = some (c z) := by
    show atI (xs.map c) (k b) = _
    rw [atI_map, atI_idx, h2]; rfl
  rw [this, Option.bind_some, if_pos (Pu.pu z)]
/-- an item of what a part that changes things tells -/
theorem ee_itemL {oa : Option γ} {xs : γ → List α} {o : Fl} {k : γ → Int} {Pa : γ → Pat} [Pu c] (ha : EE m1 env oa (fun a => (cL o c (xs a), Pa a))) (hb : ∀ a e, Mt (Pa a) e → mb e = some (cI (k a))) :
    EE (eItem m1 (lift mb)) env (oa.bind fun a => (idx (xs a) (k a)).bind fun z => some (a, z)) (fun x => (c x.2, Pa x.1)) := EE.bindE fun a h1 => EE.bindE fun z h2 => fun x e => by
  cases e
  obtain ⟨e1, h3, h4⟩ := ha a h1
  refine ⟨e1, ?_, h4⟩
  unfold eItem lift
  rw [h3, Option.bind_some, hb a e1 h4, Option.map_some, Option.bind_some]
  have : fItem (cL o c (xs a)) (cI (k a)) = some (c z) := by
    show atI ((xs a).map c) (k a) = _
    rw [atI_map, atI_idx, h2]; rfl
  rw [this, Option.bind_some, if_pos (Pu.pu z)]
theorem ee_pop {xs : List ζ} {k : Int} {up : List ζ → α} (h : PLs pm env i x c xs (cL .o cz) up) (hk : mb env = some (cI k)) (hm : Mt P env) : EE (ePopAt i pm (lift mb)) env (popI xs k) (fun r => (cz r.1, P.set i (some (c (up r.2))))) := fun r e => by
  unfold popI at e
  split at e
  · rename_i hl
    rw [← ixN_Z] at e
    obtain ⟨j, hj, e⟩ := bsome e
    cases hz : xs[j]? with
    | none => rw [hz] at e; cases e
    | some z =>
      rw [hz] at e
      cases e
      obtain ⟨⟨p, g1, g2, g3⟩, hs⟩ := h
      have g4 := g3 (fun _ => some ((xs.map cz).eraseIdx j)) (xs.map cz) ((xs.map cz).eraseIdx j) (xs.eraseIdx j) rfl rfl (by rw [cL, eraseIdx_mp])
      refine ⟨_, ?_, hm.set⟩
      unfold ePopAt lift
      rw [g1, Option.bind_some, hk, Option.map_some, Option.bind_some]
      show Option.bind (some k) _ = _
      rw [Option.bind_some, hs, Option.bind_some, g2, Option.bind_some]
      show (if (xs.map cz).length ≤ 16777216 then _ else _) = _
      rw [List.length_map, if_pos hl, hj, Option.bind_some, List.getElem?_map, hz, Option.map_some, Option.bind_some, g4]; rfl
  · cases e
theorem ee_popE {xs : List ζ} {oa : Option τ} {k : τ → Int} {Pa : τ → Pat} {up : List ζ → α} (h : PLs pm env i x c xs (cL .o cz) up) (hk : EE me env oa (fun a => (cI (k a), Pa a))) : EE (ePopAt i pm me) env (oa.bind fun a => (popI xs (k a)).bind fun r => some (a, r)) (fun r => (cz r.2.1, (Pa r.1).set i (some (c (up r.2.2))))) := EE.bindE fun a ha => EE.bindE fun r e => fun y hy => by
  cases hy
  unfold popI at e
  split at e
  · rename_i hl
    rw [← ixN_Z] at e
    obtain ⟨j, hj, e⟩ := bsome e
    cases hz : xs[j]? with
    | none => rw [hz] at e; cases e
    | some z =>
      rw [hz] at e
      cases e
      obtain ⟨⟨p, g1, g2, g3⟩, hs⟩ := h
      obtain ⟨e1, f1, f2⟩ := hk a ha
      have g4 := g3 (fun _ => some ((xs.map cz).eraseIdx j)) (xs.map cz) ((xs.map cz).eraseIdx j) (xs.eraseIdx j) rfl rfl (by rw [cL, eraseIdx_mp])
      refine ⟨_, ?_, f2.set⟩
      unfold ePopAt
      rw [g1, Option.bind_some, f1, Option.bind_some]
      show Option.bind (some (k a)) _ = _
      rw [Option.bind_some, hs, Option.bind_some, g2, Option.bind_some]
      show (if (xs.map cz).length ≤ 16777216 then _ else _) = _
      rw [List.length_map, if_pos hl, hj, Option.bind_some, List.getElem?_map, hz, Option.map_some, Option.bind_some, g4]; rfl
  · cases e
theorem ee_tup2 {oa : Option α} {ob : α → Option γ} {da : α → D} {Pa : α → Pat} {db : α → γ → D} {Pb : α → γ → Pat} (ha : EE m1 env oa (fun a => (da a, Pa a))) (hb : ∀ a e, Mt (Pa a) e → EE m2 e (ob a) (fun b => (db a b, Pb a b))) :
    EE (eTup2 m1 m2) env (oa.bind fun a => (ob a).bind fun b => some (a, b)) (fun x => (.n .tup [da x.1, db x.1 x.2], Pb x.1 x.2)) := EE.bindE fun a h1 => EE.bindE fun b h2 => fun x e => by
  cases e
  obtain ⟨e1, h3, h4⟩ := ha a h1
  obtain ⟨e2, h5, h6⟩ := hb a e1 h4 b h2
  exact ⟨e2, by unfold eTup2; rw [h3, Option.bind_some, h5]; rfl, h6⟩
theorem ee_sorted {oa : Option γ} {o : Fl} {xs : γ → List Int} {Pa : γ → Pat} (ha : EE me env oa (fun a => (cL o cI (xs a), Pa a))) : EE (eSorted me) env oa (fun a => (cL .o cI (Ty.srt (xs a)), Pa a)) := fun a h1 => by
  obtain ⟨e1, h3, h4⟩ := ha a h1
  refine ⟨e1, ?_, h4⟩
  unfold eSorted
  rw [h3, Option.bind_some]
  have : fSorted [cL o cI (xs a)] = some ((srt (xs a)).map cI) := by
    rw [fSorted, li_cod]; rfl
  dsimp only
  rw [this]; rfl
theorem et_B {oa : Option γ} {b : γ → Bool} {Pa : γ → Pat} (ha : EE me env oa (fun a => (cB (b a), Pa a))) : ET (eB me) env oa (fun a => (b a, Pa a)) := fun a h1 => by
  obtain ⟨e1, h3, h4⟩ := ha a h1
  exact ⟨e1, by unfold eB; rw [h3]; rfl, h4⟩
theorem et_k {oa : Option γ} {mc : TM} {k k' : γ → Bool × Pat} (h : ET mc env oa k) (e : ∀ a, k a = k' a) : ET mc env oa k' := by
  rw [← funext e]; exact h
theorem et_Bv {oa : Option γ} {b : γ → Bool} {Pa : γ → Pat} (ha : EE me env oa (fun a => (cB (b a), Pa a))) : ET (eB me) env oa (fun a => (decide (b a = true), Pa a)) := et_k (et_B ha) fun a => by
  cases b a <;> rfl

/-! ### a def called that changes what it is handed -/
def EA (as : List As) (env : Env) (o : Option γ) (k : γ → List D × Pat) : Prop := ∀ x, o = some x → ∃ e, evA as env = some ((k x).1, e) ∧ Mt (k x).2 e
theorem ea_nil (h : Mt P env) : EA [] env (some ()) (fun _ => ([], P)) := fun x _ => ⟨env, rfl, h⟩
theorem ea_bor {as : List As} {o : Option γ} {k : γ → List D × Pat} (h : EA as env o k) : EA (.bor i :: as) env o k := fun x e => h x e
theorem ea_mv {as : List As} {o : Option γ} {k : γ → List D × Pat} (h : EA as env o k) : EA (.mv i :: as) env o k := fun x e => h x e
theorem ea_ev {as : List As} {o : Option γ} {ds : γ → List D} {Pa : γ → Pat} (hm : m env = some d) (h : EA as env o (fun a => (ds a, Pa a))) : EA (.ev (lift m) :: as) env o (fun a => (d :: ds a, Pa a)) := fun x e => by
  obtain ⟨e1, h1, h2⟩ := h x e
  exact ⟨e1, by unfold evA lift; rw [hm, Option.map_some, Option.bind_some, h1]; rfl, h2⟩
theorem ea_tm {as : List As} {o : Option γ} {ds : γ → List D} {Pa : γ → Pat} (hm : m env = some d) (h : EA as env o (fun a => (ds a, Pa a))) : EA (.tm (lift m) :: as) env o (fun a => (d :: ds a, Pa a)) := fun x e => by
  obtain ⟨e1, h1, h2⟩ := h x e
  exact ⟨e1, by unfold evA lift; rw [hm, Option.map_some, Option.bind_some, h1]; rfl, h2⟩
/-- the one part that changes things; those behind it are whole -/
theorem ea_evE {as : List As} {oa : Option γ} {da : γ → D} {Pa : γ → Pat} {ds : γ → List D} (hm : EE me env oa (fun a => (da a, Pa a))) (h : ∀ a e, Mt (Pa a) e → EA as e (some ()) (fun _ => (ds a, Pa a))) : EA (.ev me :: as) env oa (fun a => (da a :: ds a, Pa a)) := fun x e => by
  obtain ⟨e1, h1, h2⟩ := hm x e
  obtain ⟨e2, h3, h4⟩ := h x e1 h2 () rfl
  exact ⟨e2, by unfold evA; rw [h1, Option.bind_some, h3]; rfl, h4⟩
theorem ea_tmE {as : List As} {oa : Option γ} {da : γ → D} {Pa : γ → Pat} {ds : γ → List D} (hm : EE me env oa (fun a => (da a, Pa a))) (h : ∀ a e, Mt (Pa a) e → EA as e (some ()) (fun _ => (ds a, Pa a))) : EA (.tm me :: as) env oa (fun a => (da a :: ds a, Pa a)) := fun x e => by
  obtain ⟨e1, h1, h2⟩ := hm x e
  obtain ⟨e2, h3, h4⟩ := h x e1 h2 () rfl
  exact ⟨e2, by unfold evA; rw [h1, Option.bind_some, h3]; rfl, h4⟩
theorem getj {P : Pat} {i : Nat} (h : P[i]?.join = some d) : P[i]? = some (some d) := by
  cases q : P[i]? with
  | none => rw [q] at h; cases h
  | some z => rw [q] at h; cases z with
    | none => cases h
    | some z => cases h; rfl
theorem ins_mt : ∀ {as : List As} {ds : List D} {P P' : Pat} {e : Env} {is : List D}, Mt P e → insA as ds P = some (is, P') → ∃ e', insA as ds e = some (is, e') ∧ Mt P' e'
  | [], _, P, P', e, is, h, q => by
    cases q
    exact ⟨e, rfl, h⟩
  | .ev m :: r, [], P, P', e, is, h, q => by simp at q
  | .tm m :: r, [], P, P', e, is, h, q => by simp at q
  | .ev m :: r, d :: ds, P, P', e, is, h, q => by
    unfold insA at q ⊢
    cases z : insA r ds P with
    | none => rw [z] at q; cases q
    | some y =>
      rw [z] at q
      cases q
      obtain ⟨e', h1, h2⟩ := ins_mt (as := r) h z
      exact ⟨e', by rw [h1]; rfl, h2⟩
  | .tm m :: r, d :: ds, P, P', e, is, h, q => by
    unfold insA at q ⊢
    cases z : insA r ds P with
    | none => rw [z] at q; cases q
    | some y =>
      rw [z] at q
      cases q
      obtain ⟨e', h1, h2⟩ := ins_mt (as := r) h z
      exact ⟨e', by rw [h1]; rfl, h2⟩
  | .bor i :: r, ds, P, P', e, is, h, q => by
    unfold insA at q ⊢
    obtain ⟨d, h1, q⟩ := bind_some q
    rw [h.join (getj h1), Option.bind_some]
    cases z : insA r ds P with
    | none => rw [z] at q; cases q
    | some y =>
      rw [z] at q
      cases q
      obtain ⟨e', h1, h2⟩ := ins_mt (as := r) h z
      exact ⟨e', by rw [h1]; rfl, h2⟩
  | .mv i :: r, ds, P, P', e, is, h, q => by
    unfold insA at q ⊢
    obtain ⟨d, h1, q⟩ := bind_some q
    rw [h.join (getj h1), Option.bind_some]
    cases z : insA r ds (P.set i none) with
    | none => rw [z] at q; cases q
    | some y =>
      rw [z] at q
      cases q
      obtain ⟨e', h1, h2⟩ := ins_mt (as := r) (h.set (i := i) (o := none)) z
      exact ⟨e', by rw [h1]; rfl, h2⟩
theorem put_mt : ∀ {as : List As} {os : List D} {P P' : Pat} {e : Env}, Mt P e → putA as os P = some P' → ∃ e', putA as os e = some e' ∧ Mt P' e'
  | [], [], P, P', e, h, q => by
    cases q
    exact ⟨e, rfl, h⟩
  | [], _ :: _, _, _, _, _, q => by simp at q
  | .ev m :: r, os, P, P', e, h, q => by
    unfold putA at q ⊢
    exact put_mt (as := r) h q
  | .bor i :: r, os, P, P', e, h, q => by
    unfold putA at q ⊢
    exact put_mt (as := r) h q
  | .mv i :: r, [], P, P', e, h, q => by simp at q
  | .tm m :: r, [], P, P', e, h, q => by simp at q
  | .mv i :: r, o :: os, P, P', e, h, q => by
    unfold putA at q ⊢
    exact put_mt (as := r) (h.set (i := i) (o := some o)) q
  | .tm m :: r, o :: os, P, P', e, h, q => by
    unfold putA at q ⊢
    exact put_mt (as := r) h q
theorem all_mt {is : List Nat} (h : Mt P env) (q : (is.all fun i => (P[i]?.join).isSome) = true) : (is.all fun i => (env[i]?.join).isSome) = true := by
  rw [List.all_eq_true] at q ⊢
  intro j hj
  have := q j hj
  cases z : P[j]?.join with
  | none => rw [z] at this; cases this
  | some d => rw [h.join (getj z)]; rfl
theorem ee_call {f : FMu} {as : List As} {oa : Option τ} {ds : τ → List D} {Pa : τ → Pat} {is : τ → List D} {Pi : τ → Pat} {t : τ → Option ρ} {dr : ρ → D} {os : ρ → List D} {Pf : ρ → Pat} (hm : Mt P env) (hs : ((muS as ++ boS as).all fun i => (P[i]?.join).isSome) = true) (ha : EA as env oa (fun a => (ds a, Pa a)))
    (hi : ∀ a, insA as (ds a) (Pa a) = some (is a, Pi a)) (hf : ∀ a r, t a = some r → f (is a) = some (dr r, os r)) (hn : ∀ r, ((dr r).noF && noFL (os r)) = true) (hp : ∀ a r, putA as (os r) (Pi a) = some (Pf r)) : EE (eCallM f as) env (oa.bind t) (fun r => (dr r, Pf r)) := EE.bindE fun a h1 => fun r h2 => by
  obtain ⟨e1, h3, h4⟩ := ha a h1
  obtain ⟨e2, h5, h6⟩ := ins_mt h4 (hi a)
  obtain ⟨e3, h7, h8⟩ := put_mt h6 (hp a r)
  refine ⟨e3, ?_, h8⟩
  unfold eCallM
  rw [all_mt hm hs, if_neg (fun z => by cases z), h3, Option.bind_some]
  dsimp only
  rw [h5, Option.bind_some]
  dsimp only
  rw [hf a r h2, Option.bind_some]
  dsimp only
  rw [if_pos (hn r), h7]; rfl
/-- where the parts handed are whole -/
theorem ee_call0 {f : FMu} {as : List As} {ds : List D} {is : List D} {Pi : Pat} {t : Option ρ} {dr : ρ → D} {os : ρ → List D} {Pf : ρ → Pat} (hm : Mt P env) (hs : ((muS as ++ boS as).all fun i => (P[i]?.join).isSome) = true) (ha : EA as env (some ()) (fun _ => (ds, P)))
    (hi : insA as ds P = some (is, Pi)) (hf : ∀ r, t = some r → f is = some (dr r, os r)) (hn : ∀ r, ((dr r).noF && noFL (os r)) = true) (hp : ∀ r, putA as (os r) Pi = some (Pf r)) : EE (eCallM f as) env t (fun r => (dr r, Pf r)) :=
  ee_call (t := fun _ : Unit => t) (ds := fun _ => ds) (Pa := fun _ => P) (is := fun _ => is) (Pi := fun _ => Pi) hm hs ha (fun _ => hi) (fun _ => hf) hn (fun _ => hp)

/-! ### a loop that changes what it goes over -/
theorem s_forM {j : Nat} {mb : SM} {xs : List α} {s0 : σ} {f : σ → α → Option (σ × α)} {Pl : σ → Pat} (hm : Mt P env) (e : P[i]? = some (some (cL .o c xs))) (h : ∀ e, Mt (P.set i none) e → Mt (Pl s0) e)
    (hs : ∀ s x e, Mt ((Pl s).set j (some (c x))) e → ES mb e (f s x) (fun _ fl => fl = .nx ∨ fl = .ct) (fun r => (Pl r.1).set j (some (c r.2)))) (hj : ∀ s, j < (Pl s).length) (hn : ∀ s, (Pl s).set j none = Pl s) :
    ES (sForM i j mb) env (forW xs s0 f) (fun _ fl => fl = .nx) (fun r => (Pl r.1).set i (some (cL .o c r.2))) := fun r hr => by
  have key : ∀ (xs : List α) (s0 : σ) (env : Env) (done : List D) (r : σ × List α), Mt (Pl s0) env → forW xs s0 f = some r → ∃ e, forMD j mb done (xs.map c) env = some (done ++ r.2.map c, e) ∧ Mt (Pl r.1) e := fun xs => by
    induction xs with
    | nil =>
      intro s0 env done r h hr
      cases hr
      exact ⟨env, by rw [List.map_nil, forMD]; simp, h⟩
    | cons x xs ih =>
      intro s0 env done r h hr
      rw [forW] at hr
      obtain ⟨r1, h1, hr⟩ := bsome hr
      obtain ⟨r2, h2, hr⟩ := bsome hr
      cases hr
      obtain ⟨fl, e1, g1, g2, g3⟩ := hs s0 x (env.set j (some (c x))) h.set r1 h1
      have g4 : e1[j]?.join = some (c r1.2) := g3.join (by rw [List.getElem?_set, if_pos rfl, if_pos (hj r1.1)])
      have g6 : Mt (Pl r1.1) (e1.set j none) := by
        have := g3.set (i := j) (o := none)
        rw [List.set_set, hn] at this
        exact this
      obtain ⟨e2, g7, g8⟩ := ih r1.1 (e1.set j none) (done ++ [c r1.2]) r2 g6 h2
      refine ⟨e2, ?_, g8⟩
      rw [List.map_cons, forMD, g1, Option.bind_some]
      rcases g2 with rfl | rfl
      · dsimp only
        rw [g4, Option.bind_some, g7]; simp
      · dsimp only
        rw [g4, Option.bind_some, g7]; simp
  obtain ⟨e1, g1, g2⟩ := key xs s0 (env.set i none) [] r (h _ hm.set) hr
  refine ⟨.nx, _, ?_, rfl, g2.set⟩
  unfold sForM
  rw [hm.join e, Option.bind_some]
  show Option.map _ (forMD j mb [] (xs.map c) (env.set i none)) = _
  rw [g1]; rfl

/-! ### dicts -/
section
variable {κ ν : Type} [DecidableEq κ]
/-- keys; what is kept by them -/
def cD (o : Fl) (ck : κ → Key) (cv : ν → V) (kvs : List (κ × ν)) : D := dicD o (kvs.map fun e => (ck e.1, cv e.2))
def ckI (x : Int) : Key := .inl x
def ckS (x : Str) : Key := .inr x
def cvI (x : Int) : V := .int x
def cvB (x : Bool) : V := .bl x
class CK (ck : κ → Key) : Prop where
  inj : ∀ a b, ck a = ck b → a = b
class CV (cv : ν → V) : Prop where
  sc : ∀ x, scl (cv x) = true
instance : CK ckI := ⟨fun a b h => by cases h; rfl⟩
instance : CK ckS := ⟨fun a b h => by cases h; rfl⟩
instance : CV cvI := ⟨fun _ => rfl⟩
instance : CV cvB := ⟨fun _ => rfl⟩
variable {ck : κ → Key} {cv : ν → V} {kvs : List (κ × ν)} {k : κ} {w : ν} {o : Fl} {dk : D}
theorem valV_cod [CK ck] (kvs : List (κ × ν)) (k : κ) : valV (kvs.map fun e => (ck e.1, cv e.2)) (ck k) = (dget kvs k).map cv := dget_map (f := ck) (g := cv) CK.inj kvs k
theorem sclD_cod [CV cv] : ∀ kvs : List (κ × ν), sclD (kvs.map fun e => D.s (cv e.2)) = some (kvs.map fun e => cv e.2)
  | [] => rfl
  | e :: kvs => by rw [List.map_cons, sclD, if_pos (CV.sc e.2), sclD_cod kvs]; rfl
theorem dicP_cod [CV cv] (hn : nw o = true) (kvs : List (κ × ν)) : dicP (cD o ck cv kvs) = some (kvs.map fun e => (ck e.1, cv e.2)) := by
  unfold cD dicD dicP
  dsimp only
  rw [List.map_map, List.map_map, if_pos (by rw [hn, List.length_map, List.length_map]; simp)]
  rw [show (kvs.map ((fun p : Key × V => D.s p.2) ∘ fun e => (ck e.1, cv e.2))) = kvs.map fun e => D.s (cv e.2) from rfl, sclD_cod, Option.map_some]
  congr 1
  clear hn
  induction kvs with
  | nil => rfl
  | cons e r ih => rw [List.map_cons, List.map_cons, List.map_cons, List.zip_cons_cons, ih]; rfl
theorem e_din [CK ck] [CV cv] (h1 : ma env = some dk) (h2 : mb env = some (cD o ck cv kvs)) (hk : keyD dk = some (ck k)) (hn : nw o = true := by rfl) : mDin ma mb env = some (decide (dhas kvs k = true)) := by
  unfold mDin
  rw [h1, Option.bind_some, h2, Option.bind_some, hk, Option.bind_some, dicP_cod hn, Option.map_some, valV_cod, Option.isSome_map, ← dhas_get]
  cases dhas kvs k <;> rfl
theorem e_dnin [CK ck] [CV cv] (h1 : ma env = some dk) (h2 : mb env = some (cD o ck cv kvs)) (hk : keyD dk = some (ck k)) (hn : nw o = true := by rfl) : mDnin ma mb env = some (decide ¬dhas kvs k = true) := by
  unfold mDnin
  rw [h1, Option.bind_some, h2, Option.bind_some, hk, Option.bind_some, dicP_cod hn, Option.map_some, valV_cod, Option.isSome_map, ← dhas_get]
  cases dhas kvs k <;> rfl
theorem v_dget [CK ck] [CV cv] (h1 : ma env = some (cD o ck cv kvs)) (h2 : mb env = some dk) (hk : keyD dk = some (ck k)) (hn : nw o = true := by rfl) : EV (mDget ma mb) env (dget kvs k) (fun x => .s (cv x)) := fun x e => by
  unfold mDget
  rw [h1, Option.bind_some, h2, Option.bind_some, hk, Option.bind_some, dicP_cod hn, Option.bind_some, valV_cod, e]
  show (if _ then _ else _) = _
  exact if_pos (CV.sc x)
theorem putK_cod [CK ck] (kvs : List (κ × ν)) (k : κ) (v : ν) : putK (kvs.map fun e => (ck e.1, cv e.2)) (ck k) (cv v) = (dput kvs k v).map fun e => (ck e.1, cv e.2) := by
  unfold putK dput
  have h1 : ((kvs.map fun e => (ck e.1, cv e.2)).any fun kv => decide (kv.1 = ck k)) = dhas kvs k := by
    unfold dhas
    rw [List.any_map]
    congr 1
    funext e
    show decide (ck e.1 = ck k) = decide (e.1 = k)
    rw [Bool.eq_iff_iff, decide_eq_true_iff, decide_eq_true_iff]
    exact ⟨CK.inj _ _, fun h => by rw [h]⟩
  rw [h1]
  split
  · rw [List.map_map, List.map_map]
    apply List.map_congr_left
    intro e _
    show (if ck e.1 = ck k then (ck e.1, cv v) else (ck e.1, cv e.2)) = (fun e => (ck e.1, cv e.2)) (if e.1 = k then (e.1, v) else e)
    by_cases h : e.1 = k
    · rw [if_pos h, if_pos (by rw [h])]
    · rw [if_neg h, if_neg (fun z => h (CK.inj _ _ z))]
  · rw [List.map_append]; rfl
theorem dropK_cod [CK ck] (kvs : List (κ × ν)) (k : κ) : dropK (kvs.map fun e => (ck e.1, cv e.2)) (ck k) = (ddel kvs k).map fun e => (ck e.1, cv e.2) := by
  unfold dropK ddel
  rw [List.filter_map]
  congr 1
  apply List.filter_congr
  intro e _
  show decide (ck e.1 ≠ ck k) = decide (e.1 ≠ k)
  rw [Bool.eq_iff_iff, decide_eq_true_iff, decide_eq_true_iff]
  exact ⟨fun h z => h (by rw [z]), fun h z => h (CK.inj _ _ z)⟩
theorem dicO_cod [CV cv] (kvs : List (κ × ν)) : dicO (cD .o ck cv kvs) = some (kvs.map fun e => (ck e.1, cv e.2)) := dicP_cod (o := .o) rfl kvs
theorem s_dput [CK ck] [CV cv] {oo : List (κ × ν) → Option β} (hv : m env = some (.s (cv w))) (hm : Mt P env) (e : P[i]? = some (some (cD .o ck cv kvs))) (h1 : ma env = some dk) (hk : keyD dk = some (ck k)) (h2 : ∀ z e, Mt (P.set i (some (cD .o ck cv z))) e → ES n e (oo z) K Q) : ES (sSeq (sDput i ma m) n) env ((dputO kvs k w).bind oo) K Q := ES.bindE fun z hz => by
  unfold dputO at hz
  split at hz
  · rename_i hl
    cases hz
    intro y hy
    obtain ⟨fl, e2, q1, q2⟩ := h2 _ _ (hm.set (i := i) (o := some (cD .o ck cv (dput kvs k w)))) y hy
    refine ⟨fl, e2, ?_, q2⟩
    unfold sSeq sDput
    rw [hv, Option.bind_some, hm.join e, Option.bind_some, h1, Option.bind_some, hk, Option.bind_some, dicO_cod, Option.bind_some]
    dsimp only
    rw [if_pos (by rw [CV.sc, List.length_map]; simpa using hl), putK_cod]; exact q1
  · cases hz
theorem s_ddel [CK ck] [CV cv] {oo : List (κ × ν) → Option β} (hm : Mt P env) (e : P[i]? = some (some (cD .o ck cv kvs))) (h1 : ma env = some dk) (hk : keyD dk = some (ck k)) (h2 : ∀ z e, Mt (P.set i (some (cD .o ck cv z))) e → ES n e (oo z) K Q) : ES (sSeq (sDdel i ma) n) env ((ddelO kvs k).bind oo) K Q := ES.bindE fun z hz => by
  unfold ddelO at hz
  split at hz
  · rename_i hl
    cases hz
    intro y hy
    obtain ⟨fl, e2, q1, q2⟩ := h2 _ _ (hm.set (i := i) (o := some (cD .o ck cv (ddel kvs k)))) y hy
    refine ⟨fl, e2, ?_, q2⟩
    unfold sSeq sDdel
    rw [hm.join e, Option.bind_some, h1, Option.bind_some, hk, Option.bind_some, dicO_cod, Option.bind_some, if_pos (by rw [valV_cod, Option.isSome_map, ← dhas_get]; exact hl), dropK_cod]; exact q1
  · cases hz
theorem e_dnew : (fun _ : Env => some (dicD .o [])) env = some (cD .o ck cv ([] : List (κ × ν))) := rfl
theorem v_dc [CK ck] [CV cv] {g : Tg} {mx mv : PM} {vs : List Nat} {xs : List α} {p : α → Option Bool} {f : α → Option (κ × ν)} {Px : α → Pat} {dx : κ → D} (w : mi env = some (xs.map c)) (h : Mt P env) (hb : ∀ x, BDt g (c x) (wipeD P vs) (Px x)) (ht : ∀ x e, Mt (Px x) e → EVB mt e (p x)) (hk : ∀ k, keyD (dx k) = some (ck k))
    (he : ∀ x e r, Mt (Px x) e → f x = some r → mx e = some (dx r.1) ∧ mv e = some (.s (cv r.2))) : EV (mDc mi g mt mx mv vs) env (dcp xs p f) (cD .o ck cv) := fun x e => by
  unfold dcp at e
  split at e
  · rename_i hl
    unfold mDc
    rw [w, Option.bind_some, if_pos (by rw [List.length_map]; exact hl)]
    have : ∀ (xs : List α) (m r : List (κ × ν)), dcO p f xs m = some r → dcD g mt mx mv (wipeD env vs) (xs.map c) (m.map fun e => (ck e.1, cv e.2)) = some (r.map fun e => (ck e.1, cv e.2)) := fun xs => by
      induction xs with
      | nil => intro m r hy; cases hy; rfl
      | cons x xs ih =>
        intro m r hy
        rw [dcO] at hy
        obtain ⟨b, hb1, hy⟩ := bsome hy
        obtain ⟨e1, g1, g2⟩ := hb x _ h.wipe
        rw [List.map_cons, dcD, g1, Option.bind_some, ht x e1 g2 b hb1, Option.bind_some]
        cases b with
        | true =>
          rw [if_pos rfl] at hy
          obtain ⟨y, hy1, hy⟩ := bsome hy
          obtain ⟨q1, q2⟩ := he x e1 y g2 hy1
          rw [if_pos rfl, q1, Option.bind_some, hk, Option.bind_some, q2, Option.bind_some]
          show Option.bind (if _ then _ else _) _ = _
          rw [if_pos (CV.sc y.2), Option.bind_some, putK_cod]
          exact ih _ r hy
        | false =>
          rw [if_neg (by decide)] at hy
          rw [if_neg (by decide)]
          exact ih m r hy
    have := this xs [] x e
    rw [List.map_nil] at this
    rw [this]; rfl
  · cases e
end
end
end Ow

namespace Ow
open PySem L2 Ty
theorem le_nil : Le [] [] := trivial
theorem le_none {p : Option D} {P P' : Pat} (h : Le P P') : Le (p :: P) (none :: P') := h
theorem le_some {d : D} {P P' : Pat} (h : Le P P') : Le (some d :: P) (some d :: P') := ⟨rfl, h⟩
theorem fz_nil : frzD [] = [] := rfl
theorem fz_cons {α : Type} {c c' : α → D} [Fz c c'] {x : α} {ds ds' : List D} (h : frzD ds = ds') : frzD (c x :: ds) = c' x :: ds' := by rw [frzD, h, Fz.fz (c := c)]
theorem l_nil : ([] : List D) = [] := rfl
theorem l_cons {d d' : D} {ds ds' : List D} (h : d = d') (h2 : ds = ds') : d :: ds = d' :: ds' := by rw [h, h2]
theorem e_cI {env : Env} (i : Int) : mC (.int i) env = some (cI i) := rfl
theorem e_cB {env : Env} (i : Bool) : mC (.bl i) env = some (cB i) := rfl
theorem e_cU {env : Env} : mC .non env = some (cU ()) := rfl
theorem v_pure {α : Type} {env : Env} {m : PM} {o : Option α} {c : α → D} [Pu c] (h : EV m env o c) : EV (mPure m) env o c := fun x e => e_pureC (h x e)
theorem isi_of {d : D} {n T : String} {b : Bool} (h : tyN d = some n) (hk : kitB n T = some b) : isiD T d = some (.bl b) := by
  unfold isiD
  rw [h, Option.bind_some, hk]; rfl
theorem ne_intP (i j : Int) : fNe (cI i) (cI j) = some (.bl (decide (i ≠ j))) := by
  show fNe (.s (.int i)) (.s (.int j)) = _
  rw [ne_int]
  simp
section
variable {α β : Type} {env : Env} {P : Pat} {m mb : PM} {c : α → D} {K : β → O → Prop} {Q : β → Pat} {n : SM} {i : Nat}
/-- an item of a list of unlike parts put anew, and the whole named -/
theorem s_putRn {x x' : α} {y : D} {k : Int} {ds ds' : List D} {o : α → Option β} (hy : m env = some y) (hm : Mt P env) (e : P[i]? = some (some (c x))) (hk : mb env = some (cI k)) (hd : c x = .n (.lst .o) ds) (hd' : ((ixN ds.length k).map fun j => ds.set j y) = some ds') (hx : c x' = .n (.lst .o) ds') (h2 : ∀ z e, Mt (P.set i (some (c z))) e → ES n e (o z) K Q) : ES (sSeq (sPut i (plName i) mb (lift m)) n) env (lt x' o) K Q := s_putR hy hm e hk hd hd' hx (h2 x')
end

/-! ### more rules -/
section
variable {α β γ τ σ ρ ζ : Type} {env : Env} {P : Pat} {m ma mb : PM} {c c' : α → D} {K : β → O → Prop} {Q : β → Pat} {n mS : SM} {me : EM} {i : Nat} {pm : Env → Option (List Nat)} {x : α} {cz : ζ → D}
theorem pick_steps (xs : List α) (lo hi : Option Int) (st : Int) (h : st ≠ 0) : pickG xs lo hi (some st) = (stepsOf xs.length lo hi st).filterMap fun i => xs[i]? := by
  unfold pickG
  congr 1
  unfold pickN stepsOf sliceRange sliceBounds bdS
  by_cases hp : 0 < st
  · cases lo <;> cases hi <;> simp [hp]
  · cases lo <;> cases hi <;> simp [hp]
theorem v_sl3 [Pu c] {o : Fl} {xs : List α} {lo hi st : Env → Option (Option Int)} {a b : Option Int} {z : Int} (h1 : m env = some (cL o c xs)) (h2 : lo env = some a) (h3 : hi env = some b) (h4 : st env = some (some z)) : EV (mSl3 m lo hi st) env (slS xs a b z) (cL .o c) := fun ys e => by
  unfold slS at e
  split at e
  · cases e
  · rename_i hz
    cases e
    unfold mSl3
    rw [h1, Option.bind_some, h2, Option.bind_some, h3, Option.bind_some, h4, Option.bind_some]
    unfold cL
    dsimp only
    rw [pickG_map, pick_steps _ _ _ _ hz, if_pos ⟨fun q => hz (Option.some.inj q), pureL_cod _⟩]
theorem e_disp1 {κ ν : Type} [DecidableEq κ] {ck : κ → Key} {cv : ν → V} [CV cv] {dk : D} {k : κ} {v : ν} (h1 : ma env = some dk) (h2 : mb env = some (.s (cv v))) (hk : keyD dk = some (ck k)) : mD1 ma mb env = some (cD .o ck cv [(k, v)]) := by
  unfold mD1
  rw [h1, Option.bind_some, hk, Option.bind_some, h2, Option.bind_some]
  show Option.map _ (if _ then _ else _) = _
  rw [if_pos (CV.sc v)]; rfl
theorem s_ext [Pu cz] {xs ys : List ζ} {fl : Fl} {o : List ζ → Option β} {up : List ζ → α} (h : PLs pm env i x c xs (cL .o cz) up) (hy : m env = some (cL fl cz ys)) (hm : Mt P env) (hn : nw fl = true) (h2 : ∀ z e, Mt (P.set i (some (c (up z)))) e → ES n e (o z) K Q) : ES (sSeq (sExt i pm m) n) env ((extO xs ys).bind o) K Q := ES.bindE fun z e => by
  unfold extO at e
  split at e
  · rename_i hl
    cases e
    obtain ⟨⟨p, g1, g2, g3⟩, hs⟩ := h
    have g4 := g3 (fun ds => if ds.length + (ys.map cz).length < 16777216 then some (ds ++ ys.map cz) else none) (xs.map cz) ((xs ++ ys).map cz) (xs ++ ys) rfl (by rw [List.length_map, List.length_map, if_pos hl, List.map_append]) rfl
    intro w hw
    obtain ⟨fl2, e2, q1, q2⟩ := h2 _ _ (hm.set (i := i) (o := some (c (up (xs ++ ys))))) w hw
    refine ⟨fl2, e2, ?_, q2⟩
    unfold sSeq sExt
    rw [g1, Option.bind_some, hy, Option.bind_some]
    unfold cL
    dsimp only
    rw [if_pos (by rw [hn, pureL_cod]; rfl), hs, Option.bind_some, g4]; exact q1
  · cases e
theorem s_augP {f : D → D → Option V} {xs : List ζ} {k : Int} {z y : ζ} {de : D} {v : V} {o : List ζ → Option β} {up : List ζ → α} (h : PLs pm env i x c xs (cL .o cz) up) (hk : mb env = some (cI k)) (hz : idx xs k = some z) (hm : Mt P env) (he : m env = some de) (hf : f (cz z) de = some v) (hs : scl v = true) (hy : cz y = .s v) (h2 : ∀ z e, Mt (P.set i (some (c (up z)))) e → ES n e (o z) K Q) : ES (sSeq (sAugP i pm mb f m) n) env (lt (setI xs k y) o) K Q := fun w hw => by
  obtain ⟨⟨p, g1, g2, g3⟩, hs'⟩ := h
  obtain ⟨j, h4, h5⟩ := idx_ix hz
  have g4 := g3 (fun ds => (ixN ds.length k).map fun j => ds.set j (.s v)) (xs.map cz) ((xs.map cz).set j (.s v)) (setI xs k y) rfl (by rw [List.length_map, h4]; rfl) (by rw [setI_ix h4, cL, List.map_set, hy])
  obtain ⟨fl2, e2, q1, q2⟩ := h2 _ _ (hm.set (i := i) (o := some (c (up (setI xs k y))))) w hw
  refine ⟨fl2, e2, ?_, q2⟩
  unfold sSeq sAugP
  rw [g1, Option.bind_some, hk, Option.bind_some]
  show Option.bind (Option.bind (some k) _) _ = _
  rw [Option.bind_some, hs', Option.bind_some, g2, Option.bind_some]
  unfold cL
  dsimp only
  have h6 : atI (xs.map cz) k = some (cz z) := by rw [atI_map, atI_idx, hz]; rfl
  rw [h6, Option.bind_some, he, Option.bind_some, hf, Option.bind_some]
  have h7 : sv v = some (.s v) := if_pos hs
  rw [h7, Option.bind_some, g4]; exact q1
theorem s_augPAdd {xs : List Int} {k z e0 : Int} {o : List Int → Option β} {up : List Int → α} (h : PLs pm env i x c xs (cL .o cI) up) (hk : mb env = some (cI k)) (hz : idx xs k = some z) (hm : Mt P env) (he : m env = some (cI e0)) (h2 : ∀ z e, Mt (P.set i (some (c (up z)))) e → ES n e (o z) K Q) : ES (sSeq (sAugP i pm mb fAdd m) n) env (lt (setI xs k (z + e0)) o) K Q := s_augP h hk hz hm he rfl rfl rfl h2
theorem s_augPSub {xs : List Int} {k z e0 : Int} {o : List Int → Option β} {up : List Int → α} (h : PLs pm env i x c xs (cL .o cI) up) (hk : mb env = some (cI k)) (hz : idx xs k = some z) (hm : Mt P env) (he : m env = some (cI e0)) (h2 : ∀ z e, Mt (P.set i (some (c (up z)))) e → ES n e (o z) K Q) : ES (sSeq (sAugP i pm mb fSub m) n) env (lt (setI xs k (z - e0)) o) K Q := s_augP h hk hz hm he rfl rfl rfl h2
/-- several parts that change things -/
theorem ea_evE2 {as : List As} {oa : Option γ} {ob : γ → Option τ} {da : γ → D} {Pa : γ → Pat} {ds : γ → τ → List D} {Pb : γ → τ → Pat} (hm : EE me env oa (fun a => (da a, Pa a))) (h : ∀ a e, Mt (Pa a) e → EA as e (ob a) (fun b => (ds a b, Pb a b))) : EA (.ev me :: as) env (oa.bind fun a => (ob a).bind fun b => some (a, b)) (fun x => (da x.1 :: ds x.1 x.2, Pb x.1 x.2)) := fun x e => by
  obtain ⟨a, h1, e⟩ := bsome e
  obtain ⟨b, h2, e⟩ := bsome e
  cases e
  obtain ⟨e1, h3, h4⟩ := hm a h1
  obtain ⟨e2, h5, h6⟩ := h a e1 h4 b h2
  exact ⟨e2, by unfold evA; rw [h3, Option.bind_some, h5]; rfl, h6⟩
theorem ee_mk {k : Kd} {as : List As} {oa : Option γ} {ds : γ → List D} {Pa : γ → Pat} (ha : EA as env oa (fun a => (ds a, Pa a))) (hv : allEv as = true := by rfl) (hl : ∀ a, (ds a).length ≤ 16777216 := by exact fun _ => Nat.le_of_ble_eq_true rfl) : EE (eMk k as) env oa (fun a => (.n k (ds a), Pa a)) := fun a h => by
  obtain ⟨e1, h1, h2⟩ := ha a h
  refine ⟨e1, ?_, h2⟩
  unfold eMk
  rw [if_pos hv, h1, Option.bind_some, if_pos (hl a)]
theorem pM_of {f : FM} {ds ds' : List D} {d : D} (h : frzD ds = ds') (h2 : f ds' = some d) : pM f ds = some (d, []) := by
  unfold pM
  rw [h, h2]; rfl
theorem xor_one (i : Int) : Builtin.bitXor i 1 = i + 1 - 2 * (i % 2) := by
  rw [PyProof.Rows.bitXor_and, PyProof.Rows.bitAnd_m1]
theorem e_xorT {i : Int} (h1 : ma env = some (cI i)) (h2 : mb env = some (cI 1)) : mOp2 fXor ma mb env = some (cI (i + 1 - 2 * (i % 2))) := by
  exact e_op2 h1 h2 (by
    show some (V.int (Builtin.bitXor i 1)) = _
    rw [xor_one])
theorem ee_callP {f : FMu} {as : List As} {oa : Option τ} {ds : τ → List D} {Pa : τ → Pat} {is : τ → List D} {t : τ → Option ρ} {dr : ρ → D} (hm : Mt P env) (hs : ((muS as ++ boS as).all fun i => (P[i]?.join).isSome) = true) (ha : EA as env oa (fun a => (ds a, Pa a)))
    (hi : ∀ a, insA as (ds a) (Pa a) = some (is a, Pa a)) (hf : ∀ a r, t a = some r → f (is a) = some (dr r, [])) (hn : ∀ r, (dr r).noF = true) (hp : ∀ a, putA as [] (Pa a) = some (Pa a)) : EE (eCallM f as) env (oa.bind fun a => (t a).bind fun r => some (a, r)) (fun x => (dr x.2, Pa x.1)) := EE.bindE fun a h1 => EE.bindE fun r h2 => fun x hx => by
  cases hx
  obtain ⟨e1, h3, h4⟩ := ha a h1
  obtain ⟨e2, h5, h6⟩ := ins_mt h4 (hi a)
  obtain ⟨e3, h7, h8⟩ := put_mt h6 (hp a)
  refine ⟨e3, ?_, h8⟩
  unfold eCallM
  rw [all_mt hm hs, if_neg (fun z => by cases z), h3, Option.bind_some]
  dsimp only
  rw [h5, Option.bind_some]
  dsimp only
  rw [hf a r h2, Option.bind_some]
  dsimp only
  rw [if_pos (by rw [hn]; rfl), h7]; rfl
theorem s_forE {g : Tg} {mb : SM} [Fz c c'] {oa : Option τ} {xs : τ → List α} {fl : Fl} {Pa : τ → Pat} {o : τ → Option β} (hm : EE me env oa (fun a => (cL fl c (xs a), Pa a))) (h2 : ∀ a e, Mt (Pa a) e → ES (sSeq (sFor (fun _ => some ((xs a).map c')) g mb) n) e (o a) K Q) : ES (sSeq (sForE me g mb) n) env (oa.bind o) K Q := ES.bindE fun a ha => fun w hw => by
  obtain ⟨e1, h3, h4⟩ := hm a ha
  obtain ⟨fl2, e2, q1, q2⟩ := h2 a e1 h4 w hw
  refine ⟨fl2, e2, ?_, q2⟩
  have : sForE me g mb env = sFor (fun _ => some ((xs a).map c')) g mb e1 := by
    unfold sForE sFor
    rw [h3, Option.bind_some]
    dsimp only
    rw [cL, D.frz, frzL_cod]
    rfl
  unfold sSeq at q1 ⊢
  rw [this]; exact q1
theorem ee_pop0 {xs : List ζ} {up : List ζ → α} (h : PLs pm env i x c xs (cL .o cz) up) (hm : Mt P env) : EE (ePop i pm) env (popL xs) (fun r => (cz r.1, P.set i (some (c (up r.2))))) := fun r e => by
  unfold popL at e
  cases hz : xs[xs.length - 1]? with
  | none => rw [hz] at e; cases e
  | some z =>
    rw [hz] at e
    cases e
    obtain ⟨⟨p, g1, g2, g3⟩, hs⟩ := h
    have g4 := g3 (fun _ => some (xs.map cz).dropLast) (xs.map cz) (xs.map cz).dropLast xs.dropLast rfl rfl (by rw [cL, List.map_dropLast])
    refine ⟨_, ?_, hm.set⟩
    unfold ePop
    rw [g1, Option.bind_some, hs, Option.bind_some, g2, Option.bind_some]
    show Option.bind ((xs.map cz)[(xs.map cz).length - 1]?) _ = _
    rw [List.length_map, List.getElem?_map, hz, Option.map_some, Option.bind_some, g4]; rfl
theorem s_asgE {g : Tg} {oa : Option τ} {d : τ → D} {Pa Pb : τ → Pat} {o : τ → Option β} (hm : EE me env oa (fun a => (d a, Pa a))) (hb : ∀ a, BDt g (d a) (Pa a) (Pb a)) (h2 : ∀ a e, Mt (Pb a) e → ES n e (o a) K Q) : ES (sSeq (sAsgE g me) n) env (oa.bind o) K Q := ES.bindE fun a ha => fun w hw => by
  obtain ⟨e1, h3, h4⟩ := hm a ha
  obtain ⟨e2, h5, h6⟩ := hb a e1 h4
  obtain ⟨fl2, e3, q1, q2⟩ := h2 a e2 h6 w hw
  refine ⟨fl2, e3, ?_, q2⟩
  unfold sSeq sAsgE
  rw [h3, Option.bind_some, h5]; exact q1
theorem s_asgL [Pu c] {gs : List Tg} {fl : Fl} {xs : List α} {u : Option τ} {kk : τ → List α} {Pa : τ → Pat} {o : τ → Option β} (hx : m env = some (cL fl c xs)) (hm : Mt P env) (hu : ∀ y, u = some y → xs = kk y) (hb : ∀ y, BDs gs ((kk y).map c) P (Pa y)) (h2 : ∀ a e, Mt (Pa a) e → ES n e (o a) K Q) : ES (sSeq (sAsgL gs m) n) env (u.bind o) K Q := ES.bindE fun y hy => fun w hw => by
  have e := hu y hy
  subst e
  obtain ⟨e1, h3, h4⟩ := (hb y).2 env hm
  obtain ⟨fl2, e3, q1, q2⟩ := h2 y e1 h4 w hw
  refine ⟨fl2, e3, ?_, q2⟩
  unfold sSeq sAsgL
  rw [hx, Option.bind_some]
  unfold cL
  dsimp only
  rw [if_pos ⟨pureL_cod _, (hb y).1.symm⟩, h3]; exact q1
end
section
variable {α β γ τ σ ρ ζ : Type} {env : Env} {P : Pat} {m ma mb : PM} {c c' : α → D} {K : β → O → Prop} {Q : β → Pat} {n mS : SM} {me m1 : EM} {i : Nat}
theorem s_hide {g : Tg} {mb : SM} {xs : List α} {fl : Fl} [Pu c] {ol : Option β} (hm : Mt P env) (e : P[i]? = some (some (cL fl c xs))) (h : ∀ e, Mt (P.set i none) e → ES (sFor (fun _ => some (xs.map c)) g mb) e ol K Q) : ES (sForH i g mb) env ol K (fun r => (Q r).set i (some (cL fl c xs))) := fun x hx => by
  obtain ⟨fl2, e1, h1, h2, h3⟩ := h _ (hm.set (i := i) (o := none)) x hx
  refine ⟨fl2, e1.set i (some (cL fl c xs)), ?_, h2, h3.set⟩
  unfold sForH
  rw [hm.join e, Option.bind_some]
  show Option.bind (some (xs.map c)) _ = _
  rw [Option.bind_some, if_pos (pureL_cod _)]
  unfold sFor at h1
  rw [Option.bind_some, if_pos (pureL_cod _)] at h1
  rw [h1]; rfl
theorem e_frz [Fz c c'] {x : α} (h : m env = some (c x)) : mFrz m env = some (c' x) := by
  unfold mFrz
  rw [h, Option.map_some, Fz.fz (c := c)]
theorem v_frz [Fz c c'] {o : Option α} (h : EV m env o c) : EV (mFrz m) env o c' := fun x e => e_frz (h x e)
theorem ee_frz [Fz c c'] {o : Option β} {x : β → α} {Pa : β → Pat} (h : EE me env o (fun a => (c (x a), Pa a))) : EE (eFrz me) env o (fun a => (c' (x a), Pa a)) := fun a e => by
  obtain ⟨e1, h1, h2⟩ := h a e
  exact ⟨e1, by unfold eFrz; rw [h1, Option.map_some]; dsimp only; rw [Fz.fz (c := c)], h2⟩
/-- a part that is whole, though it changes things -/
def ET1 (m : EM) (env : Env) (d : D) (P1 : Pat) : Prop := ∃ e, m env = some (d, e) ∧ Mt P1 e
theorem t1_move {d : D} (hm : Mt P env) (e : P[i]? = some (some d)) : ET1 (eMove i) env d (P.set i none) := ⟨_, by unfold eMove; rw [hm.join e]; rfl, hm.set⟩
theorem t1_lift {d : D} (hm : Mt P env) (h : m env = some d) : ET1 (lift m) env d P := ⟨env, by unfold lift; rw [h]; rfl, hm⟩
theorem ee_cat {P1 : Pat} {fl fl2 : Fl} {xs : List α} {oy : Option (List α)} {mr : PM} (hl : ET1 m1 env (cL fl c xs) P1) (hr : ∀ e, Mt P1 e → EV mr e oy (cL fl2 c)) (hn : (nw fl && nw fl2) = true := by rfl) : EE (eCat m1 (lift mr)) env (oy.bind fun ys => cat xs ys) (fun z => (cL .o c z, P1)) := EE.bindE fun ys hy => fun z hz => by
  obtain ⟨e1, h1, h2⟩ := hl
  refine ⟨e1, ?_, h2⟩
  unfold cat at hz
  split at hz
  · rename_i hlen
    cases hz
    unfold eCat lift
    rw [h1, Option.bind_some]
    dsimp only
    rw [hr e1 h2 ys hy, Option.map_some, Option.bind_some]
    have : fCat (cL fl c xs) (cL fl2 c ys) = some ((xs ++ ys).map c) := by
      unfold fCat cL
      dsimp only
      rw [if_pos (by rw [hn]; simpa using hlen), List.map_append]
    dsimp only
    rw [this]; rfl
  · cases hz
theorem ee_itemM {P1 : Pat} {fl : Fl} {xs : List α} {k : Int} (hl : ET1 m1 env (cL fl c xs) P1) (hr : ∀ e, Mt P1 e → mb e = some (cI k)) : EE (eItemM m1 (lift mb)) env (idx xs k) (fun z => (c z, P1)) := fun z hz => by
  obtain ⟨e1, h1, h2⟩ := hl
  refine ⟨e1, ?_, h2⟩
  unfold eItemM lift
  rw [h1, Option.bind_some]
  dsimp only
  rw [hr e1 h2, Option.map_some, Option.bind_some]
  have : fItem (cL fl c xs) (cI k) = some (c z) := by
    show atI (xs.map c) k = _
    rw [atI_map, atI_idx, hz]; rfl
  dsimp only
  rw [this]; rfl
/-- a tuple, a list of whole parts, some of them moved -/
theorem ea_evT {as : List As} {d : D} {ds : List D} {P1 P2 : Pat} (hm : ET1 me env d P1) (h : ∀ e, Mt P1 e → EA as e (some ()) (fun _ => (ds, P2))) : EA (.ev me :: as) env (some ()) (fun _ => (d :: ds, P2)) := fun x _ => by
  obtain ⟨e1, h1, h2⟩ := hm
  obtain ⟨e2, h3, h4⟩ := h e1 h2 () rfl
  exact ⟨e2, by unfold evA; rw [h1, Option.bind_some, h3]; rfl, h4⟩
theorem s_setU {j : Nat} {τ : Type} {ct : τ → D} {a : τ} {o : τ → Option β} {P1 : Pat} (hm : EE me env (some ()) (fun _ => (ct a, P1))) (h2 : ∀ a e, Mt (P1.set i (some (ct a))) e → ES n e (o a) K Q) : ES (sSeq (sSet i me) n) env (lt a o) K Q := fun w hw => by
  obtain ⟨e1, h3, h4⟩ := hm () rfl
  obtain ⟨fl, e2, q1, q2⟩ := h2 a _ h4.set w hw
  exact ⟨fl, e2, by unfold sSeq sSet; rw [h3]; exact q1, q2⟩
theorem s_retU {w : β} {d : D} {P1 : Pat} (hm : EE me env (some ()) (fun _ => (d, P1))) (h : ∀ e, Mt P1 e → Mt (Q w) e) (hK : K w (.rt d)) : ES (sRet me) env (some w) K Q := fun x hx => by
  cases hx
  obtain ⟨e1, h3, h4⟩ := hm () rfl
  exact ⟨_, e1, by unfold sRet; rw [h3]; rfl, hK, h e1 h4⟩
theorem ee_tup2U {d1 d2 : D} {m2 : EM} {P1 P2 : Pat} (ha : ET1 m1 env d1 P1) (hb : ∀ e, Mt P1 e → ET1 m2 e d2 P2) : EE (eTup2 m1 m2) env (some ()) (fun _ => (.n .tup [d1, d2], P2)) := fun x _ => by
  obtain ⟨e1, h1, h2⟩ := ha
  obtain ⟨e2, h3, h4⟩ := hb e1 h2
  exact ⟨e2, by unfold eTup2; rw [h1, Option.bind_some, h3]; rfl, h4⟩
end
section
variable {α : Type}
def kk2 (y : α × α) : List α := [y.1, y.2]
def kk3 (y : α × α × α) : List α := [y.1, y.2.1, y.2.2]
def kk4 (y : α × α × α × α) : List α := [y.1, y.2.1, y.2.2.1, y.2.2.2]
def kk5 (y : α × α × α × α × α) : List α := [y.1, y.2.1, y.2.2.1, y.2.2.2.1, y.2.2.2.2]
def kk6 (y : α × α × α × α × α × α) : List α := [y.1, y.2.1, y.2.2.1, y.2.2.2.1, y.2.2.2.2.1, y.2.2.2.2.2]
theorem un2_kk {xs : List α} : ∀ y, un2 xs = some y → xs = kk2 y := fun y h => by
  unfold un2 at h
  split at h <;> first | (cases h; rfl) | cases h
theorem un3_kk {xs : List α} : ∀ y, un3 xs = some y → xs = kk3 y := fun y h => by
  unfold un3 at h
  split at h <;> first | (cases h; rfl) | cases h
theorem un4_kk {xs : List α} : ∀ y, un4 xs = some y → xs = kk4 y := fun y h => by
  unfold un4 at h
  split at h <;> first | (cases h; rfl) | cases h
theorem un5_kk {xs : List α} : ∀ y, un5 xs = some y → xs = kk5 y := fun y h => by
  unfold un5 at h
  split at h <;> first | (cases h; rfl) | cases h
theorem un6_kk {xs : List α} : ∀ y, un6 xs = some y → xs = kk6 y := fun y h => by
  unfold un6 at h
  split at h <;> first | (cases h; rfl) | cases h
end
end Ow

namespace Ow
open PySem L2 Ty
section
variable {κ ν : Type} [DecidableEq κ] {env : Env} {m : PM} {ck : κ → Key} {cv : ν → V} {o : Fl}
theorem e_lenD [CV cv] {kvs : List (κ × ν)} (h : m env = some (cD o ck cv kvs)) (hn : nw o = true := by rfl) : mCall fLenD (lCons m lNil) env = some (cI kvs.length) := e_call1 h (by rw [fLenD, dicP_cod hn, Option.map_some, List.length_map])
end
section
variable {env : Env} {ma mb : PM}
theorem notB_ok (x y : Bool) : fNotB (cB x) (cB y) = some (.bl (decide (x ≠ y))) := by cases x <;> cases y <;> rfl
theorem e_isB {x y : Bool} (h1 : ma env = some (cB x)) (h2 : mb env = some (cB y)) : mOp2 fIsB ma mb env = some (cB (decide (x = y))) := e_op2 h1 h2 rfl
theorem e_notB {x y : Bool} (h1 : ma env = some (cB x)) (h2 : mb env = some (cB y)) : mOp2 fNotB ma mb env = some (cB (decide (x ≠ y))) := e_op2 h1 h2 (notB_ok x y)
end
section
variable {β ζ ζ0 τ : Type} {env : Env} {P : Pat} {me : EM} {K : β → O → Prop} {Q : β → Pat} {n : SM} {i : Nat} {c0 : ζ0 → D} {cz : ζ → D} {xs0 : List ζ0}
theorem s_appN {oy : Option τ} {y : τ → ζ} {xs : τ → List ζ} {Py : τ → Pat} {o : τ → List ζ → Option β} (hm : Mt P env) (e0 : P[i]? = some (some (cL .o c0 xs0))) (hy : EE me env oy (fun a => (cz (y a), Py a))) (hP : ∀ a, (Py a)[i]? = some (some (cL .o cz (xs a))))
    (h2 : ∀ a z e, Mt ((Py a).set i (some (cL .o cz z))) e → ES n e (o a z) K Q) : ES (sSeq (sAppN i me) n) env (oy.bind fun a => (app (xs a) (y a)).bind (o a)) K Q := ES.bindE fun a ha => ES.bindE fun z e => by
  unfold app at e
  split at e
  · rename_i hl
    cases e
    obtain ⟨e1, f1, f2⟩ := hy a ha
    intro w hw
    obtain ⟨fl, e2, q1, q2⟩ := h2 a _ _ (f2.set (i := i) (o := some (cL .o cz (xs a ++ [y a])))) w hw
    refine ⟨fl, e2, ?_, q2⟩
    unfold sSeq sAppN
    rw [hm.join e0, Option.bind_some]
    have g0 : modD [] some (cL .o c0 xs0) = some (cL .o c0 xs0) := rfl
    rw [g0, Option.bind_some, f1, Option.bind_some]
    dsimp only
    rw [f2.join (hP a), Option.bind_some]
    have g4 : modD [] (fun ds => if ds.length < 16777216 then some (ds ++ [cz (y a)]) else none) (cL .o cz (xs a)) = some (cL .o cz (xs a ++ [y a])) := by
      rw [cL, modD, List.length_map, if_pos hl, Option.map_some, cL, List.map_append]; rfl
    rw [g4]; exact q1
  · cases e
end
section
variable {κ ν : Type} {ck : κ → Key} {cv : ν → V}
theorem frzD_sc : ∀ kvs : List (Key × V), frzD (kvs.map fun p => D.s p.2) = kvs.map fun p => D.s p.2
  | [] => rfl
  | v :: vs => by rw [List.map_cons, frzD, frzD_sc vs]; rfl
instance : Fz (cD .o ck cv) (cD .s ck cv) := ⟨fun x => by rw [cD, dicD, D.frz, frzD_sc]; rfl⟩
instance : Fz (cD .s ck cv) (cD .s ck cv) := ⟨fun x => by rw [cD, dicD, D.frz, frzD_sc]; rfl⟩
end
section
variable {κ ν : Type} [DecidableEq κ] {env : Env} {ma mb : PM} {ck : κ → Key} {cv : ν → V} {o : Fl} {dk : D}
theorem noFL_sc : ∀ kvs : List (Key × V), noFL (kvs.map fun p => D.s p.2) = true
  | [] => rfl
  | v :: vs => by rw [List.map_cons, noFL, noFL_sc vs]; rfl
instance : NoF (cD .o ck cv) := ⟨fun x => by rw [cD, dicD, D.noF, noFL_sc]; rfl⟩
theorem v_dgetI [CK ck] {kvs : List (κ × Int)} {k : κ} (h1 : ma env = some (cD o ck cvI kvs)) (h2 : mb env = some dk) (hk : keyD dk = some (ck k)) (hn : nw o = true := by rfl) : EV (mDget ma mb) env (dget kvs k) cI := v_dget (cv := cvI) h1 h2 hk hn
theorem v_dgetB [CK ck] {kvs : List (κ × Bool)} {k : κ} (h1 : ma env = some (cD o ck cvB kvs)) (h2 : mb env = some dk) (hk : keyD dk = some (ck k)) (hn : nw o = true := by rfl) : EV (mDget ma mb) env (dget kvs k) cB := v_dget (cv := cvB) h1 h2 hk hn
end
end Ow

namespace Ty
def once (xs : List Int) : List Int := xs.foldl (fun l x => if x ∈ l then l else l ++ [x]) []
/-- len(set(xs)) -/
@[irreducible] def dist (xs : List Int) : Option Int := if xs.length < 4000 then some ((once xs).length : Int) else none
theorem dist_ok {xs : List Int} (h : xs.length < 4000) : dist xs = some ((once xs).length : Int) := by unfold dist; rw [if_pos h]
end Ty

namespace Ow
open PySem L2 Ty
theorem metL_eq (ns : List Int) : metL ns = once ns := by
  have e : (List.range ns.length).map (fun i => ns.getD i 0) = ns := by
    apply List.ext_getElem?
    intro i
    rw [List.getElem?_map]
    by_cases h : i < ns.length
    · rw [List.getElem?_range h, Option.map_some, List.getD, List.getElem?_eq_getElem h]; rfl
    · rw [List.getElem?_eq_none (by rw [List.length_range]; omega), List.getElem?_eq_none (by omega)]; rfl
  unfold metL PyProof.Rows.firstMet once
  rw [e]
  have : ∀ (xs l : List Int), xs.foldl PyProof.Rows.step_dedup l = xs.foldl (fun l x => if x ∈ l then l else l ++ [x]) l := fun xs => by
    induction xs with
    | nil => intro l; rfl
    | cons x xs ih =>
      intro l
      rw [List.foldl_cons, List.foldl_cons]
      have : PyProof.Rows.step_dedup l x = if x ∈ l then l else l ++ [x] := by
        unfold PyProof.Rows.step_dedup
        by_cases h : x ∈ l
        · rw [if_pos h, if_pos (by rw [List.any_eq_true]; exact ⟨x, h, by simp⟩)]
        · rw [if_neg h, if_neg (by rw [List.any_eq_true]; rintro ⟨y, hy, e⟩; exact h (by rw [← eq_of_beq e]; exact hy))]
      rw [this]; exact ih _
  exact this ns []
theorem v_dist {env : Env} {m : PM} {o : Fl} {xs : List Int} (h : m env = some (cL o cI xs)) : EV (mCall fDist (lCons m lNil)) env (dist xs) cI := fun x e => e_call1 h (by
  unfold dist at e
  split at e
  · rename_i hl
    cases e
    unfold fDist
    rw [li_cod, Option.bind_some, if_pos hl, metL_eq]
  · cases e)
end Ow

namespace Ow
open PySem L2 Ty
section
variable {ν : Type} {env : Env} {m : PM} {cv : ν → V} {o : Fl}
theorem intKs_cod : ∀ kvs : List (Int × ν), intKs (kvs.map fun e => (ckI e.1, cv e.2)) = some (kvs.map (·.1))
  | [] => rfl
  | e :: r => by
    rw [List.map_cons]
    show (intKs (r.map fun e => (ckI e.1, cv e.2))).map (e.1 :: ·) = _
    rw [intKs_cod r]; rfl
theorem e_sortD [CV cv] {kvs : List (Int × ν)} (h : m env = some (cD o ckI cv kvs)) (hn : nw o = true := by rfl) : mCallL fSortD (lCons m lNil) env = some (cL .o cI (Ty.srt (kvs.map (·.1)))) := e_callL (e_cons h e_nil) (by
  have q : ∀ d : D, fSortD [d] = (dicP d).bind fun kvs => (intKs kvs).map fun ns => (srt ns).map fun i => .s (.int i) := fun _ => rfl
  rw [q, dicP_cod hn, Option.bind_some, intKs_cod]; rfl) (pureL_cod _)
end
end Ow

namespace Ow
open PySem L2 Ty
section
variable {α β : Type} {env : Env} {P : Pat} {m : PM} {K : α → O → Prop} {Q : α → Pat} {n : SM} {o : Option α} {d : D}
/-- a call for its refusals alone -/
theorem s_dropP (hm : m env = some d) (h : Mt P env) (h2 : ∀ e, Mt P e → ES n e o K Q) : ES (sSeq (sDrop (lift m)) n) env o K Q := fun x e => by
  obtain ⟨fl, e2, h8, h9⟩ := h2 env h x e
  exact ⟨fl, e2, by unfold sSeq sDrop lift; rw [hm]; exact h8, h9⟩
end
end Ow

namespace Ow
open PySem L2 Ty
section
variable {env : Env} {ma mb : PM} {o : Fl}
theorem e_count {xs : List Int} {i : Int} (h1 : ma env = some (cL o cI xs)) (h2 : mb env = some (cI i)) : mCnt ma mb env = some (cI ((xs.count i : Nat) : Int)) := by
  have q : fCnt (cL o cI xs) (cI i) = some (.int ((xs.count i : Nat) : Int)) := by
    show (intsD (xs.map cI)).map _ = _
    have : intsD (xs.map cI) = some xs := intsD_map xs
    rw [this]; rfl
  unfold mCnt
  rw [h1, Option.bind_some, h2, Option.bind_some, q]; rfl
end
end Ow

namespace Ty
/-- what a def that may raise tells -/
inductive Rx (α : Type) where
  | ok (a : α)
  | ex (n : String)
/-- go on, or raise on -/
def bx {α β : Type} (o : Option (Rx α)) (f : α → Option β) (w : String → β) : Option β := o.bind fun r => match r with
  | .ok a => f a
  | .ex n => some (w n)
def okX {α : Type} (o : Option (Rx α)) : Option α := o.bind fun r => match r with
  | .ok a => some a
  | .ex _ => none
def mapX {α β : Type} (o : Option (Rx α)) (f : α → β) : Option (Rx β) := o.map fun r => match r with
  | .ok a => .ok (f a)
  | .ex n => .ex n
/-- which classes stand beneath d, of the known ones -/
def tabS (R : List String) (d : String) (n : String) : Option Bool := if n ∈ R then some (n == d || d == "FloorError" || d == "ValueError") else none
/-- behind try: go on, be done, or the clauses -/
def tryL {σ ρ : Type} (o : Option (Lp σ (Rx ρ))) (h : String → Option (Lp σ ρ)) : Option (Lp σ ρ) := o.bind fun r => match r with
  | .go s => some (.go s)
  | .br s => some (.go s)
  | .rt (.ok r) => some (.rt r)
  | .rt (.ex n) => h n
@[simp] theorem bx_ok {α β : Type} {a : α} {f : α → Option β} {w : String → β} : bx (some (.ok a)) f w = f a := rfl
@[simp] theorem bx_ex {α β : Type} {n : String} {f : α → Option β} {w : String → β} : bx (some (.ex n)) f w = some (w n) := rfl
@[simp] theorem okX_ok {α : Type} {a : α} : okX (some (.ok a)) = some a := rfl
@[simp] theorem mapX_ok {α β : Type} {a : α} {f : α → β} : mapX (some (.ok a)) f = some (.ok (f a)) := rfl
@[simp] theorem mapX_ex {α β : Type} {n : String} {f : α → β} : mapX (some (.ex n)) f = some (.ex n) := rfl
@[simp] theorem tryL_go {σ ρ : Type} {s : σ} {h : String → Option (Lp σ ρ)} : tryL (some (.go s)) h = some (.go s) := rfl
@[simp] theorem tryL_rt {σ ρ : Type} {r : ρ} {h : String → Option (Lp σ ρ)} : tryL (some (.rt (.ok r))) h = some (.rt r) := rfl
@[simp] theorem tryL_ex {σ ρ : Type} {n : String} {h : String → Option (Lp σ ρ)} : tryL (some (.rt (.ex n))) h = h n := rfl
/-- texts, by their signs' numbers -/
def okT (xs : List Nat) : Bool := xs.all (decide <| · < 1114112)
def Txt := {xs : List Nat // okT xs = true}
instance : DecidableEq Txt := fun a b => if h : a.1 = b.1 then isTrue (Subtype.ext h) else isFalse fun q => h (congrArg (·.1) q)
end Ty
namespace Ty
/-- ints that an f-string writes -/
def fb (xs : List Int) : Option Unit := if ∀ i ∈ xs, i.natAbs < 2 ^ 250 then some () else none
theorem fb_ok {xs : List Int} (h : ∀ i ∈ xs, i.natAbs < 2 ^ 250) : fb xs = some () := if_pos h
end Ty
namespace Ty
/-- int(a truth) -/
def b2i (b : Bool) : Int := if b = true then 1 else 0
@[simp] theorem b2i_t : b2i true = 1 := rfl
@[simp] theorem b2i_f : b2i false = 0 := rfl
end Ty

namespace Ow
open PySem L2 Ty
section
variable {α β γ σ ρ τ : Type}
def cX (c : α → D) : Rx α → D
  | .ok a => c a
  | .ex n => .s (.ty n)
/-! texts; a text or another thing -/
def mkS (xs : List Nat) : Str := ⟨xs.toArray⟩
def cS (x : Txt) : D := .s (.str (mkS x.1))
instance : Pu cS := ⟨fun _ => rfl⟩
instance : NoF cS := ⟨fun _ => rfl⟩
instance : Fz cS cS := ⟨fun _ => rfl⟩
instance : Nx cS := ⟨fun _ => rfl⟩
def cW (s : Str) (c : α → D) : Option α → D
  | none => .s (.str s)
  | some a => c a
instance {s : Str} {c : α → D} [Pu c] : Pu (cW s c) := ⟨fun x => by cases x <;> first | rfl | exact Pu.pu (c := c) _⟩
instance {s : Str} {c : α → D} [NoF c] : NoF (cW s c) := ⟨fun x => by cases x <;> first | rfl | exact NoF.no (c := c) _⟩
instance {s : Str} {c c' : α → D} [Fz c c'] : Fz (cW s c) (cW s c') := ⟨fun x => by cases x <;> first | rfl | exact Fz.fz (c := c) _⟩
instance {κ ν : Type} {o : Fl} {ck : κ → Key} {cv : ν → V} : Nx (cD o ck cv) := ⟨fun _ => rfl⟩
instance {s : Str} {c : α → D} [Nx c] : Nx (cW s c) := ⟨fun x => by cases x <;> first | rfl | exact Nx.nx (c := c) _⟩
def pS (x : Txt) : PyData := .str (mkS x.1)
theorem mkS_inj {x y : List Nat} : mkS x = mkS y ↔ x = y := by
  constructor
  · intro h
    have h := congrArg (fun s : Str => s.cps.toList) h
    simpa [mkS] using h
  · intro h; rw [h]
instance : Pd pS := ⟨0, fun x => by
  have := x.2
  show PyData.strOk (mkS x.1) = true
  unfold PyData.strOk mkS
  simpa [okT] using this, fun _ => Nat.le_refl _, fun x y => by
  simp only [pS, PyData.eqv, beq_iff_eq, mkS_inj]
  exact ⟨fun h => Subtype.ext h, fun h => by rw [h]⟩⟩
instance : Dt cS pS := ⟨fun _ => rfl⟩
class StrOk (s : Str) : Prop where
  ok : PyData.strOk s = true
/-- never a text, never None -/
class Pn (p : α → PyData) : Prop where
  s1 : ∀ x s, PyData.eqv (p x) (.str s) = false
  s2 : ∀ x s, PyData.eqv (.str s) (p x) = false
  n1 : ∀ x, PyData.eqv (p x) .none = false
  n2 : ∀ x, PyData.eqv .none (p x) = false
instance {p : α → PyData} : Pn (pL p) := ⟨fun _ _ => by simp [pL, PyData.eqv], fun _ _ => by simp [pL, PyData.eqv], fun _ => by simp [pL, PyData.eqv], fun _ => by simp [pL, PyData.eqv]⟩
instance {p : α → List PyData} : Pn (pT p) := ⟨fun _ _ => by simp [pT, PyData.eqv], fun _ _ => by simp [pT, PyData.eqv], fun _ => by simp [pT, PyData.eqv], fun _ => by simp [pT, PyData.eqv]⟩
instance {p : α → List PyData} : Pn (pR p) := ⟨fun _ _ => by simp [pR, PyData.eqv], fun _ _ => by simp [pR, PyData.eqv], fun _ => by simp [pR, PyData.eqv], fun _ => by simp [pR, PyData.eqv]⟩
instance : Pn pI := ⟨fun _ _ => by simp [pI, PyData.eqv], fun _ _ => by simp [pI, PyData.eqv], fun _ => by simp [pI, PyData.eqv], fun _ => by simp [pI, PyData.eqv]⟩
instance : Pn pB := ⟨fun _ _ => by simp [pB, PyData.eqv], fun _ _ => by simp [pB, PyData.eqv], fun _ => by simp [pB, PyData.eqv], fun _ => by simp [pB, PyData.eqv]⟩
def pW (s : Str) (p : α → PyData) : Option α → PyData
  | none => .str s
  | some a => p a
def pO (p : α → PyData) : Option α → PyData
  | none => .none
  | some a => p a
instance {s : Str} {p : α → PyData} [Pd p] [Pn p] [StrOk s] : Pd (pW s p) := ⟨Pd.dep p, fun x => by
  cases x with
  | none => exact StrOk.ok
  | some a => exact Pd.can (p := p) a, fun x => by
  cases x with
  | none => exact Nat.zero_le _
  | some a => exact Pd.deep (p := p) a, fun x y => by
  cases x <;> cases y <;> simp [pW, Pn.s1, Pn.s2, Pd.inj, PyData.eqv]⟩
instance {p : α → PyData} [Pd p] [Pn p] : Pd (pO p) := ⟨Pd.dep p, fun x => by
  cases x with
  | none => rfl
  | some a => exact Pd.can (p := p) a, fun x => by
  cases x with
  | none => exact Nat.zero_le _
  | some a => exact Pd.deep (p := p) a, fun x y => by
  cases x <;> cases y <;> simp [pO, Pn.n1, Pn.n2, Pd.inj, PyData.eqv]⟩
instance {s : Str} {c : α → D} {p : α → PyData} [Dt c p] : Dt (cW s c) (pW s p) := ⟨fun x => by cases x <;> first | rfl | exact Dt.dt (c := c) _⟩
instance {c : α → D} {p : α → PyData} [Dt c p] : Dt (cO c) (pO p) := ⟨fun x => by cases x <;> first | rfl | exact Dt.dt (c := c) _⟩

/-! ### calls that may raise -/
variable {env : Env} {P : Pat} {K : β → O → Prop} {Q : β → Pat} {n mS mb : SM} {me : EM} {m : PM} {ml : LM} {c : α → D} {o : Option β}
theorem ee_callX {f : FM} {ds : List D} {t : Option (Rx α)} (h : ml env = some ds) (hf : ∀ x, t = some x → f (frzD ds) = some (cX c x)) (hm : Mt P env) [NoF c] : EE (eFnX f ml) env t (fun r => (cX c r, P)) := fun x e => by
  refine ⟨env, ?_, hm⟩
  unfold eFnX
  rw [h, Option.bind_some, hf x e, Option.bind_some]
  cases x with
  | ok a => exact if_pos (show ((c a).noF || pureL ds) = true by rw [NoF.no (c := c)]; rfl)
  | ex n => rfl
theorem ee_callXP {f : FM} {ds : List D} {t : Option (Rx α)} (h : ml env = some ds) (hf : ∀ x, t = some x → f (frzD ds) = some (cX c x)) (hm : Mt P env) (hp : pureL ds = true) : EE (eFnX f ml) env t (fun r => (cX c r, P)) := fun x e => by
  refine ⟨env, ?_, hm⟩
  unfold eFnX
  rw [h, Option.bind_some, hf x e, Option.bind_some, hp, Bool.or_true]; rfl
theorem v_fnN {f : FM} {ds : List D} {t : Option (Rx α)} (h : ml env = some ds) (hf : ∀ x, t = some x → f (frzD ds) = some (cX c x)) [NoF c] [Nx c] : EV (mFnN f ml) env (okX t) c := fun x e => by
  unfold okX at e
  obtain ⟨r, h1, h2⟩ := bsome e
  cases r with
  | ex n => cases h2
  | ok a =>
    have h2 : a = x := Option.some.inj h2
    subst h2
    unfold mFnN
    rw [h, Option.bind_some, hf _ h1, Option.bind_some]
    exact if_pos (show (!(c a).isx && ((c a).noF || pureL ds)) = true by rw [NoF.no (c := c), Nx.nx (c := c)]; rfl)
theorem v_fnNP {f : FM} {ds : List D} {t : Option (Rx α)} (h : ml env = some ds) (hf : ∀ x, t = some x → f (frzD ds) = some (cX c x)) [Nx c] (hp : pureL ds = true) : EV (mFnN f ml) env (okX t) c := fun x e => by
  unfold okX at e
  obtain ⟨r, h1, h2⟩ := bsome e
  cases r with
  | ex n => cases h2
  | ok a =>
    have h2 : a = x := Option.some.inj h2
    subst h2
    unfold mFnN
    rw [h, Option.bind_some, hf _ h1, Option.bind_some]
    exact if_pos (show (!(c a).isx && ((c a).noF || pureL ds)) = true by rw [hp, Nx.nx (c := c), Bool.or_true]; rfl)
/-- a pair whose first part may raise -/
theorem ee_tupX {mc : PM} {d2 : γ → D} {g : γ} {t : Option (Rx α)} {Pa : Pat} (h : EE me env t (fun r => (cX c r, Pa))) (h2 : ∀ e, Mt Pa e → mc e = some (d2 g)) [Nx c] : EE (eTupX me mc) env (mapX t fun a => (a, g)) (fun r => (cX (cT (k2 c (k1 d2))) r, Pa)) := fun x e => by
  unfold mapX at e
  cases ht : t with
  | none => rw [ht] at e; cases e
  | some r =>
    rw [ht] at e
    obtain ⟨e1, h3, h4⟩ := h r ht
    cases e
    refine ⟨e1, ?_, h4⟩
    unfold eTupX
    rw [h3, Option.bind_some]
    cases r with
    | ex n => rfl
    | ok a =>
      exact (if_neg (show ¬ (c a).isx = true by rw [Nx.nx (c := c)]; decide)).trans (by rw [h2 e1 h4]; rfl)
theorem s_setX {i : Nat} {Pa : Rx τ → Pat} {ct : τ → D} {oa : Option (Rx τ)} {f : τ → Option β} {w : String → β} (hm : EE me env oa (fun r => (cX ct r, Pa r))) [Nx ct] (h2 : ∀ a e, Mt ((Pa (.ok a)).set i (some (ct a))) e → ES n e (f a) K Q) (h3 : ∀ n e, Mt (Pa (.ex n)) e → Mt (Q (w n)) e) (hK : ∀ n, K (w n) (.rt (.s (.ty n)))) : ES (sSeq (sSetX i me) n) env (bx oa f w) K Q := fun x e => by
  unfold bx at e
  obtain ⟨r, h4, h5⟩ := bsome e
  obtain ⟨e1, h6, h7⟩ := hm r h4
  cases r with
  | ok a =>
    obtain ⟨fl, e2, h8, h9⟩ := h2 a _ h7.set x h5
    have q : sSetX i me env = some (.nx, e1.set i (some (ct a))) := by
      unfold sSetX
      rw [h6]
      exact congrArg some (if_neg (show ¬ (ct a).isx = true by rw [Nx.nx (c := ct)]; decide))
    exact ⟨fl, e2, by unfold sSeq; rw [q]; exact h8, h9⟩
  | ex nm =>
    cases h5
    refine ⟨_, e1, ?_, hK nm, h3 nm e1 h7⟩
    unfold sSeq sSetX
    rw [h6]; rfl
theorem s_dropX {Pa : Rx τ → Pat} {ct : τ → D} {oa : Option (Rx τ)} {f : τ → Option β} {w : String → β} (hm : EE me env oa (fun r => (cX ct r, Pa r))) [Nx ct] (h2 : ∀ a e, Mt (Pa (.ok a)) e → ES n e (f a) K Q) (h3 : ∀ n e, Mt (Pa (.ex n)) e → Mt (Q (w n)) e) (hK : ∀ n, K (w n) (.rt (.s (.ty n)))) : ES (sSeq (sDropX me) n) env (bx oa f w) K Q := fun x e => by
  unfold bx at e
  obtain ⟨r, h4, h5⟩ := bsome e
  obtain ⟨e1, h6, h7⟩ := hm r h4
  cases r with
  | ok a =>
    obtain ⟨fl, e2, h8, h9⟩ := h2 a _ h7 x h5
    have q : sDropX me env = some (.nx, e1) := by
      unfold sDropX
      rw [h6]
      exact congrArg some (Prod.ext (if_neg (show ¬ (ct a).isx = true by rw [Nx.nx (c := ct)]; decide)) rfl)
    exact ⟨fl, e2, by unfold sSeq; rw [q]; exact h8, h9⟩
  | ex nm =>
    cases h5
    refine ⟨_, e1, ?_, hK nm, h3 nm e1 h7⟩
    unfold sSeq sDropX
    rw [h6]; rfl
theorem s_retX {Pa : Rx τ → Pat} {ct : τ → D} {oa : Option (Rx τ)} {w : Rx τ → β} (hm : EE me env oa (fun r => (cX ct r, Pa r))) (h : ∀ a e, Mt (Pa a) e → Mt (Q (w a)) e) (hK : ∀ a, K (w a) (.rt (cX ct a))) : ES (sRet me) env (oa.bind fun r => some (w r)) K Q := s_retE (k := fun r => (cX ct r, Pa r)) hm h hK
theorem s_raise {nm : String} {om : Option γ} {cg : γ → D} {w : β} (hm : EV m env om cg) (h : Mt (Q w) env) (hK : K w (.rt (.s (.ty nm)))) : ES (sRaise nm m) env (om.bind fun _ => some w) K Q := fun x e => by
  obtain ⟨g, h1, h2⟩ := bsome e
  cases h2
  exact ⟨_, env, by unfold sRaise; rw [hm g h1]; rfl, hK, h⟩
theorem s_raiseC {nm : String} {w : β} {d : D} (hm : m env = some d) (h : Mt (Q w) env) (hK : K w (.rt (.s (.ty nm)))) : ES (sRaise nm m) env (some w) K Q := fun x e => by
  cases e
  exact ⟨_, env, by unfold sRaise; rw [hm]; rfl, hK, h⟩

/-! ### try -/
theorem Mt.gone {i : Nat} (h : Mt P env) (e : P[i]? = some none) : Mt P (env.set i none) := by
  refine ⟨by rw [List.length_set, h.1], fun j d g => ?_⟩
  by_cases q : i = j
  · subst q; rw [e] at g; cases g
  · rw [List.getElem?_set, if_neg q]; exact h.2 j d g
theorem calm_ok {cr : ρ → D} [Nx cr] {x : Lp σ ρ} {fl : O} (h : lpD cr x fl) : calmO fl = some fl := by
  cases x with
  | go s => cases h; rfl
  | br s => cases h; rfl
  | rt r => cases h; exact if_neg (show ¬ (cr r).isx = true by rw [Nx.nx (c := cr)]; decide)
variable {cr : ρ → D} {Pl : σ → Pat} {Pr : ρ → Pat} {ol o1 o2 : Option (Lp σ ρ)}
theorem h_nil {nm : String} : ES (handD [] nm) env (none : Option (Lp σ ρ)) (lpD cr) (lpQ Pl Pr) := fun x e => by cases e
theorem h_only {nm : String} {f : String → Option Bool} {r : List Cl} [Nx cr] (h1 : ES mS env o1 (lpD cr) (lpQ Pl Pr)) (h2 : ES (handD r nm) env o2 (lpD cr) (lpQ Pl Pr)) : ES (handD (.only f mS :: r) nm) env ((f nm).bind fun b => if b = true then o1 else o2) (lpD cr) (lpQ Pl Pr) := fun x e => by
  obtain ⟨b, hb, e⟩ := bsome e
  rw [handD, hb, Option.bind_some]
  cases b with
  | true =>
    rw [if_pos rfl] at e ⊢
    obtain ⟨fl, e1, g1, g2, g3⟩ := h1 x e
    exact ⟨fl, e1, by unfold sCalm; rw [g1, Option.bind_some, calm_ok g2]; rfl, g2, g3⟩
  | false =>
    rw [if_neg (by decide)] at e
    rw [if_neg (by decide)]
    exact h2 x e
theorem h_as {nm : String} {f : String → Option Bool} {r : List Cl} {i : Nat} {ms : String → SM} [Nx cr] (hm : Mt P env) (h1 : ∀ e, Mt (P.set i none) e → ES (ms nm) e o1 (lpD cr) (lpQ Pl Pr)) (hQ : ∀ x e, Mt (lpQ Pl Pr x) e → Mt (lpQ Pl Pr x) (e.set i none)) (h2 : ES (handD r nm) env o2 (lpD cr) (lpQ Pl Pr)) :
    ES (handD (.as f i ms :: r) nm) env ((f nm).bind fun b => if b = true then o1 else o2) (lpD cr) (lpQ Pl Pr) := fun x e => by
  obtain ⟨b, hb, e⟩ := bsome e
  rw [handD, hb, Option.bind_some]
  cases b with
  | true =>
    rw [if_pos rfl] at e ⊢
    obtain ⟨fl, e1, g1, g2, g3⟩ := h1 _ (hm.set (i := i) (o := none)) x e
    exact ⟨fl, e1.set i none, by unfold sCalm; rw [g1, Option.bind_some, calm_ok g2]; rfl, g2, hQ x e1 g3⟩
  | false =>
    rw [if_neg (by decide)] at e
    rw [if_neg (by decide)]
    exact h2 x e
theorem s_try {cs : List Cl} {ob : Option (Lp σ (Rx ρ))} {h : String → Option (Lp σ ρ)} {Pb : Lp σ (Rx ρ) → Pat} [Nx cr] (hb : ES mb env ob (lpD (cX cr)) Pb) (h1 : ∀ s e, Mt (Pb (.go s)) e → Mt (Pl s) e) (h2 : ∀ r e, Mt (Pb (.rt (.ok r))) e → Mt (Pr r) e) (h1b : ∀ s e, Mt (Pb (.br s)) e → Mt (Pl s) e)
    (hh : ∀ nm e, Mt (Pb (.rt (.ex nm))) e → ES (handD cs nm) e (h nm) (lpD cr) (lpQ Pl Pr)) : ES (sTry mb cs) env (tryL ob h) (lpD cr) (lpQ Pl Pr) := fun x e => by
  unfold tryL at e
  obtain ⟨r, h3, h4⟩ := bsome e
  obtain ⟨fl, e1, h5, h6, h7⟩ := hb r h3
  unfold sTry
  rw [h5, Option.bind_some]
  cases r with
  | go s => cases h6; cases h4; exact ⟨.nx, e1, rfl, rfl, h1 s e1 h7⟩
  | br s => cases h6; cases h4; exact ⟨.nx, e1, rfl, rfl, h1b s e1 h7⟩
  | rt r =>
    cases r with
    | ok v =>
      cases h6
      cases h4
      refine ⟨.rt (cr v), e1, ?_, rfl, h2 v e1 h7⟩
      have hx := Nx.nx (c := cr) v
      simp only [cX]
      cases q : cr v with
      | n k ds => rfl
      | s w => cases w <;> first | rfl | (rw [q] at hx; cases hx)
    | ex nm => cases h6; exact hh nm e1 h7 x h4
/-- a def that may raise -/
theorem run_x {k : Nat} {ds : List D} {c : α → D} {Q : Rx α → Pat} {o : Option (Rx α)} (h : ES mS (initD k ds) o (fnK (cX c)) Q) : ∀ x, o = some x → runX k mS ds = some (cX c x) := fun x e => by
  obtain ⟨fl, e1, h1, h2, h3⟩ := h x e
  unfold runX
  rw [h1, Option.bind_some]
  cases fl with
  | rt d => cases h2; rfl
  | nx =>
    have h2 : cX c x = .s .non := h2
    show some (D.s .non) = _
    rw [h2]
  | bk => exact h2.elim
  | ct => exact h2.elim
theorem v_isx {f : String → Option Bool} {nm : String} : EV (mIsX f nm) env (f nm) cB := fun x e => by unfold mIsX; rw [e]; rfl
end
end Ow
namespace Ow
open PySem L2 Ty
section
variable {β : Type} {env : Env} {K : β → O → Prop} {Q : β → Pat}
def FJ (env : Env) : List Fp → List Int → Prop
  | [], [] => True
  | .c x :: ms, is => x.length ≤ 1000 ∧ FJ env ms is
  | .v m :: ms, i :: is => m env = some (cI i) ∧ FJ env ms is
  | _, _ => False
theorem str_len (a b : Str) : (a ++ b).length = a.length + b.length := by
  show (a.cps ++ b.cps).size = _
  rw [Array.size_append]; rfl
theorem fj_ok : ∀ (ms : List Fp) (is : List Int) (acc : Str) (b : Nat), FJ env ms is → (∀ i ∈ is, i.natAbs < 2 ^ 250) → acc.length ≤ b → b + 3000 * ms.length ≤ 16777216 → ∃ out, joinF ms acc env = some out
  | [], is, acc, b, h, hi, ha, hb => ⟨acc, rfl⟩
  | .c x :: ms, is, acc, b, h, hi, ha, hb => by
    have hl := str_len acc x
    have h1 := h.1
    rw [List.length_cons] at hb
    obtain ⟨out, e⟩ := fj_ok ms is (acc ++ x) (b + 1000) h.2 hi (by omega) (by omega)
    exact ⟨out, by rw [joinF, if_pos (by omega)]; exact e⟩
  | .v m :: ms, [], acc, b, h, hi, ha, hb => h.elim
  | .v m :: ms, i :: is, acc, b, h, hi, ha, hb => by
    have h0 : i.natAbs.log2 < 250 := log2_lt (k := 250) (by decide) (by have := hi i (List.mem_cons_self ..); omega)
    have h2 := int_text_length_le (a := i) (k := 1920) (by decide) (by omega)
    have h3 : (toString i : Str).length ≤ 2900 := by
      show (Str.ofString (toString i)).length ≤ 2900
      rw [ofString_length]; omega
    have hl := str_len acc (toString i)
    rw [List.length_cons] at hb
    obtain ⟨out, e⟩ := fj_ok ms is (acc ++ toString i) (b + 2900) h.2 (fun j hj => hi j (List.mem_cons_of_mem _ hj)) (by omega) (by omega)
    refine ⟨out, ?_⟩
    rw [joinF, h.1, Option.bind_some]
    have : fmtD (cI i) = some (Str.ofString (toString i)) := if_pos (by omega)
    rw [this, Option.bind_some, if_pos (by omega)]
    exact e
theorem s_raiseF {nm : String} {ms : List Fp} {is : List Int} {w : β} (h : FJ env ms is) (hm : Mt (Q w) env) (hK : K w (.rt (.s (.ty nm)))) (hl : ms.length ≤ 100 := by decide) : ES (sRaise nm (mFs ms)) env ((fb is).bind fun _ => some w) K Q := fun x e => by
  obtain ⟨u, h1, h2⟩ := bsome e
  cases h2
  unfold fb at h1
  split at h1
  · rename_i hi
    obtain ⟨out, q⟩ := fj_ok ms is Str.empty 0 h hi (Nat.le_refl _) (by omega)
    exact ⟨_, env, by unfold sRaise mFs; rw [q]; rfl, hK, hm⟩
  · cases h1
def tbQ {σ ρ : Type} (Pl : σ → Pat) (Pr : ρ → Pat) (Px : Pat) : Lp σ (Rx ρ) → Pat
  | .go s => Pl s
  | .br s => Pl s
  | .rt (.ok r) => Pr r
  | .rt (.ex _) => Px
theorem s_tryT {σ ρ : Type} {cr : ρ → D} {Pl : σ → Pat} {Pr : ρ → Pat} {Px : Pat} {mb : SM} {cs : List Cl} {ob : Option (Lp σ (Rx ρ))} {h : String → Option (Lp σ ρ)} [Nx cr] (hb : ES mb env ob (lpD (cX cr)) (tbQ Pl Pr Px)) (hh : ∀ nm e, Mt Px e → ES (handD cs nm) e (h nm) (lpD cr) (lpQ Pl Pr)) : ES (sTry mb cs) env (tryL ob h) (lpD cr) (lpQ Pl Pr) :=
  s_try hb (fun _ _ h => h) (fun _ _ h => h) (fun _ _ h => h) hh
theorem e_Bb {env : Env} {m : PM} {b : Bool} (h : m env = some (cB b)) : mB m env = some b := by unfold mB; rw [h]; rfl
end
end Ow
namespace Ow
open PySem L2 Ty
section
variable {α β : Type} {env : Env} {m : PM} {ml : LM}
theorem e_intB {b : Bool} (h : lCons m lNil env = some [cB b]) : mCall fInt1 (lCons m lNil) env = some (cI (b2i b)) := e_call h rfl
theorem e_intI {i : Int} (h : lCons m lNil env = some [cI i]) : mCall fInt1 (lCons m lNil) env = some (cI i) := e_call h rfl
/-- None is not there -/
theorem v_unO {c : α → D} {o : Option α} (h : m env = some (cO c o)) : EV m env o c := fun x e => by rw [h, e]; rfl
theorem v_unW {s : Str} {c : α → D} {o : Option α} (h : m env = some (cW s c o)) : EV m env o c := fun x e => by rw [h, e]; rfl
end
end Ow
namespace Ow
open PySem L2 Ty
section
variable {β : Type} {env : Env} {P : Pat} {K : β → O → Prop} {Q : β → Pat} {n : SM} {m : PM} {o : Option β}
/-- a constant, not named anew -/
theorem s_letK {d : D} {i : Nat} (hm : m env = some d) (h : Mt P env) (h2 : ∀ e, Mt (P.set i (some d)) e → ES n e o K Q) : ES (sSeq (sSet i (lift m)) n) env o K Q := fun x e => by
  obtain ⟨fl, e2, h8, h9⟩ := h2 _ (h.set (o := some d)) x e
  exact ⟨fl, e2, by unfold sSeq sSet lift; rw [hm]; exact h8, h9⟩
end
end Ow
namespace Ow
open PySem L2 Ty
theorem e_isiO {α : Type} {env : Env} {m : PM} {c : α → D} {x : Option α} {T : String} {b : Bool} (h : m env = some (cO c x)) (h1 : isiD T (.s .non) = some (.bl false)) (h2 : ∀ a, isiD T (c a) = some (.bl b)) : mIsi T m env = some (cB (x.isSome && b)) := by
  cases x with
  | none => exact e_isi h h1
  | some a => exact e_isi h (h2 a)
end Ow
namespace Ow
open PySem L2 Ty
/-- None is not there: the name's value narrowed -/
theorem ES.unO {α β : Type} {env : Env} {P : Pat} {K : β → O → Prop} {Q : β → Pat} {mS : SM} {i : Nat} {c : α → D} {x : Option α} {f : α → Option β} (h : Mt P env) (hi : P[i]? = some (some (cO c x))) (k : ∀ a, Mt (P.set i (some (c a))) env → ES mS env (f a) K Q) : ES mS env (x.bind f) K Q := fun y e => by
  obtain ⟨a, h1, h2⟩ := bsome e
  subst h1
  refine k a ⟨by rw [List.length_set]; exact h.1, fun j d g => ?_⟩ y h2
  rw [List.getElem?_set] at g
  by_cases q : i = j
  · subst q
    rw [if_pos rfl] at g
    by_cases l : i < P.length
    · rw [if_pos l] at g
      cases g
      exact h.2 i _ hi
    · rw [if_neg l] at g; cases g
  · rw [if_neg q] at g
    exact h.2 j d g
end Ow
namespace Ow
open PySem L2 Ty
theorem e_chain {env : Env} {f f' : D → D → Option V} {ma mb mc : PM} {p q : Prop} [Decidable p] [Decidable q] {x y z : D} (h1 : ma env = some x) (h2 : mb env = some y) (h3 : mc env = some z) (hf : f x y = some (.bl (decide p))) (hf' : f' y z = some (.bl (decide q))) : mChain f f' ma mb mc env = some (cB (decide (p ∧ q))) := by
  unfold mChain
  rw [h1, Option.bind_some, h2, Option.bind_some, hf, Option.bind_some]
  by_cases hp : p
  · simp only [hp, decide_true, true_and]
    rw [h3, Option.bind_some, hf']; rfl
  · simp only [hp, decide_false, false_and]; rfl
end Ow

namespace Ty
variable {α β : Type}
/-- a list made by going over two, the second one told by the items of the first -/
def lcqO (p : α → Option Bool) (b : α → Option (List β)) : List α → Option (List β)
  | [] => some []
  | x :: xs => (p x).bind fun q => if q = true then (b x).bind fun r => (lcqO p b xs).map (r ++ ·) else lcqO p b xs
@[irreducible] def lcq (xs : List α) (p : α → Option Bool) (b : α → Option (List β)) : Option (List β) := (lcqO p b xs).bind fun rs => if rs.length ≤ 16777216 then some rs else none
end Ty

namespace Ow
open PySem L2 Ty
section
variable {α β γ σ ρ : Type} {env : Env} {P P1 P2 : Pat} {ma mb m : PM} {mt mu : BM} {ml mi : LM} {c c' : α → D} {d : D} {v : V}
theorem EVL.hoistL {oa : Option (List β)} {o : List β → Option (List α)} {c2 : β → D} {mk : LM} (h : EVL mk env oa c2) (k : ∀ a, mk env = some (a.map c2) → EVL ml env (o a) c) : EVL ml env (oa.bind o) c := fun x e => by
  obtain ⟨a, h1, h2⟩ := bsome e
  exact k a (h a h1) x h2
theorem EVL.hoistB {oa : Option Bool} {o : Bool → Option (List α)} (h : EVB mu env oa) (k : ∀ a, mu env = some a → EVL ml env (o a) c) : EVL ml env (oa.bind o) c := fun x e => by
  obtain ⟨a, h1, h2⟩ := bsome e
  exact k a (h a h1) x h2
theorem EVL.bindE {oa : Option γ} {o : γ → Option (List α)} (f : ∀ a, oa = some a → EVL ml env (o a) c) : EVL ml env (oa.bind o) c := fun x e => by
  obtain ⟨a, h1, h2⟩ := bsome e
  exact f a h1 x h2
theorem lcD_of {c2 : β → D} {g : Tg} {me : PM} {vs : List Nat} {p : α → Option Bool} {f : α → Option β} {Px : α → Pat} (h : Mt P env) (hb : ∀ x, BDt g (c x) (wipeD P vs) (Px x)) (ht : ∀ x e, Mt (Px x) e → EVB mt e (p x)) (he : ∀ x e, Mt (Px x) e → EV me e (f x) c2) :
    ∀ {xs : List α} (ys : List β), lcO p f xs = some ys → lcD g mt me (wipeD env vs) (xs.map c) = some (ys.map c2)
  | [], ys, hy => by cases hy; rfl
  | x :: xs, ys, hy => by
    rw [lcO] at hy
    obtain ⟨b, hb1, hy⟩ := bsome hy
    obtain ⟨e1, g1, g2⟩ := hb x _ h.wipe
    rw [List.map_cons, lcD, g1, Option.bind_some, ht x e1 g2 b hb1, Option.bind_some]
    cases b with
    | true =>
      rw [if_pos rfl] at hy
      obtain ⟨y, hy1, hy⟩ := bsome hy
      cases hr : lcO p f xs with
      | none => rw [hr] at hy; cases hy
      | some zs =>
        rw [hr] at hy
        cases hy
        rw [if_pos rfl, he x e1 g2 y hy1, Option.bind_some, lcD_of h hb ht he zs hr]; rfl
    | false =>
      rw [if_neg Bool.false_ne_true] at hy
      rw [if_neg Bool.false_ne_true]
      exact lcD_of h hb ht he ys hy
theorem v_in2 {c2 : β → D} {g : Tg} {me : PM} {vs : List Nat} {xs : List α} {p : α → Option Bool} {f : α → Option β} {Px : α → Pat} (w : mi env = some (xs.map c)) (h : Mt P env) (hb : ∀ x, BDt g (c x) (wipeD P vs) (Px x)) (ht : ∀ x e, Mt (Px x) e → EVB mt e (p x)) (he : ∀ x e, Mt (Px x) e → EV me e (f x) c2) :
    EVL (bdy2 mi g mt me vs) env (lcO p f xs) c2 := fun ys e => by
  unfold bdy2
  rw [w, Option.bind_some]
  exact lcD_of h hb ht he ys e
theorem v_lc2 {c2 : β → D} {g g1 : Tg} {mi1 : LM} {mt1 : BM} {me : PM} {vs vs1 : List Nat} {xs : List α} {p : α → Option Bool} {b : α → Option (List β)} {Px : α → Pat} (w : mi env = some (xs.map c)) (h : Mt P env) (hb : ∀ x, BDt g (c x) (wipeD P vs) (Px x)) (ht : ∀ x e, Mt (Px x) e → EVB mt e (p x)) (he : ∀ x e, Mt (Px x) e → EVL (bdy2 mi1 g1 mt1 me vs1) e (b x) c2) :
    EV (mLc2 mi g mt mi1 g1 mt1 me vs vs1) env (lcq xs p b) (cL .o c2) := fun ys e => by
  unfold lcq at e
  obtain ⟨rs, h1, e⟩ := bsome e
  split at e
  case isFalse => cases e
  rename_i hl
  cases e
  unfold mLc2
  rw [w, Option.bind_some]
  have : ∀ (xs : List α) (ys : List β), lcqO p b xs = some ys → lcD2 g mt (bdy2 mi1 g1 mt1 me vs1) (wipeD env vs) (xs.map c) = some (ys.map c2) := fun xs => by
    induction xs with
    | nil => intro ys hy; cases hy; rfl
    | cons x xs ih =>
      intro ys hy
      rw [lcqO] at hy
      obtain ⟨q, hb1, hy⟩ := bsome hy
      obtain ⟨e1, g1, g2⟩ := hb x _ h.wipe
      rw [List.map_cons, lcD2, g1, Option.bind_some, ht x e1 g2 q hb1, Option.bind_some]
      cases q with
      | true =>
        rw [if_pos rfl] at hy
        obtain ⟨y, hy1, hy⟩ := bsome hy
        cases hr : lcqO p b xs with
        | none => rw [hr] at hy; cases hy
        | some zs =>
          rw [hr] at hy
          cases hy
          rw [if_pos rfl, he x e1 g2 y hy1, Option.bind_some, ih zs hr, Option.map_some, List.map_append]
      | false =>
        rw [if_neg Bool.false_ne_true] at hy
        rw [if_neg Bool.false_ne_true]
        exact ih ys hy
  rw [this xs _ h1, Option.bind_some, if_pos (by rw [List.length_map]; exact hl)]; rfl
/-! ### tuples of one kind of part -/
def cQ (c : α → D) (xs : List α) : D := .n .tup (xs.map c)
instance [Pu c] : Pu (cQ c) := ⟨fun xs => by rw [cQ, D.pure, pureL_cod]; rfl⟩
instance [NoF c] : NoF (cQ c) := ⟨fun xs => by rw [cQ, D.noF, noFL_cod]; rfl⟩
instance [Fz c c'] : Fz (cQ c) (cQ c') := ⟨fun xs => by rw [cQ, D.frz, frzL_cod]; rfl⟩
theorem e_lenQ {xs : List α} (h : m env = some (cQ c xs)) : mCall fLen (lCons m lNil) env = some (cI xs.length) := e_call1 h (by rw [cQ, fLen, List.length_map])
theorem w_Q {xs : List α} (h : m env = some (cQ c xs)) : wT m env = some (xs.map c) := w_T h
end
end Ow

namespace Td
open Ty
def l_least_2 (row : (List Int)) : Option (List Int) :=
 if ((row.length : Int) = 0) then some (([] : (List Int)))
 else (pmin row).bind fun v3 =>
 (ixOf row v3).bind fun at_ =>
 cat (sl row (some at_) none) (sl row none (some at_))
end Td

namespace Td
open Ty
def l_fours (r : Int) (c : Int) (s : Int) : Option (List (List Int)) :=
 lt (([] : (List (List Int))) : (List (List Int))) fun told =>
 (rng 0 r).bind fun xs3 =>
 (forO xs3 (told : ((List (List Int)))) fun s5 x4 =>
 (rng 0 c).bind fun xs8 =>
 (forO xs8 (s5 : ((List (List Int)))) fun s10 x9 =>
 (pmul x4 c).bind fun v15 =>
 lt (v15 + x9 : Int) fun p =>
 (pmul x4 c).bind fun v18 =>
 (pmod (x9 - 1) c).bind fun v19 =>
 lt (v18 + v19 : Int) fun left =>
 lt (p - c : Int) fun down =>
 (if (x4 = 0) then (pmul (r - 1) c).bind fun v24 =>
 (pmod (x9 - s) c).bind fun v25 =>
 lt (v24 + v25 : Int) fun down =>
 some down
 else some down : Option (Int)).bind fun j26 =>
 (pmul 4 p).bind fun v29 =>
 (pmul 4 p).bind fun v30 =>
 (pmul 4 j26).bind fun v31 =>
 (pmul 4 left).bind fun v32 =>
 (Td.l_least_2 [v29 + 2, v30, v31 + 3, v32 + 1]).bind fun r35 =>
 (app s10 r35).bind fun told =>
 some told).bind fun s39 =>
 some s39).bind fun s42 =>
 some (s42)
end Td

namespace Td
open Ty
def l_mixed_2 (cell : Int) (k : Int) (many : Int) : Option Int :=
 (pmul 40503 k).bind fun v3 =>
 (ppow (((cell % 2147483647) + v3) + 17) 5).bind fun v4 =>
 lt (v4 % 2147483647 : Int) fun one =>
 (pmul one (48271 + k)).bind fun v5 =>
 (pmul (v5 % 999999937) 39373).bind fun v6 =>
 pmod (v6 % 2147483629) many
end Td

namespace Td
open Ty
def l_take (box : ((List Int) × Int × Int × Int)) (many : Int) : Option (Int × ((List Int) × Int × Int × Int)) :=
 lt ((box.1, box.2.1, box.2.2.1, box.2.2.2 + 1) : ((List Int) × Int × Int × Int)) fun box =>
 lt (0 : Int) fun cell =>
 if ((box.2.2.1 = 0) ∧ (box.2.1 < (box.1.length : Int))) then (idx box.1 box.2.1).bind fun cell =>
 lt ((box.1, box.2.1 + 1, box.2.2.1, box.2.2.2) : ((List Int) × Int × Int × Int)) fun box =>
 if (cell < 1000000000000000000) then (Td.l_mixed_2 cell box.2.2.2 many).bind fun r12 =>
 some (r12, box)
 else lt ((box.1, box.2.1, cell, box.2.2.2) : ((List Int) × Int × Int × Int)) fun box =>
 if (0 < box.2.2.1) then (pmod box.2.2.1 many).bind fun draw =>
 (pdiv box.2.2.1 many).bind fun v18 =>
 lt ((box.1, box.2.1, v18, box.2.2.2) : ((List Int) × Int × Int × Int)) fun box =>
 some (draw, box)
 else (if (0 < (box.1.length : Int)) then (pmod box.2.2.2 (box.1.length : Int)).bind fun v23 =>
 (idx box.1 v23).bind fun cell =>
 some cell
 else some cell : Option (Int)).bind fun j25 =>
 (Td.l_mixed_2 j25 box.2.2.2 many).bind fun r30 =>
 some (r30, box)
 else if (0 < box.2.2.1) then (pmod box.2.2.1 many).bind fun draw =>
 (pdiv box.2.2.1 many).bind fun v34 =>
 lt ((box.1, box.2.1, v34, box.2.2.2) : ((List Int) × Int × Int × Int)) fun box =>
 some (draw, box)
 else (if (0 < (box.1.length : Int)) then (pmod box.2.2.2 (box.1.length : Int)).bind fun v39 =>
 (idx box.1 v39).bind fun cell =>
 some cell
 else some cell : Option (Int)).bind fun j41 =>
 (Td.l_mixed_2 j41 box.2.2.2 many).bind fun r46 =>
 some (r46, box)
end Td

namespace Td
open Ty
def l_numbers (box : ((List Int) × Int × Int × Int)) : Option ((Int × Int × Int) × ((List Int) × Int × Int × Int)) :=
 (Td.l_take box 6).bind fun r3 =>
 (if (r3.1 = 0) then ((Td.l_take r3.2 8).bind fun r7 => (idx [1, 2, 4, 5, 8, 10, 20, 40] r7.1).bind fun z10 => some (r7, z10)).bind fun r9 =>
 (pdiv 40 r9.2).bind fun c =>
 some (r9.1.2, r9.2, c)
 else (idx [3, 6, 12, 40, 7] (r3.1 - 1)).bind fun v16 =>
 (Td.l_take r3.2 v16).bind fun r17 =>
 (pdiv 40 (1 + r17.1)).bind fun v21 =>
 (Td.l_take r17.2 v21).bind fun r22 =>
 ((Td.l_take r22.2 2).bind fun r24 => (if r24.1 = 1 then lt ((1 + r22.1, 1 + r17.1) : (Int × Int)) fun y30 =>
 some (r24.2, y30.1, y30.2)
 else some (r24.2, 1 + r17.1, 1 + r22.1) : Option (((List Int) × Int × Int × Int) × Int × Int))).bind fun j33 =>
 some (j33.1, j33.2.1, j33.2.2) : Option (((List Int) × Int × Int × Int) × Int × Int)).bind fun j36 =>
 (Td.l_take j36.1 j36.2.2).bind fun r39 => some ((j36.2.1, j36.2.2, r39.1), r39.2)
end Td

namespace Td
open Ty
def p_are_numbers (rows : Int) (columns : Int) (shift : Int) : Option Bool :=
 some (decide ((1 ≤ rows) ∧ ((1 ≤ columns) ∧ (0 ≤ shift ∧ shift < columns))))
end Td

namespace Td
open Ty
def p_check_numbers (rows : Int) (columns : Int) (shift : Int) : Option (Rx Unit) :=
 (Td.p_are_numbers rows columns shift).bind fun r3 =>
 if ¬(r3 = true) then some (Rx.ex "NoNumbers")
 else (pmul rows columns).bind fun v4 =>
 if (40 < v4) then (fb [40]).bind fun _ => some (Rx.ex "NoNumbers")
 else some (Rx.ok (()))
end Td

namespace Td
open Ty
def p_begun_least (row : (List Int)) : Option (List Int) :=
 if ¬(row ≠ []) then some (([] : (List Int)))
 else (pmin row).bind fun v3 =>
 (ixOf row v3).bind fun at_ =>
 cat (sl row (some at_) none) (sl row none (some at_))
end Td

namespace Td
open Ty
def p_laid_out (steps : (List (List Int))) (clock : (List Int)) : Option (List (List Int)) :=
 lt ((clock.length : Int) : Int) fun size =>
 (idx steps 0).bind fun v5 =>
 (lcp v5 (fun x6 : Int => some true) fun x6 => (rep [0] size).bind fun v9 =>
 some v9).bind fun slots =>
 (forO (enu 0 steps) (slots : ((List (List Int)))) fun s12 x11 =>
 (forO (enu 0 x11.2) (s12 : ((List (List Int)))) fun s16 x15 =>
 (pmul size x15.1).bind fun v21 =>
 (pmul 2 x11.1).bind fun v22 =>
 lt (v21 + v22 : Int) fun even =>
 (idx s16 x15.1).bind fun z23 =>
 (pmul 2 x11.1).bind fun v24 =>
 (putI z23 v24 even).bind fun z25 =>
 (idx (setI s16 x15.1 z25) x15.2).bind fun z28 =>
 (pmul 2 x11.1).bind fun v29 =>
 (putI z28 (v29 + 1) (even + 1)).bind fun z30 =>
 some (setI (setI s16 x15.1 z25) x15.2 z30)).bind fun s33 =>
 some s33).bind fun s36 =>
 lcp s36 (fun x39 : (List Int) => some true) fun x39 => (lcp clock (fun x42 : Int => some true) fun x42 => (idx x39 x42).bind fun v45 =>
 some v45).bind fun ys46 =>
 (Td.p_begun_least ys46).bind fun r49 =>
 some r49
end Td

namespace Td
open Ty
def p_rights_of (rows : Int) (columns : Int) : Option (List Int) :=
 (rng 0 rows).bind fun xs1 =>
 lcq xs1 (fun x2 : Int => some true) fun x2 => (rng 0 columns).bind fun xs5 =>
 lcO (fun x6 : Int => some true) (fun x6 => (pmul x2 columns).bind fun v9 =>
 (pmod (x6 + 1) columns).bind fun v10 =>
 some (v9 + v10)) xs5
end Td

namespace Td
open Ty
def p_uppers_of (rows : Int) (columns : Int) (shift : Int) : Option (List Int) :=
 (pmul (rows - 1) columns).bind fun v3 =>
 (rng 0 v3).bind fun xs4 =>
 (lcm xs4 fun x5 : Int => x5 + columns).bind fun inner =>
 (rng 0 columns).bind fun xs9 =>
 (lcp xs9 (fun x10 : Int => some true) fun x10 => (pmod (x10 + shift) columns).bind fun v13 =>
 some v13).bind fun ys14 =>
 cat inner ys14
end Td

namespace Td
open Ty
def p_fours_by (rows : Int) (columns : Int) (shift : Int) : Option (List (List Int)) :=
 (Td.p_rights_of rows columns).bind fun r3 =>
 (Td.p_uppers_of rows columns shift).bind fun r6 =>
 Td.p_laid_out [r3, r6] ([0, 3, 1, 2] : List Int)
end Td

namespace Td
open Ty
def p_fours (rows : Int) (columns : Int) (shift : Int) : Option (Rx (List (List Int))) :=
 bx (Td.p_check_numbers rows columns shift) (fun _ =>
 (Td.p_fours_by rows columns shift).bind fun r7 =>
 some (Rx.ok (r7))) fun n_ => Rx.ex n_
end Td

namespace Td
open Ty
def l_refused (r : Int) (c : Int) (s : Int) : Option Bool :=
 aft (tryL (bx (Td.p_fours r c s) (fun _ =>
 some (.go ())) fun n_ => Lp.rt (Rx.ex n_) : Option (Lp Unit (Rx Bool))) fun n5 =>
 (tabS ["NoNumbers"] "NoKind" n5).bind fun b_ => if b_ = true then some (.rt (false))
 else (tabS ["NoNumbers"] "NoNumbers" n5).bind fun b_ => if b_ = true then (tabS ["NoNumbers"] "FloorError" n5).bind fun v12 =>
 (if v12 = true then (tabS ["NoNumbers"] "ValueError" n5).bind fun v13 =>
 (if v13 = true then (tabS ["NoNumbers"] "NoKind" n5).bind fun v14 =>
 some (decide (¬(v14 = true))) else some false).bind fun b15 =>
 some b15 else some false).bind fun b16 =>
 some (.rt (b16))
 else none) (fun s18 =>
 some (false)) fun r_ => some r_
end Td

namespace Td
open Ty
def l_refused_by_any (r : Int) (c : Int) (s : Int) : Option Bool :=
 aft (tryL (bx (Td.p_fours r c s) (fun _ =>
 some (.go ())) fun n_ => Lp.rt (Rx.ex n_) : Option (Lp Unit (Rx Bool))) fun n5 =>
 (tabS ["NoNumbers"] "FloorError" n5).bind fun b_ => if b_ = true then some (.rt (true))
 else none) (fun s11 =>
 some (false)) fun r_ => some r_
end Td

namespace Td
open Ty
def l_whole (found : Int) : Option Bool :=
 some (decide (True ∧ ¬(False)))
end Td

namespace Td
open Ty
def l_row (found : (List Int)) (due : (List Int)) : Option Bool :=
 if ((found.length : Int) ≠ (due.length : Int)) then some (false)
 else aft (forR (enu 0 due) (() : Unit) fun s2 x1 =>
 (idx found x1.1).bind fun v5 =>
 (Td.l_whole v5).bind fun r8 =>
 (if ¬(r8 = true) then some true else (idx found x1.1).bind fun v9 =>
 some (decide ((v9 ≠ x1.2)))).bind fun b10 =>
 if b10 = true then some (.rt (false))
 else some (.go ())) (fun s11 =>
 some (true)) fun r_ => some r_
end Td

namespace Td
open Ty
def l_rows_2 (found : (List (List Int))) (due : (List (List Int))) : Option Bool :=
 if ((found.length : Int) ≠ (due.length : Int)) then some (false)
 else aft (forR (enu 0 due) (() : Unit) fun s2 x1 =>
 (idx found x1.1).bind fun v5 =>
 (Td.l_row v5 x1.2).bind fun r8 =>
 if ¬(r8 = true) then some (.rt (false))
 else some (.go ())) (fun s9 =>
 some (true)) fun r_ => some r_
end Td

namespace Td
open Ty
def l_spoilt_2 (box : ((List Int) × Int × Int × Int)) (r : Int) (c : Int) (s : Int) : Option ((Int × Int × Int) × ((List Int) × Int × Int × Int)) :=
 (((Td.l_take box 2).bind fun r3 => (pmul r3.1 10000000000000000000000000000000000000000).bind fun w8 => some (r3, w8)).bind fun r7 => ((Td.l_take r7.1.2 1000000000000000000).bind fun r11 => (Td.l_take r11.2 3).bind fun r15 => (pmul r11.1 r15.1).bind fun w18 => some ((r11, r15), w18)).bind fun r17 => some (r7, r17)).bind fun r19 =>
 (Td.l_take r19.2.1.2.2 6).bind fun r22 =>
 (if (r22.1 = 0) then lt (0 - (r19.1.2 + r19.2.2) : Int) fun r =>
 some r
 else some r : Option (Int)).bind fun j26 =>
 (if (r22.1 = 1) then lt (0 - (r19.1.2 + r19.2.2) : Int) fun c =>
 some c
 else some c : Option (Int)).bind fun j31 =>
 (if (r22.1 = 2) then lt ((-1) - (r19.1.2 + r19.2.2) : Int) fun s =>
 some s
 else some s : Option (Int)).bind fun j36 =>
 (if (r22.1 = 3) then lt (j31 + (r19.1.2 + r19.2.2) : Int) fun s =>
 some s
 else some j36 : Option (Int)).bind fun j41 =>
 (if (r22.1 = 4) then (pdiv 40 (max 1 j31)).bind fun v46 =>
 lt ((v46 + 1) + (r19.1.2 + r19.2.2) : Int) fun r =>
 some r
 else some j26 : Option (Int)).bind fun j47 =>
 (if (r22.1 = 5) then (pdiv 40 (max 1 j47)).bind fun v52 =>
 lt ((v52 + 1) + (r19.1.2 + r19.2.2) : Int) fun c =>
 some c
 else some j31 : Option (Int)).bind fun j53 =>
 some ((j47, j53, j41), r22.2)
end Td

namespace Td
open Ty
def law_k35 (script : (List Int)) : Option Bool :=
 lt ((script, 0, 0, 0) : ((List Int) × Int × Int × Int)) fun box =>
 ((Td.l_take box 8).bind fun r5 => (idx [0, 0, 0, 0, 0, 1, 1, 2] r5.1).bind fun z8 => some (r5, z8)).bind fun r7 =>
 (Td.l_numbers r7.1.2).bind fun r9 =>
 (Td.l_fours r9.1.1 r9.1.2.1 r9.1.2.2).bind fun due =>
 (okX (Td.p_fours r9.1.1 r9.1.2.1 r9.1.2.2)).bind fun r20 =>
 (Td.l_rows_2 r20 due).bind fun r23 =>
 if ¬(r23 = true) then some (false)
 else (okX (Td.p_fours r9.1.1 r9.1.2.1 r9.1.2.2)).bind fun told =>
 (idx told 0).bind fun z29 =>
 (app z29 7).bind fun z30 =>
 (popL (setI told 0 z30)).bind fun r33 =>
 (okX (Td.p_fours r9.1.1 r9.1.2.1 r9.1.2.2)).bind fun r38 =>
 (Td.l_rows_2 r38 due).bind fun r41 =>
 if ¬(r41 = true) then some (false)
 else (rng 0 r7.2).bind fun xs42 =>
 (forO xs42 ((r9.2, r9.1.1, r9.1.2.1, r9.1.2.2) : (((List Int) × Int × Int × Int) × Int × Int × Int)) fun s44 x43 =>
 (Td.l_spoilt_2 s44.1 s44.2.1 s44.2.2.1 s44.2.2.2).bind fun r47 =>
 some (r47.2, r47.1.1, r47.1.2.1, r47.1.2.2)).bind fun s51 =>
 (if (1 ≤ s51.2.1) then (if (1 ≤ s51.2.2.1) then (if (0 ≤ s51.2.2.2 ∧ s51.2.2.2 < s51.2.2.1) then (pmul s51.2.1 s51.2.2.1).bind fun v56 =>
 some (decide (v56 ≤ 40)) else some false).bind fun b57 =>
 some b57 else some false).bind fun b58 =>
 some b58 else some false).bind fun good =>
 if ¬(good = true) then (Td.l_refused s51.2.1 s51.2.2.1 s51.2.2.2).bind fun r62 =>
 if r62 = true then (Td.l_refused_by_any s51.2.1 s51.2.2.1 s51.2.2.2).bind fun r65 =>
 some (decide (r65 = true)) else some false
 else (okX (Td.p_fours s51.2.1 s51.2.2.1 s51.2.2.2)).bind fun r69 =>
 (Td.l_fours s51.2.1 s51.2.2.1 s51.2.2.2).bind fun r72 =>
 Td.l_rows_2 r69 r72
end Td

namespace Lw
open PySem L2 Ow Ty
theorem kit_int_bool : kitB "int" "bool" = some false := by decide +kernel
theorem kit_int_int : kitB "int" "int" = some true := by decide +kernel
theorem kit_list_list : kitB "list" "list" = some true := by decide +kernel
theorem ty__law_mixed_0 (cell : Int) (k : Int) (many : Int) : ∀ rz, Td.l_mixed_2 cell k many = some rz → ff__law_mixed [cI cell, cI k, cI many] = some (cI rz) :=
  run_p (c := cI) (Q := fun _ => List.replicate 4 none) ((show ∀ e0 : Ow.Env, Mt [some (cI cell), some (cI k), some (cI many), none] e0 → ES bb__law_mixed e0 (Td.l_mixed_2 cell k many) (fnK cI) (fun _ => List.replicate 4 none) from fun e0 h0 => by delta bb__law_mixed Td.l_mixed_2; exact (ES.hoist (v_mul (e_cI 40503) (e_var (i := 1) h0 rfl)) fun v3 hv3 => (ES.hoist (v_pow (e_add (e_add (e_modC (e_var (i := 0) h0 rfl) (e_cI 2147483647)) hv3) (e_cI 17)) (e_cI 5)) fun v4 hv4 => (s_let (i := 3) (ct := cI) (e_modC hv4 (e_cI 2147483647)) h0 fun one e1 k2 => (ES.hoist (v_mul (e_var (i := 3) k2 rfl) (e_add (e_cI 48271) (e_var (i := 1) k2 rfl))) fun v5 hv5 => (ES.hoist (v_mul (e_modC hv5 (e_cI 999999937)) (e_cI 39373)) fun v6 hv6 => (s_retO (v_mod (e_modC hv6 (e_cI 2147483629)) (e_var (i := 2) k2 rfl)) (fun v7 => (k2.any rfl)) (fun v7 => rfl)))))))) _ (Mt.start (ds := [cI cell, cI k, cI many]) (n := 4)))
theorem ty__law_take_0 (box : ((List Int) × Int × Int × Int)) (many : Int) : ∀ rz, Td.l_take box many = some rz → ff__law_take [(cR .o (Ow.k2 (cL .o cI) (Ow.k2 cI (Ow.k2 cI (Ow.k1 cI))))) box, cI many] = some (cI rz.1, [(cR .o (Ow.k2 (cL .o cI) (Ow.k2 cI (Ow.k2 cI (Ow.k1 cI))))) rz.2]) :=
  run_m (c := fun (r : (Int × ((List Int) × Int × Int × Int))) => cI r.1) (os := fun (r : (Int × ((List Int) × Int × Int × Int))) => [(cR .o (Ow.k2 (cL .o cI) (Ow.k2 cI (Ow.k2 cI (Ow.k1 cI))))) r.2]) (Q := (fun (r : (Int × ((List Int) × Int × Int × Int))) => [some ((cR .o (Ow.k2 (cL .o cI) (Ow.k2 cI (Ow.k2 cI (Ow.k1 cI))))) r.2), none, none, none])) ((show ∀ e0 : Ow.Env, Mt [some ((cR .o (Ow.k2 (cL .o cI) (Ow.k2 cI (Ow.k2 cI (Ow.k1 cI))))) box), some (cI many), none, none] e0 → ES bb__law_take e0 (Td.l_take box many) (fnK fun (r : (Int × ((List Int) × Int × Int × Int))) => cI r.1) ((fun (r : (Int × ((List Int) × Int × Int × Int))) => [some ((cR .o (Ow.k2 (cL .o cI) (Ow.k2 cI (Ow.k2 cI (Ow.k1 cI))))) r.2), none, none, none])) from fun e0 h0 => by delta bb__law_take Td.l_take; exact (s_putRn (i := 0) (x' := (box.1, box.2.1, box.2.2.1, box.2.2.2 + 1)) (c := (cR .o (Ow.k2 (cL .o cI) (Ow.k2 cI (Ow.k2 cI (Ow.k1 cI)))))) (e_add (e_itemR (d := cI box.2.2.2) (e_var (i := 0) h0 rfl) (e_cI 3) rfl) (e_cI 1)) h0 rfl (e_cI 3) rfl rfl rfl fun box e1 k2 => (s_let (i := 2) (ct := cI) (e_cI 0) k2 fun cell e3 k4 => (s_if2 (e_and (e_B (e_eq (e_itemR (d := cI box.2.2.1) (e_var (i := 0) k4 rfl) (e_cI 2) rfl) (e_cI 0))) (e_B (e_lt (e_itemR (d := cI box.2.1) (e_var (i := 0) k4 rfl) (e_cI 1) rfl) (e_len (e_itemR (d := (cL .o cI) box.1) (e_var (i := 0) k4 rfl) (e_cI 0) rfl))))) (fun _ => (s_assoc (s_setV (i := 2) (v_pure (v_item (e_itemR (d := (cL .o cI) box.1) (e_var (i := 0) k4 rfl) (e_cI 0) rfl) (e_itemR (d := cI box.2.1) (e_var (i := 0) k4 rfl) (e_cI 1) rfl))) k4 fun cell e5 k6 => (s_assoc (s_putRn (i := 0) (x' := (box.1, box.2.1 + 1, box.2.2.1, box.2.2.2)) (c := (cR .o (Ow.k2 (cL .o cI) (Ow.k2 cI (Ow.k2 cI (Ow.k1 cI)))))) (e_add (e_itemR (d := cI box.2.1) (e_var (i := 0) k6 rfl) (e_cI 1) rfl) (e_cI 1)) k6 rfl (e_cI 1) rfl rfl rfl fun box e8 k9 => (s_assoc (s_ifx (e_B (e_lt (e_var (i := 2) k9 rfl) (e_powC (e_cI 10) (e_cI 18)))) (fun _ => (ES.hoist (v_fn (c := cI) (e_cons (e_var (i := 2) k9 rfl) (e_cons (e_itemR (d := cI box.2.2.2) (e_var (i := 0) k9 rfl) (e_cI 3) rfl) (e_cons (e_var (i := 1) k9 rfl) e_nil))) (fun r10 q11 => (congrArg ff__law_mixed (fz_cons (fz_cons (fz_cons fz_nil)))).trans (ty__law_mixed_0 cell box.2.2.2 many r10 q11))) fun r12 hr12 => (s_ret hr12 (k9.le (le_some (le_none (le_none (le_none le_nil))))) ⟨rfl, fun z => nomatch z⟩))) (fun _ => (s_sk (s_putRn (i := 0) (x' := (box.1, box.2.1, cell, box.2.2.2)) (c := (cR .o (Ow.k2 (cL .o cI) (Ow.k2 cI (Ow.k2 cI (Ow.k1 cI)))))) (e_pure (e_var (i := 2) k9 rfl)) k9 rfl (e_cI 2) rfl rfl rfl fun box e13 k14 => (s_ifx (e_B (e_gt (e_itemR (d := cI box.2.2.1) (e_var (i := 0) k14 rfl) (e_cI 2) rfl) (e_cI 0))) (fun _ => (s_setV (i := 3) (v_mod (e_itemR (d := cI box.2.2.1) (e_var (i := 0) k14 rfl) (e_cI 2) rfl) (e_var (i := 1) k14 rfl)) k14 fun draw e15 k16 => (ES.hoist (v_div (e_itemR (d := cI box.2.2.1) (e_var (i := 0) k16 rfl) (e_cI 2) rfl) (e_var (i := 1) k16 rfl)) fun v18 hv18 => (s_putRn (i := 0) (x' := (box.1, box.2.1, v18, box.2.2.2)) (c := (cR .o (Ow.k2 (cL .o cI) (Ow.k2 cI (Ow.k2 cI (Ow.k1 cI)))))) hv18 k16 rfl (e_cI 2) rfl rfl rfl fun box e19 k20 => (s_retM (i := 3) k20 rfl (fun em hm => (hm.le (le_some (le_none (le_none (le_none le_nil)))))) ⟨rfl, fun z => nomatch z⟩))))) (fun _ => (s_sk (s_seq (s_if (Q := fun (j25 : (Int)) => [some ((cR .o (Ow.k2 (cL .o cI) (Ow.k2 cI (Ow.k2 cI (Ow.k1 cI))))) box), some (cI many), some (cI j25), none]) (e_B (e_gt (e_len (e_itemR (d := (cL .o cI) box.1) (e_var (i := 0) k14 rfl) (e_cI 0) rfl)) (e_cI 0))) (fun _ => (s_last (ES.hoist (v_mod (e_itemR (d := cI box.2.2.2) (e_var (i := 0) k14 rfl) (e_cI 3) rfl) (e_len (e_itemR (d := (cL .o cI) box.1) (e_var (i := 0) k14 rfl) (e_cI 0) rfl))) fun v23 hv23 => (s_setV (i := 2) (v_pure (v_item (e_itemR (d := (cL .o cI) box.1) (e_var (i := 0) k14 rfl) (e_cI 0) rfl) hv23)) k14 fun cell e21 k22 => (s_skip (k22.le (le_some (le_some (le_some (le_none le_nil))))) rfl))))) (fun _ => (s_skip (k14.le (le_some (le_some (le_some (le_none le_nil))))) rfl))) fun j25 e26 k27 => (ES.hoist (v_fn (c := cI) (e_cons (e_var (i := 2) k27 rfl) (e_cons (e_itemR (d := cI box.2.2.2) (e_var (i := 0) k27 rfl) (e_cI 3) rfl) (e_cons (e_var (i := 1) k27 rfl) e_nil))) (fun r28 q29 => (congrArg ff__law_mixed (fz_cons (fz_cons (fz_cons fz_nil)))).trans (ty__law_mixed_0 j25 box.2.2.2 many r28 q29))) fun r30 hr30 => (s_ret hr30 (k27.le (le_some (le_none (le_none (le_none le_nil))))) rfl)))))))))))))))) (fun _ => (s_sk (s_ifx (e_B (e_gt (e_itemR (d := cI box.2.2.1) (e_var (i := 0) k4 rfl) (e_cI 2) rfl) (e_cI 0))) (fun _ => (s_setV (i := 3) (v_mod (e_itemR (d := cI box.2.2.1) (e_var (i := 0) k4 rfl) (e_cI 2) rfl) (e_var (i := 1) k4 rfl)) k4 fun draw e31 k32 => (ES.hoist (v_div (e_itemR (d := cI box.2.2.1) (e_var (i := 0) k32 rfl) (e_cI 2) rfl) (e_var (i := 1) k32 rfl)) fun v34 hv34 => (s_putRn (i := 0) (x' := (box.1, box.2.1, v34, box.2.2.2)) (c := (cR .o (Ow.k2 (cL .o cI) (Ow.k2 cI (Ow.k2 cI (Ow.k1 cI)))))) hv34 k32 rfl (e_cI 2) rfl rfl rfl fun box e35 k36 => (s_retM (i := 3) k36 rfl (fun em hm => (hm.le (le_some (le_none (le_none (le_none le_nil)))))) ⟨rfl, fun z => nomatch z⟩))))) (fun _ => (s_sk (s_seq (s_if (Q := fun (j41 : (Int)) => [some ((cR .o (Ow.k2 (cL .o cI) (Ow.k2 cI (Ow.k2 cI (Ow.k1 cI))))) box), some (cI many), some (cI j41), none]) (e_B (e_gt (e_len (e_itemR (d := (cL .o cI) box.1) (e_var (i := 0) k4 rfl) (e_cI 0) rfl)) (e_cI 0))) (fun _ => (s_last (ES.hoist (v_mod (e_itemR (d := cI box.2.2.2) (e_var (i := 0) k4 rfl) (e_cI 3) rfl) (e_len (e_itemR (d := (cL .o cI) box.1) (e_var (i := 0) k4 rfl) (e_cI 0) rfl))) fun v39 hv39 => (s_setV (i := 2) (v_pure (v_item (e_itemR (d := (cL .o cI) box.1) (e_var (i := 0) k4 rfl) (e_cI 0) rfl) hv39)) k4 fun cell e37 k38 => (s_skip (k38.le (le_some (le_some (le_some (le_none le_nil))))) rfl))))) (fun _ => (s_skip (k4.le (le_some (le_some (le_some (le_none le_nil))))) rfl))) fun j41 e42 k43 => (ES.hoist (v_fn (c := cI) (e_cons (e_var (i := 2) k43 rfl) (e_cons (e_itemR (d := cI box.2.2.2) (e_var (i := 0) k43 rfl) (e_cI 3) rfl) (e_cons (e_var (i := 1) k43 rfl) e_nil))) (fun r44 q45 => (congrArg ff__law_mixed (fz_cons (fz_cons (fz_cons fz_nil)))).trans (ty__law_mixed_0 j41 box.2.2.2 many r44 q45))) fun r46 hr46 => (s_ret hr46 (k43.le (le_some (le_none (le_none (le_none le_nil))))) rfl)))))))))))) _ (Mt.start (ds := [(cR .o (Ow.k2 (cL .o cI) (Ow.k2 cI (Ow.k2 cI (Ow.k1 cI))))) box, cI many]) (n := 4))) (fun _ => rfl)
theorem ty__law_numbers_0 (box : ((List Int) × Int × Int × Int)) : ∀ rz, Td.l_numbers box = some rz → ff__law_numbers [(cR .o (Ow.k2 (cL .o cI) (Ow.k2 cI (Ow.k2 cI (Ow.k1 cI))))) box] = some ((cT (Ow.k2 cI (Ow.k2 cI (Ow.k1 cI)))) rz.1, [(cR .o (Ow.k2 (cL .o cI) (Ow.k2 cI (Ow.k2 cI (Ow.k1 cI))))) rz.2]) :=
  run_m (c := fun (r : ((Int × Int × Int) × ((List Int) × Int × Int × Int))) => (cT (Ow.k2 cI (Ow.k2 cI (Ow.k1 cI)))) r.1) (os := fun (r : ((Int × Int × Int) × ((List Int) × Int × Int × Int))) => [(cR .o (Ow.k2 (cL .o cI) (Ow.k2 cI (Ow.k2 cI (Ow.k1 cI))))) r.2]) (Q := (fun (r : ((Int × Int × Int) × ((List Int) × Int × Int × Int))) => [some ((cR .o (Ow.k2 (cL .o cI) (Ow.k2 cI (Ow.k2 cI (Ow.k1 cI))))) r.2), none, none, none])) ((show ∀ e0 : Ow.Env, Mt [some ((cR .o (Ow.k2 (cL .o cI) (Ow.k2 cI (Ow.k2 cI (Ow.k1 cI))))) box), none, none, none] e0 → ES bb__law_numbers e0 (Td.l_numbers box) (fnK fun (r : ((Int × Int × Int) × ((List Int) × Int × Int × Int))) => (cT (Ow.k2 cI (Ow.k2 cI (Ow.k1 cI)))) r.1) ((fun (r : ((Int × Int × Int) × ((List Int) × Int × Int × Int))) => [some ((cR .o (Ow.k2 (cL .o cI) (Ow.k2 cI (Ow.k2 cI (Ow.k1 cI))))) r.2), none, none, none])) from fun e0 h0 => by delta bb__law_numbers Td.l_numbers; exact (s_setE (i := 1) (ee_call0 (dr := (fun (r3 : (Int × ((List Int) × Int × Int × Int))) => cI r3.1)) h0 rfl (ea_mv (ea_ev (e_cI 6) (ea_nil h0))) rfl (fun r3 q4 => (congrArg ff__law_take (l_cons (rfl) (l_cons (rfl) l_nil))).trans (ty__law_take_0 box 6 r3 q4)) (fun _ => by simp [NoF.no, NoFK.no]) (fun _ => rfl)) fun r3 e1 k2 => (s_seq (s_if (Q := fun (j36 : (((List Int) × Int × Int × Int) × Int × Int)) => [some ((cR .o (Ow.k2 (cL .o cI) (Ow.k2 cI (Ow.k2 cI (Ow.k1 cI))))) j36.1), some (cI r3.1), some (cI j36.2.1), some (cI j36.2.2)]) (e_B (e_eq (e_var (i := 1) (d := cI r3.1) k2 rfl) (e_cI 0))) (fun _ => (s_setE (i := 2) (ee_itemR (show _ = some ((cL .o cI) [1, 2, 4, 5, 8, 10, 20, 40]) from e_mk (e_cons (e_cI 1) (e_cons (e_cI 2) (e_cons (e_cI 4) (e_cons (e_cI 5) (e_cons (e_cI 8) (e_cons (e_cI 10) (e_cons (e_cI 20) (e_cons (e_cI 40) e_nil))))))))) (ee_call0 (dr := (fun (r7 : (Int × ((List Int) × Int × Int × Int))) => cI r7.1)) k2 rfl (ea_mv (ea_ev (e_cI 8) (ea_nil k2))) rfl (fun r7 q8 => (congrArg ff__law_take (l_cons (rfl) (l_cons (rfl) l_nil))).trans (ty__law_take_0 r3.2 8 r7 q8)) (fun _ => by simp [NoF.no, NoFK.no]) (fun _ => rfl))) fun r9 e5 k6 => (s_last (s_setV (i := 3) (v_div (e_cI 40) (e_var (i := 2) (d := cI r9.2) k6 rfl)) k6 fun c e11 k12 => (s_skip (k12.le (le_some (le_some (le_some (le_some le_nil))))) rfl))))) (fun _ => (ES.hoist (v_pure (v_item (show _ = some ((cL .o cI) [3, 6, 12, 40, 7]) from e_mk (e_cons (e_cI 3) (e_cons (e_cI 6) (e_cons (e_cI 12) (e_cons (e_cI 40) (e_cons (e_cI 7) e_nil)))))) (e_sub (e_var (i := 1) (d := cI r3.1) k2 rfl) (e_cI 1)))) fun v16 hv16 => (s_setE (i := 2) (ee_opR (e_cI 1) (ee_call0 (dr := (fun (r17 : (Int × ((List Int) × Int × Int × Int))) => cI r17.1)) k2 rfl (ea_mv (ea_ev hv16 (ea_nil k2))) rfl (fun r17 q18 => (congrArg ff__law_take (l_cons (rfl) (l_cons (rfl) l_nil))).trans (ty__law_take_0 r3.2 v16 r17 q18)) (fun _ => by simp [NoF.no, NoFK.no]) (fun _ => rfl)) (fun _ => rfl) (fun _ => rfl)) fun r17 e14 k15 => (ES.hoist (v_div (e_cI 40) (e_var (i := 2) (d := cI (1 + r17.1)) k15 rfl)) fun v21 hv21 => (s_setE (i := 3) (ee_opR (e_cI 1) (ee_call0 (dr := (fun (r22 : (Int × ((List Int) × Int × Int × Int))) => cI r22.1)) k15 rfl (ea_mv (ea_ev hv21 (ea_nil k15))) rfl (fun r22 q23 => (congrArg ff__law_take (l_cons (rfl) (l_cons (rfl) l_nil))).trans (ty__law_take_0 r17.2 v21 r22 q23)) (fun _ => by simp [NoF.no, NoFK.no]) (fun _ => rfl)) (fun _ => rfl) (fun _ => rfl)) fun r22 e19 k20 => (s_last (s_seq (s_ifE (Q := fun (j33 : (((List Int) × Int × Int × Int) × Int × Int)) => [some ((cR .o (Ow.k2 (cL .o cI) (Ow.k2 cI (Ow.k2 cI (Ow.k1 cI))))) j33.1), some (cI r3.1), some (cI j33.2.1), some (cI j33.2.2)]) (p := fun (r24 : (Int × ((List Int) × Int × Int × Int))) => r24.1 = 1) (et_B (b := fun (r24 : (Int × ((List Int) × Int × Int × Int))) => decide (r24.1 = 1)) (ee_opL (w := fun (r24 : (Int × ((List Int) × Int × Int × Int))) => .bl (decide (r24.1 = 1))) (ee_call0 (dr := (fun (r24 : (Int × ((List Int) × Int × Int × Int))) => cI r24.1)) k20 rfl (ea_mv (ea_ev (e_cI 2) (ea_nil k20))) rfl (fun r24 q25 => (congrArg ff__law_take (l_cons (rfl) (l_cons (rfl) l_nil))).trans (ty__law_take_0 r22.2 2 r24 q25)) (fun _ => by simp [NoF.no, NoFK.no]) (fun _ => rfl)) (fun r24 e27 k26 => (e_cI 1)) (fun _ => eq_int _ _) (fun _ => rfl))) (fun r24 e29 k28 _ => (s_last (s_asg (Pa := (fun (y30 : (Int × Int)) => [some ((cR .o (Ow.k2 (cL .o cI) (Ow.k2 cI (Ow.k2 cI (Ow.k1 cI))))) r24.2), some (cI r3.1), some (cI y30.1), some (cI y30.2)])) (show _ = some ((cT (Ow.k2 cI (Ow.k1 cI))) (1 + r22.1, 1 + r17.1)) from e_mk (e_cons (e_pure (e_var (i := 3) (d := cI (1 + r22.1)) k28 rfl)) (e_cons (e_pure (e_var (i := 2) (d := cI (1 + r17.1)) k28 rfl)) e_nil))) k28 (fun y30 => (b_tp (b_cons b_nm (b_cons b_nm b_nil)))) fun y30 e31 k32 => (s_skip (k32.le (le_some (le_some (le_some (le_some le_nil))))) rfl)))) (fun r24 e29 k28 _ => (s_skip (k28.le (le_some (le_some (le_some (le_some le_nil))))) rfl))) fun j33 e34 k35 => (s_skip (k35.le (le_some (le_some (le_some (le_some le_nil))))) rfl))))))))) fun j36 e37 k38 => (s_retE (w := fun (r39 : (Int × ((List Int) × Int × Int × Int))) => ((j36.2.1, j36.2.2, r39.1), r39.2)) (show EE _ _ _ (fun (r39 : (Int × ((List Int) × Int × Int × Int))) => ((cT (Ow.k2 cI (Ow.k2 cI (Ow.k1 cI)))) (j36.2.1, j36.2.2, r39.1), _)) from ee_mk (ea_ev (e_pure (e_var (i := 2) (d := cI j36.2.1) k38 rfl)) (ea_ev (e_pure (e_var (i := 3) (d := cI j36.2.2) k38 rfl)) (ea_evE (ee_call0 (dr := (fun (r39 : (Int × ((List Int) × Int × Int × Int))) => cI r39.1)) k38 rfl (ea_mv (ea_bor (ea_nil k38))) rfl (fun r39 q40 => (congrArg ff__law_take (l_cons (rfl) (l_cons (rfl) l_nil))).trans (ty__law_take_0 j36.1 j36.2.2 r39 q40)) (fun _ => by simp [NoF.no, NoFK.no]) (fun _ => rfl)) (fun r39 e42 k41 => (ea_nil k41)))))) (fun r39 e44 k43 => (k43.le (le_some (le_none (le_none (le_none le_nil)))))) (fun r39 => rfl))))) _ (Mt.start (ds := [(cR .o (Ow.k2 (cL .o cI) (Ow.k2 cI (Ow.k2 cI (Ow.k1 cI))))) box]) (n := 4))) (fun _ => rfl)
theorem ty__law_least_0 (row : (List Int)) : ∀ rz, Td.l_least_2 row = some rz → ff__law_least [(cL .s cI) row] = some ((cL .o cI) rz) :=
  run_p (c := (cL .o cI)) (Q := fun _ => List.replicate 2 none) ((show ∀ e0 : Ow.Env, Mt [some ((cL .s cI) row), none] e0 → ES bb__law_least e0 (Td.l_least_2 row) (fnK (cL .o cI)) (fun _ => List.replicate 2 none) from fun e0 h0 => by delta bb__law_least Td.l_least_2; exact (s_ifx (e_B (e_eq (e_len (e_var (i := 0) h0 rfl)) (e_cI 0))) (fun _ => (s_ret (show _ = some ((cL .o cI) ([] : (List Int))) from e_mk e_nil) (h0.any rfl) ⟨rfl, fun z => nomatch z⟩)) (fun _ => (s_sk (ES.hoist (v_min (e_var (i := 0) h0 rfl)) fun v3 hv3 => (s_setV (i := 1) (v_index (e_var (i := 0) h0 rfl) hv3) h0 fun at_ e1 k2 => (s_retO (v_cat (e_sl (e_var (i := 0) k2 rfl) (e_oYes (e_var (i := 1) k2 rfl)) e_oNo) (e_sl (e_var (i := 0) k2 rfl) e_oNo (e_oYes (e_var (i := 1) k2 rfl)))) (fun v5 => (k2.any rfl)) (fun v5 => rfl)))))))) _ (Mt.start (ds := [(cL .s cI) row]) (n := 2)))
theorem ty__law_fours_0 (r : Int) (c : Int) (s : Int) : ∀ rz, Td.l_fours r c s = some rz → ff__law_fours [cI r, cI c, cI s] = some ((cL .o (cL .o cI)) rz) :=
  run_p (c := (cL .o (cL .o cI))) (Q := fun _ => List.replicate 9 none) ((show ∀ e0 : Ow.Env, Mt [some (cI r), some (cI c), some (cI s), none, none, none, none, none, none] e0 → ES bb__law_fours e0 (Td.l_fours r c s) (fnK (cL .o (cL .o cI))) (fun _ => List.replicate 9 none) from fun e0 h0 => by delta bb__law_fours Td.l_fours; exact (s_let (i := 3) (ct := (cL .o (cL .o cI))) (show _ = some ((cL .o (cL .o cI)) ([] : (List (List Int)))) from e_mk e_nil) h0 fun told e1 k2 => (ES.hoistL (w_R (rg_1 (e_var (i := 0) k2 rfl))) fun xs3 hxs3 => (s_seq (s_for (xs := xs3) (s0 := told) (Pl := fun (s5 : ((List (List Int)))) => [some (cI r), some (cI c), some (cI s), some ((cL .o (cL .o cI)) s5), none, none, none, none, none]) (Px := fun (s5 : ((List (List Int)))) (x4 : Int) => [some (cI r), some (cI c), some (cI s), some ((cL .o (cL .o cI)) s5), some (cI x4), none, none, none, none]) hxs3 (k2.le (le_some (le_some (le_some (le_some (le_none (le_none (le_none (le_none (le_none le_nil)))))))))) (fun s5 x4 => b_nm) (fun s5 x4 e6 k7 => (s_last (ES.hoistL (w_R (rg_1 (e_var (i := 1) k7 rfl))) fun xs8 hxs8 => (s_seq (s_for (xs := xs8) (s0 := s5) (Pl := fun (s10 : ((List (List Int)))) => [some (cI r), some (cI c), some (cI s), some ((cL .o (cL .o cI)) s10), some (cI x4), none, none, none, none]) (Px := fun (s10 : ((List (List Int)))) (x9 : Int) => [some (cI r), some (cI c), some (cI s), some ((cL .o (cL .o cI)) s10), some (cI x4), some (cI x9), none, none, none]) hxs8 (k7.le (le_some (le_some (le_some (le_some (le_some (le_none (le_none (le_none (le_none le_nil)))))))))) (fun s10 x9 => b_nm) (fun s10 x9 e11 k12 => (ES.hoist (v_mul (e_var (i := 4) k12 rfl) (e_var (i := 1) k12 rfl)) fun v15 hv15 => (s_let (i := 6) (ct := cI) (e_add hv15 (e_var (i := 5) k12 rfl)) k12 fun p e13 k14 => (ES.hoist (v_mul (e_var (i := 4) k14 rfl) (e_var (i := 1) k14 rfl)) fun v18 hv18 => (ES.hoist (v_mod (e_sub (e_var (i := 5) k14 rfl) (e_cI 1)) (e_var (i := 1) k14 rfl)) fun v19 hv19 => (s_let (i := 7) (ct := cI) (e_add hv18 hv19) k14 fun left e16 k17 => (s_let (i := 8) (ct := cI) (e_sub (e_var (i := 6) k17 rfl) (e_var (i := 1) k17 rfl)) k17 fun down e20 k21 => (s_seq (s_if (Q := fun (j26 : (Int)) => [some (cI r), some (cI c), some (cI s), some ((cL .o (cL .o cI)) s10), some (cI x4), some (cI x9), some (cI p), some (cI left), some (cI j26)]) (e_B (e_eq (e_var (i := 4) k21 rfl) (e_cI 0))) (fun _ => (s_last (ES.hoist (v_mul (e_sub (e_var (i := 0) k21 rfl) (e_cI 1)) (e_var (i := 1) k21 rfl)) fun v24 hv24 => (ES.hoist (v_mod (e_sub (e_var (i := 5) k21 rfl) (e_var (i := 2) k21 rfl)) (e_var (i := 1) k21 rfl)) fun v25 hv25 => (s_let (i := 8) (ct := cI) (e_add hv24 hv25) k21 fun down e22 k23 => (s_skip (k23.le (le_some (le_some (le_some (le_some (le_some (le_some (le_some (le_some (le_some le_nil)))))))))) rfl)))))) (fun _ => (s_skip (k21.le (le_some (le_some (le_some (le_some (le_some (le_some (le_some (le_some (le_some le_nil)))))))))) rfl))) fun j26 e27 k28 => (s_last (ES.hoist (v_mul (e_cI 4) (e_var (i := 6) k28 rfl)) fun v29 hv29 => (ES.hoist (v_mul (e_cI 4) (e_var (i := 6) k28 rfl)) fun v30 hv30 => (ES.hoist (v_mul (e_cI 4) (e_var (i := 8) k28 rfl)) fun v31 hv31 => (ES.hoist (v_mul (e_cI 4) (e_var (i := 7) k28 rfl)) fun v32 hv32 => (ES.hoist (v_fn (c := (cL .o cI)) (e_cons (show _ = some ((cL .o cI) [v29 + 2, v30, v31 + 3, v32 + 1]) from e_mk (e_cons (e_add hv29 (e_cI 2)) (e_cons hv30 (e_cons (e_add hv31 (e_cI 3)) (e_cons (e_add hv32 (e_cI 1)) e_nil))))) e_nil) (fun r33 q34 => (congrArg ff__law_least (fz_cons fz_nil)).trans (ty__law_least_0 [v29 + 2, v30, v31 + 3, v32 + 1] r33 q34))) fun r35 hr35 => (s_app (pl_name (i := 3) k28 rfl) hr35 k28 fun told e37 k38 => (s_skip (k38.le (le_some (le_some (le_some (le_some (le_some (le_none (le_none (le_none (le_none le_nil)))))))))) (Or.inl rfl)))))))))))))))))) fun s39 e40 k41 => (s_skip (k41.le (le_some (le_some (le_some (le_some (le_none (le_none (le_none (le_none (le_none le_nil)))))))))) (Or.inl rfl))))))) fun s42 e43 k44 => (s_retM (i := 3) k44 rfl (fun em hm => (hm.any rfl)) rfl))))) _ (Mt.start (ds := [cI r, cI c, cI s]) (n := 9)))
theorem ty_are_numbers_0 (rows : Int) (columns : Int) (shift : Int) : ∀ rz, Td.p_are_numbers rows columns shift = some rz → ff_are_numbers [cI rows, cI columns, cI shift] = some (cB rz) :=
  run_p (c := cB) (Q := fun _ => List.replicate 3 none) ((show ∀ e0 : Ow.Env, Mt [some (cI rows), some (cI columns), some (cI shift)] e0 → ES bb_are_numbers e0 (Td.p_are_numbers rows columns shift) (fnK cB) (fun _ => List.replicate 3 none) from fun e0 h0 => by delta bb_are_numbers Td.p_are_numbers; exact (s_ret (e_andV (e_ge (e_var (i := 0) h0 rfl) (e_cI 1)) (e_andV (e_ge (e_var (i := 1) h0 rfl) (e_cI 1)) (e_chain (e_cI 0) (e_var (i := 2) h0 rfl) (e_var (i := 1) h0 rfl) rfl rfl))) (h0.any rfl) rfl)) _ (Mt.start (ds := [cI rows, cI columns, cI shift]) (n := 3)))
theorem ty_check_numbers_0 (rows : Int) (columns : Int) (shift : Int) : ∀ rz, Td.p_check_numbers rows columns shift = some rz → ff_check_numbers [cI rows, cI columns, cI shift] = some (cX cU rz) :=
  run_x (c := cU) (Q := fun _ => List.replicate 3 none) ((show ∀ e0 : Ow.Env, Mt [some (cI rows), some (cI columns), some (cI shift)] e0 → ES bb_check_numbers e0 (Td.p_check_numbers rows columns shift) (fnK (cX cU)) (fun _ => List.replicate 3 none) from fun e0 h0 => by delta bb_check_numbers Td.p_check_numbers; exact (ES.hoist (v_fn (c := cB) (e_cons (e_var (i := 0) h0 rfl) (e_cons (e_var (i := 1) h0 rfl) (e_cons (e_var (i := 2) h0 rfl) e_nil))) (fun r1 q2 => (congrArg ff_are_numbers (fz_cons (fz_cons (fz_cons fz_nil)))).trans (ty_are_numbers_0 rows columns shift r1 q2))) fun r3 hr3 => (s_ifx (e_not (e_truB hr3)) (fun _ => (s_raiseC (show _ = some (cS (⟨[114, 111, 119, 115, 32, 97, 110, 100, 32, 99, 111, 108, 117, 109, 110, 115, 32, 97, 114, 101, 32, 102, 114, 111, 109, 32, 49, 32, 111, 110, 44, 32, 116, 104, 101, 32, 115, 104, 105, 102, 116, 32, 102, 114, 111, 109, 32, 48, 32, 116, 111, 32, 116, 104, 101, 32, 99, 111, 108, 117, 109, 110, 115, 32, 108, 101, 115, 115, 32, 49], rfl⟩ : Txt)) from rfl) (h0.any rfl) ⟨rfl, fun z => nomatch z⟩)) (fun _ => (s_sk (s_last (ES.hoist (v_mul (e_var (i := 0) h0 rfl) (e_var (i := 1) h0 rfl)) fun v4 hv4 => (s_ifx (e_B (e_gt hv4 (e_cI 40))) (fun _ => (s_raiseF (is := [40]) ⟨by decide, (e_cI 40), trivial⟩ (h0.any rfl) ⟨rfl, fun z => nomatch z⟩)) (fun _ => (s_sk (s_skip (h0.any rfl) rfl))))))))))) _ (Mt.start (ds := [cI rows, cI columns, cI shift]) (n := 3)))
theorem ty_rights_of_0 (rows : Int) (columns : Int) : ∀ rz, Td.p_rights_of rows columns = some rz → ff_rights_of [cI rows, cI columns] = some ((cL .o cI) rz) :=
  run_p (c := (cL .o cI)) (Q := fun _ => List.replicate 4 none) ((show ∀ e0 : Ow.Env, Mt [some (cI rows), some (cI columns), none, none] e0 → ES bb_rights_of e0 (Td.p_rights_of rows columns) (fnK (cL .o cI)) (fun _ => List.replicate 4 none) from fun e0 h0 => by delta bb_rights_of Td.p_rights_of; exact (ES.hoistL (w_R (rg_1 (e_var (i := 0) h0 rfl))) fun xs1 hxs1 => (s_retO (v_lc2 (Px := fun (x2 : Int) => [some (cI rows), some (cI columns), some (cI x2), none]) hxs1 h0 (fun x2 => b_nm) (fun x2 e3 k4 => vb_yes) fun x2 e3 k4 => (EVL.hoistL (w_R (rg_1 (e_var (i := 1) k4 rfl))) fun xs5 hxs5 => (v_in2 (Px := fun (x6 : Int) => [some (cI rows), some (cI columns), some (cI x2), some (cI x6)]) hxs5 k4 (fun x6 => b_nm) (fun x6 e7 k8 => vb_yes) fun x6 e7 k8 => (EV.hoist (v_mul (e_var (i := 2) k8 rfl) (e_var (i := 1) k8 rfl)) fun v9 hv9 => (EV.hoist (v_mod (e_add (e_var (i := 3) k8 rfl) (e_cI 1)) (e_var (i := 1) k8 rfl)) fun v10 hv10 => (EV.tot (e_add hv9 hv10))))))) (fun ys11 => (h0.any rfl)) (fun ys11 => rfl)))) _ (Mt.start (ds := [cI rows, cI columns]) (n := 4)))
theorem ty_uppers_of_0 (rows : Int) (columns : Int) (shift : Int) : ∀ rz, Td.p_uppers_of rows columns shift = some rz → ff_uppers_of [cI rows, cI columns, cI shift] = some ((cL .o cI) rz) :=
  run_p (c := (cL .o cI)) (Q := fun _ => List.replicate 6 none) ((show ∀ e0 : Ow.Env, Mt [some (cI rows), some (cI columns), some (cI shift), none, none, none] e0 → ES bb_uppers_of e0 (Td.p_uppers_of rows columns shift) (fnK (cL .o cI)) (fun _ => List.replicate 6 none) from fun e0 h0 => by delta bb_uppers_of Td.p_uppers_of; exact (ES.hoist (v_mul (e_sub (e_var (i := 0) h0 rfl) (e_cI 1)) (e_var (i := 1) h0 rfl)) fun v3 hv3 => (ES.hoistL (w_R (rg_1 hv3)) fun xs4 hxs4 => (s_setV (i := 3) (v_lcm (Px := fun (x5 : Int) => [some (cI rows), some (cI columns), some (cI shift), none, some (cI x5), none]) hxs4 h0 (fun x5 => b_nm) fun x5 e6 k7 => (e_add (e_var (i := 4) k7 rfl) (e_var (i := 1) k7 rfl))) h0 fun inner e1 k2 => (ES.hoistL (w_R (rg_1 (e_var (i := 1) k2 rfl))) fun xs9 hxs9 => (ES.hoist (v_lcp (Px := fun (x10 : Int) => [some (cI rows), some (cI columns), some (cI shift), some ((cL .o cI) inner), none, some (cI x10)]) hxs9 k2 (fun x10 => b_nm) (fun x10 e11 k12 => vb_yes) fun x10 e11 k12 => (EV.hoist (v_mod (e_add (e_var (i := 5) k12 rfl) (e_var (i := 2) k12 rfl)) (e_var (i := 1) k12 rfl)) fun v13 hv13 => (EV.tot hv13))) fun ys14 hys14 => (s_retO (v_cat (e_var (i := 3) k2 rfl) hys14) (fun v15 => (k2.any rfl)) (fun v15 => rfl)))))))) _ (Mt.start (ds := [cI rows, cI columns, cI shift]) (n := 6)))
theorem ty_begun_least_0 (row : (List Int)) : ∀ rz, Td.p_begun_least row = some rz → ff_begun_least [(cL .s cI) row] = some ((cL .o cI) rz) :=
  run_p (c := (cL .o cI)) (Q := fun _ => List.replicate 2 none) ((show ∀ e0 : Ow.Env, Mt [some ((cL .s cI) row), none] e0 → ES bb_begun_least e0 (Td.p_begun_least row) (fnK (cL .o cI)) (fun _ => List.replicate 2 none) from fun e0 h0 => by delta bb_begun_least Td.p_begun_least; exact (s_ifx (e_not (e_truL (e_var (i := 0) h0 rfl))) (fun _ => (s_ret (show _ = some ((cL .o cI) ([] : (List Int))) from e_mk e_nil) (h0.any rfl) ⟨rfl, fun z => nomatch z⟩)) (fun _ => (s_sk (ES.hoist (v_min (e_var (i := 0) h0 rfl)) fun v3 hv3 => (s_setV (i := 1) (v_index (e_var (i := 0) h0 rfl) hv3) h0 fun at_ e1 k2 => (s_retO (v_cat (e_sl (e_var (i := 0) k2 rfl) (e_oYes (e_var (i := 1) k2 rfl)) e_oNo) (e_sl (e_var (i := 0) k2 rfl) e_oNo (e_oYes (e_var (i := 1) k2 rfl)))) (fun v5 => (k2.any rfl)) (fun v5 => rfl)))))))) _ (Mt.start (ds := [(cL .s cI) row]) (n := 2)))
theorem ty_laid_out_0 (steps : (List (List Int))) (clock : (List Int)) : ∀ rz, Td.p_laid_out steps clock = some rz → ff_laid_out [(cL .s (cL .s cI)) steps, (cQ cI) clock] = some ((cL .o (cL .o cI)) rz) :=
  run_p (c := (cL .o (cL .o cI))) (Q := fun _ => List.replicate 12 none) ((show ∀ e0 : Ow.Env, Mt [some ((cL .s (cL .s cI)) steps), some ((cQ cI) clock), none, none, none, none, none, none, none, none, none, none] e0 → ES bb_laid_out e0 (Td.p_laid_out steps clock) (fnK (cL .o (cL .o cI))) (fun _ => List.replicate 12 none) from fun e0 h0 => by delta bb_laid_out Td.p_laid_out; exact (s_let (i := 2) (ct := cI) (e_lenQ (e_var (i := 1) h0 rfl)) h0 fun size e1 k2 => (ES.hoist (v_item (e_var (i := 0) k2 rfl) (e_cI 0)) fun v5 hv5 => (s_setV (i := 3) (v_lcp (Px := fun (x6 : Int) => [some ((cL .s (cL .s cI)) steps), some ((cQ cI) clock), some (cI size), none, none, none, none, none, none, some (cI x6), none, none]) (w_L hv5) k2 (fun x6 => b_nm) (fun x6 e7 k8 => vb_yes) fun x6 e7 k8 => (EV.hoist (v_rep (show _ = some ((cL .o cI) [0]) from e_mk (e_cons (e_cI 0) e_nil)) (e_var (i := 2) k8 rfl)) fun v9 hv9 => (EV.tot hv9))) k2 fun slots e3 k4 => (s_seq (s_for (xs := (enu 0 steps)) (s0 := slots) (Pl := fun (s12 : ((List (List Int)))) => [some ((cL .s (cL .s cI)) steps), some ((cQ cI) clock), some (cI size), some ((cL .o (cL .o cI)) s12), none, none, none, none, none, none, none, none]) (Px := fun (s12 : ((List (List Int)))) (x11 : (Int × (List Int))) => [some ((cL .s (cL .s cI)) steps), some ((cQ cI) clock), some (cI size), some ((cL .o (cL .o cI)) s12), some (cI x11.1), some ((cL .s cI) x11.2), none, none, none, none, none, none]) (w_E (e_pureC (e_var (i := 0) k4 rfl))) (k4.le (le_some (le_some (le_some (le_some (le_none (le_none (le_none (le_none (le_none (le_none (le_none (le_none le_nil))))))))))))) (fun s12 x11 => (b_tp (b_cons b_nm (b_cons b_nm b_nil)))) (fun s12 x11 e13 k14 => (s_last (s_seq (s_for (xs := (enu 0 x11.2)) (s0 := s12) (Pl := fun (s16 : ((List (List Int)))) => [some ((cL .s (cL .s cI)) steps), some ((cQ cI) clock), some (cI size), some ((cL .o (cL .o cI)) s16), some (cI x11.1), some ((cL .s cI) x11.2), none, none, none, none, none, none]) (Px := fun (s16 : ((List (List Int)))) (x15 : (Int × Int)) => [some ((cL .s (cL .s cI)) steps), some ((cQ cI) clock), some (cI size), some ((cL .o (cL .o cI)) s16), some (cI x11.1), some ((cL .s cI) x11.2), some (cI x15.1), some (cI x15.2), none, none, none, none]) (w_E (e_pureC (e_var (i := 5) (d := (cL .s cI) x11.2) k14 rfl))) (k14.le (le_some (le_some (le_some (le_some (le_some (le_some (le_none (le_none (le_none (le_none (le_none (le_none le_nil))))))))))))) (fun s16 x15 => (b_tp (b_cons b_nm (b_cons b_nm b_nil)))) (fun s16 x15 e17 k18 => (ES.hoist (v_mul (e_var (i := 2) k18 rfl) (e_var (i := 6) (d := cI x15.1) k18 rfl)) fun v21 hv21 => (ES.hoist (v_mul (e_cI 2) (e_var (i := 4) (d := cI x11.1) k18 rfl)) fun v22 hv22 => (s_let (i := 8) (ct := cI) (e_add hv21 hv22) k18 fun even e19 k20 => (ES.bindE fun z23 hz23 => (ES.hoist (v_mul (e_cI 2) (e_var (i := 4) (d := cI x11.1) k20 rfl)) fun v24 hv24 => (s_put (e_pure (e_var (i := 8) k20 rfl)) (pl_item (pl_name (i := 3) k20 rfl) (e_var (i := 6) (d := cI x15.1) k20 rfl) hz23) hv24 k20 fun z25 e26 k27 => (s_last (ES.bindE fun z28 hz28 => (ES.hoist (v_mul (e_cI 2) (e_var (i := 4) (d := cI x11.1) k27 rfl)) fun v29 hv29 => (s_put (e_add (e_var (i := 8) k27 rfl) (e_cI 1)) (pl_item (pl_name (i := 3) k27 rfl) (e_var (i := 7) (d := cI x15.2) k27 rfl) hz28) (e_add hv29 (e_cI 1)) k27 fun z30 e31 k32 => (s_skip (k32.le (le_some (le_some (le_some (le_some (le_some (le_some (le_none (le_none (le_none (le_none (le_none (le_none le_nil))))))))))))) (Or.inl rfl)))))))))))))) fun s33 e34 k35 => (s_skip (k35.le (le_some (le_some (le_some (le_some (le_none (le_none (le_none (le_none (le_none (le_none (le_none (le_none le_nil))))))))))))) (Or.inl rfl)))))) fun s36 e37 k38 => (s_retO (v_lcp (Px := fun (x39 : (List Int)) => [some ((cL .s (cL .s cI)) steps), some ((cQ cI) clock), some (cI size), some ((cL .o (cL .o cI)) s36), none, none, none, none, none, none, some ((cL .o cI) x39), none]) (w_L (e_var (i := 3) k38 rfl)) k38 (fun x39 => b_nm) (fun x39 e40 k41 => vb_yes) fun x39 e40 k41 => (EV.hoist (v_lcp (Px := fun (x42 : Int) => [some ((cL .s (cL .s cI)) steps), some ((cQ cI) clock), some (cI size), some ((cL .o (cL .o cI)) s36), none, none, none, none, none, none, some ((cL .o cI) x39), some (cI x42)]) (w_Q (e_var (i := 1) k41 rfl)) k41 (fun x42 => b_nm) (fun x42 e43 k44 => vb_yes) fun x42 e43 k44 => (EV.hoist (v_pure (v_item (e_var (i := 10) k44 rfl) (e_var (i := 11) k44 rfl))) fun v45 hv45 => (EV.tot hv45))) fun ys46 hys46 => (EV.hoist (v_fn (c := (cL .o cI)) (e_cons hys46 e_nil) (fun r47 q48 => (congrArg ff_begun_least (fz_cons fz_nil)).trans (ty_begun_least_0 ys46 r47 q48))) fun r49 hr49 => (EV.tot hr49)))) (fun ys50 => (k38.any rfl)) (fun ys50 => rfl))))))) _ (Mt.start (ds := [(cL .s (cL .s cI)) steps, (cQ cI) clock]) (n := 12)))
theorem ty_fours_by_0 (rows : Int) (columns : Int) (shift : Int) : ∀ rz, Td.p_fours_by rows columns shift = some rz → ff_fours_by [cI rows, cI columns, cI shift] = some ((cL .o (cL .o cI)) rz) :=
  run_p (c := (cL .o (cL .o cI))) (Q := fun _ => List.replicate 3 none) ((show ∀ e0 : Ow.Env, Mt [some (cI rows), some (cI columns), some (cI shift)] e0 → ES bb_fours_by e0 (Td.p_fours_by rows columns shift) (fnK (cL .o (cL .o cI))) (fun _ => List.replicate 3 none) from fun e0 h0 => by delta bb_fours_by Td.p_fours_by; exact (ES.hoist (v_fn (c := (cL .o cI)) (e_cons (e_var (i := 0) h0 rfl) (e_cons (e_var (i := 1) h0 rfl) e_nil)) (fun r1 q2 => (congrArg ff_rights_of (fz_cons (fz_cons fz_nil))).trans (ty_rights_of_0 rows columns r1 q2))) fun r3 hr3 => (ES.hoist (v_fn (c := (cL .o cI)) (e_cons (e_var (i := 0) h0 rfl) (e_cons (e_var (i := 1) h0 rfl) (e_cons (e_var (i := 2) h0 rfl) e_nil))) (fun r4 q5 => (congrArg ff_uppers_of (fz_cons (fz_cons (fz_cons fz_nil)))).trans (ty_uppers_of_0 rows columns shift r4 q5))) fun r6 hr6 => (s_retO (v_fn (c := (cL .o (cL .o cI))) (e_cons (show _ = some ((cL .o (cL .o cI)) [r3, r6]) from e_mk (e_cons hr3 (e_cons hr6 e_nil))) (e_cons (show _ = some (cQ cI [0, 3, 1, 2]) from rfl) e_nil)) (fun r7 q8 => (congrArg ff_laid_out (fz_cons (fz_cons fz_nil))).trans (ty_laid_out_0 [r3, r6] ([0, 3, 1, 2] : List Int) r7 q8))) (fun r9 => (h0.any rfl)) (fun r9 => rfl))))) _ (Mt.start (ds := [cI rows, cI columns, cI shift]) (n := 3)))
theorem ty_fours_0 (rows : Int) (columns : Int) (shift : Int) : ∀ rz, Td.p_fours rows columns shift = some rz → ff_fours [cI rows, cI columns, cI shift] = some (cX (cL .o (cL .o cI)) rz) :=
  run_x (c := (cL .o (cL .o cI))) (Q := fun _ => List.replicate 3 none) ((show ∀ e0 : Ow.Env, Mt [some (cI rows), some (cI columns), some (cI shift)] e0 → ES bb_fours e0 (Td.p_fours rows columns shift) (fnK (cX (cL .o (cL .o cI)))) (fun _ => List.replicate 3 none) from fun e0 h0 => by delta bb_fours Td.p_fours; exact (s_dropX (ct := cU) (w := fun n_ => Rx.ex n_) (ee_callX (c := cU) (e_cons (e_var (i := 0) h0 rfl) (e_cons (e_var (i := 1) h0 rfl) (e_cons (e_var (i := 2) h0 rfl) e_nil))) (fun r1 q2 => (congrArg ff_check_numbers (fz_cons (fz_cons (fz_cons fz_nil)))).trans (ty_check_numbers_0 rows columns shift r1 q2)) h0) (fun _ e3 k4 => (ES.hoist (v_fn (c := (cL .o (cL .o cI))) (e_cons (e_var (i := 0) k4 rfl) (e_cons (e_var (i := 1) k4 rfl) (e_cons (e_var (i := 2) k4 rfl) e_nil))) (fun r5 q6 => (congrArg ff_fours_by (fz_cons (fz_cons (fz_cons fz_nil)))).trans (ty_fours_by_0 rows columns shift r5 q6))) fun r7 hr7 => (s_ret hr7 (k4.any rfl) rfl))) (fun n_ e_ h_ => (h_.any rfl)) (fun n_ => rfl))) _ (Mt.start (ds := [cI rows, cI columns, cI shift]) (n := 3)))
theorem ty__law_whole_0 (found : Int) : ∀ rz, Td.l_whole found = some rz → ff__law_whole [cI found] = some (cB rz) :=
  run_p (c := cB) (Q := fun _ => List.replicate 1 none) ((show ∀ e0 : Ow.Env, Mt [some (cI found)] e0 → ES bb__law_whole e0 (Td.l_whole found) (fnK cB) (fun _ => List.replicate 1 none) from fun e0 h0 => by delta bb__law_whole Td.l_whole; exact (s_ret (e_andV (show _ = some (cB (decide True)) from (e_isi (b := true) (e_var (i := 0) h0 rfl) (show isiD "int" (cI found) = some (.bl true) from isi_of (n := "int") rfl kit_int_int))) (e_notP (show _ = some (cB (decide False)) from (e_isi (b := false) (e_var (i := 0) h0 rfl) (show isiD "bool" (cI found) = some (.bl false) from isi_of (n := "int") rfl kit_int_bool))))) (h0.any rfl) rfl)) _ (Mt.start (ds := [cI found]) (n := 1)))
theorem ty__law_row_0 (found : (List Int)) (due : (List Int)) : ∀ rz, Td.l_row found due = some rz → ff__law_row [(cL .s cI) found, (cL .s cI) due] = some (cB rz) :=
  run_p (c := cB) (Q := fun _ => List.replicate 4 none) ((show ∀ e0 : Ow.Env, Mt [some ((cL .s cI) found), some ((cL .s cI) due), none, none] e0 → ES bb__law_row e0 (Td.l_row found due) (fnK cB) (fun _ => List.replicate 4 none) from fun e0 h0 => by delta bb__law_row Td.l_row; exact (s_ifx (e_or_f (show _ = some false from e_not (p := True) (e_B (e_isi (b := true) (e_var (i := 0) h0 rfl) (show isiD "list" ((cL .s cI) found) = some (.bl true) from isi_of (n := "list") rfl kit_list_list)))) (e_B (e_ne (e_len (e_var (i := 0) h0 rfl)) (e_len (e_var (i := 1) h0 rfl))))) (fun _ => (s_ret (e_cB false) (h0.any rfl) ⟨rfl, fun z => nomatch z⟩)) (fun _ => (s_sk (s_aft (w := fun (r_ : Bool) => r_) (s_forR (xs := (enu 0 due)) (s0 := ()) (cr := cB) (Pr := (fun _ => List.replicate 4 none)) (Pl := fun (s2 : Unit) => [some ((cL .s cI) found), some ((cL .s cI) due), none, none]) (Px := fun (s2 : Unit) (x1 : (Int × Int)) => [some ((cL .s cI) found), some ((cL .s cI) due), some (cI x1.1), some (cI x1.2)]) (w_E (e_pureC (e_var (i := 1) h0 rfl))) (h0.le (le_some (le_some (le_none (le_none le_nil))))) (fun s2 x1 => (b_tp (b_cons b_nm (b_cons b_nm b_nil)))) (fun s2 x1 e3 k4 => (s_last (ES.hoist (v_item (e_var (i := 0) k4 rfl) (e_var (i := 2) (d := cI x1.1) k4 rfl)) fun v5 hv5 => (ES.hoist (v_fn (c := cB) (e_cons hv5 e_nil) (fun r6 q7 => (congrArg ff__law_whole (fz_cons fz_nil)).trans (ty__law_whole_0 v5 r6 q7))) fun r8 hr8 => (ES.hoistB (v_or (e_not (e_truB hr8)) fun _ => (EVB.hoist (v_item (e_var (i := 0) k4 rfl) (e_var (i := 2) (d := cI x1.1) k4 rfl)) fun v9 hv9 => (vb_p (e_B (e_ne hv9 (e_var (i := 3) (d := cI x1.2) k4 rfl)))))) fun b10 hb10 => (s_ifx (e_dec hb10) (fun _ => (s_ret (e_cB false) (k4.any rfl) ⟨rfl, fun z => nomatch z⟩)) (fun _ => (s_sk (s_skip (Q := _) (k4.le (le_some (le_some (le_none (le_none le_nil))))) (Or.inl rfl))))))))))) (fun s11 e12 k13 => (s_ret (e_cB true) (k13.any rfl) rfl)) (fun r_ _ hr => hr) (fun r_ => rfl)))))) _ (Mt.start (ds := [(cL .s cI) found, (cL .s cI) due]) (n := 4)))
theorem ty__law_rows_0 (found : (List (List Int))) (due : (List (List Int))) : ∀ rz, Td.l_rows_2 found due = some rz → ff__law_rows [(cL .s (cL .s cI)) found, (cL .s (cL .s cI)) due] = some (cB rz) :=
  run_p (c := cB) (Q := fun _ => List.replicate 4 none) ((show ∀ e0 : Ow.Env, Mt [some ((cL .s (cL .s cI)) found), some ((cL .s (cL .s cI)) due), none, none] e0 → ES bb__law_rows e0 (Td.l_rows_2 found due) (fnK cB) (fun _ => List.replicate 4 none) from fun e0 h0 => by delta bb__law_rows Td.l_rows_2; exact (s_ifx (e_or_f (show _ = some false from e_not (p := True) (e_B (e_isi (b := true) (e_var (i := 0) h0 rfl) (show isiD "list" ((cL .s (cL .s cI)) found) = some (.bl true) from isi_of (n := "list") rfl kit_list_list)))) (e_B (e_ne (e_len (e_var (i := 0) h0 rfl)) (e_len (e_var (i := 1) h0 rfl))))) (fun _ => (s_ret (e_cB false) (h0.any rfl) ⟨rfl, fun z => nomatch z⟩)) (fun _ => (s_sk (s_aft (w := fun (r_ : Bool) => r_) (s_forR (xs := (enu 0 due)) (s0 := ()) (cr := cB) (Pr := (fun _ => List.replicate 4 none)) (Pl := fun (s2 : Unit) => [some ((cL .s (cL .s cI)) found), some ((cL .s (cL .s cI)) due), none, none]) (Px := fun (s2 : Unit) (x1 : (Int × (List Int))) => [some ((cL .s (cL .s cI)) found), some ((cL .s (cL .s cI)) due), some (cI x1.1), some ((cL .s cI) x1.2)]) (w_E (e_pureC (e_var (i := 1) h0 rfl))) (h0.le (le_some (le_some (le_none (le_none le_nil))))) (fun s2 x1 => (b_tp (b_cons b_nm (b_cons b_nm b_nil)))) (fun s2 x1 e3 k4 => (s_last (ES.hoist (v_item (e_var (i := 0) k4 rfl) (e_var (i := 2) (d := cI x1.1) k4 rfl)) fun v5 hv5 => (ES.hoist (v_fn (c := cB) (e_cons hv5 (e_cons (e_var (i := 3) (d := (cL .s cI) x1.2) k4 rfl) e_nil)) (fun r6 q7 => (congrArg ff__law_row (fz_cons (fz_cons fz_nil))).trans (ty__law_row_0 v5 x1.2 r6 q7))) fun r8 hr8 => (s_ifx (e_not (e_truB hr8)) (fun _ => (s_ret (e_cB false) (k4.any rfl) ⟨rfl, fun z => nomatch z⟩)) (fun _ => (s_sk (s_skip (Q := _) (k4.le (le_some (le_some (le_none (le_none le_nil))))) (Or.inl rfl)))))))))) (fun s9 e10 k11 => (s_ret (e_cB true) (k11.any rfl) rfl)) (fun r_ _ hr => hr) (fun r_ => rfl)))))) _ (Mt.start (ds := [(cL .s (cL .s cI)) found, (cL .s (cL .s cI)) due]) (n := 4)))
theorem ty__law_spoilt_0 (box : ((List Int) × Int × Int × Int)) (r : Int) (c : Int) (s : Int) : ∀ rz, Td.l_spoilt_2 box r c s = some rz → ff__law_spoilt [(cR .o (Ow.k2 (cL .o cI) (Ow.k2 cI (Ow.k2 cI (Ow.k1 cI))))) box, cI r, cI c, cI s] = some ((cT (Ow.k2 cI (Ow.k2 cI (Ow.k1 cI)))) rz.1, [(cR .o (Ow.k2 (cL .o cI) (Ow.k2 cI (Ow.k2 cI (Ow.k1 cI))))) rz.2]) :=
  run_m (c := fun (r : ((Int × Int × Int) × ((List Int) × Int × Int × Int))) => (cT (Ow.k2 cI (Ow.k2 cI (Ow.k1 cI)))) r.1) (os := fun (r : ((Int × Int × Int) × ((List Int) × Int × Int × Int))) => [(cR .o (Ow.k2 (cL .o cI) (Ow.k2 cI (Ow.k2 cI (Ow.k1 cI))))) r.2]) (Q := (fun (r : ((Int × Int × Int) × ((List Int) × Int × Int × Int))) => [some ((cR .o (Ow.k2 (cL .o cI) (Ow.k2 cI (Ow.k2 cI (Ow.k1 cI))))) r.2), none, none, none, none, none])) ((show ∀ e0 : Ow.Env, Mt [some ((cR .o (Ow.k2 (cL .o cI) (Ow.k2 cI (Ow.k2 cI (Ow.k1 cI))))) box), some (cI r), some (cI c), some (cI s), none, none] e0 → ES bb__law_spoilt e0 (Td.l_spoilt_2 box r c s) (fnK fun (r : ((Int × Int × Int) × ((List Int) × Int × Int × Int))) => (cT (Ow.k2 cI (Ow.k2 cI (Ow.k1 cI)))) r.1) ((fun (r : ((Int × Int × Int) × ((List Int) × Int × Int × Int))) => [some ((cR .o (Ow.k2 (cL .o cI) (Ow.k2 cI (Ow.k2 cI (Ow.k1 cI))))) r.2), none, none, none, none, none])) from fun e0 h0 => by delta bb__law_spoilt Td.l_spoilt_2; exact (s_setE (i := 4) (ee_op2 (ee_opLp (ee_call0 (dr := (fun (r3 : (Int × ((List Int) × Int × Int × Int))) => cI r3.1)) h0 rfl (ea_mv (ea_ev (e_cI 2) (ea_nil h0))) rfl (fun r3 q4 => (congrArg ff__law_take (l_cons (rfl) (l_cons (rfl) l_nil))).trans (ty__law_take_0 box 2 r3 q4)) (fun _ => by simp [NoF.no, NoFK.no]) (fun _ => rfl)) (fun r3 e6 k5 => (e_powC (e_cI 10) (e_cI 40))) (fun _ _ h => pf_mul h)) (fun r7 e10 k9 => (ee_op2p (ee_call0 (dr := (fun (r11 : (Int × ((List Int) × Int × Int × Int))) => cI r11.1)) k9 rfl (ea_mv (ea_ev (e_powC (e_cI 10) (e_cI 18)) (ea_nil k9))) rfl (fun r11 q12 => (congrArg ff__law_take (l_cons (rfl) (l_cons (rfl) l_nil))).trans (ty__law_take_0 r7.1.2 1000000000000000000 r11 q12)) (fun _ => by simp [NoF.no, NoFK.no]) (fun _ => rfl)) (fun r11 e14 k13 => (ee_call0 (dr := (fun (r15 : (Int × ((List Int) × Int × Int × Int))) => cI r15.1)) k13 rfl (ea_mv (ea_ev (e_cI 3) (ea_nil k13))) rfl (fun r15 q16 => (congrArg ff__law_take (l_cons (rfl) (l_cons (rfl) l_nil))).trans (ty__law_take_0 r11.2 3 r15 q16)) (fun _ => by simp [NoF.no, NoFK.no]) (fun _ => rfl))) (fun _ _ _ h => pf_mul h))) (fun _ _ => rfl) (fun _ _ => rfl)) fun r19 e1 k2 => (s_setE (i := 5) (ee_call0 (dr := (fun (r22 : (Int × ((List Int) × Int × Int × Int))) => cI r22.1)) k2 rfl (ea_mv (ea_ev (e_cI 6) (ea_nil k2))) rfl (fun r22 q23 => (congrArg ff__law_take (l_cons (rfl) (l_cons (rfl) l_nil))).trans (ty__law_take_0 r19.2.1.2.2 6 r22 q23)) (fun _ => by simp [NoF.no, NoFK.no]) (fun _ => rfl)) fun r22 e20 k21 => (s_seq (s_if (Q := fun (j26 : (Int)) => [some ((cR .o (Ow.k2 (cL .o cI) (Ow.k2 cI (Ow.k2 cI (Ow.k1 cI))))) r22.2), some (cI j26), some (cI c), some (cI s), some (cI (r19.1.2 + r19.2.2)), some (cI r22.1)]) (e_B (e_eq (e_var (i := 5) (d := cI r22.1) k21 rfl) (e_cI 0))) (fun _ => (s_last (s_let (i := 1) (ct := cI) (e_sub (e_cI 0) (e_var (i := 4) (d := cI (r19.1.2 + r19.2.2)) k21 rfl)) k21 fun r e24 k25 => (s_skip (k25.le (le_some (le_some (le_some (le_some (le_some (le_some le_nil))))))) rfl)))) (fun _ => (s_skip (k21.le (le_some (le_some (le_some (le_some (le_some (le_some le_nil))))))) rfl))) fun j26 e27 k28 => (s_seq (s_if (Q := fun (j31 : (Int)) => [some ((cR .o (Ow.k2 (cL .o cI) (Ow.k2 cI (Ow.k2 cI (Ow.k1 cI))))) r22.2), some (cI j26), some (cI j31), some (cI s), some (cI (r19.1.2 + r19.2.2)), some (cI r22.1)]) (e_B (e_eq (e_var (i := 5) (d := cI r22.1) k28 rfl) (e_cI 1))) (fun _ => (s_last (s_let (i := 2) (ct := cI) (e_sub (e_cI 0) (e_var (i := 4) (d := cI (r19.1.2 + r19.2.2)) k28 rfl)) k28 fun c e29 k30 => (s_skip (k30.le (le_some (le_some (le_some (le_some (le_some (le_some le_nil))))))) rfl)))) (fun _ => (s_skip (k28.le (le_some (le_some (le_some (le_some (le_some (le_some le_nil))))))) rfl))) fun j31 e32 k33 => (s_seq (s_if (Q := fun (j36 : (Int)) => [some ((cR .o (Ow.k2 (cL .o cI) (Ow.k2 cI (Ow.k2 cI (Ow.k1 cI))))) r22.2), some (cI j26), some (cI j31), some (cI j36), some (cI (r19.1.2 + r19.2.2)), some (cI r22.1)]) (e_B (e_eq (e_var (i := 5) (d := cI r22.1) k33 rfl) (e_cI 2))) (fun _ => (s_last (s_let (i := 3) (ct := cI) (e_sub (e_neg (e_cI 1)) (e_var (i := 4) (d := cI (r19.1.2 + r19.2.2)) k33 rfl)) k33 fun s e34 k35 => (s_skip (k35.le (le_some (le_some (le_some (le_some (le_some (le_some le_nil))))))) rfl)))) (fun _ => (s_skip (k33.le (le_some (le_some (le_some (le_some (le_some (le_some le_nil))))))) rfl))) fun j36 e37 k38 => (s_seq (s_if (Q := fun (j41 : (Int)) => [some ((cR .o (Ow.k2 (cL .o cI) (Ow.k2 cI (Ow.k2 cI (Ow.k1 cI))))) r22.2), some (cI j26), some (cI j31), some (cI j41), some (cI (r19.1.2 + r19.2.2)), some (cI r22.1)]) (e_B (e_eq (e_var (i := 5) (d := cI r22.1) k38 rfl) (e_cI 3))) (fun _ => (s_last (s_let (i := 3) (ct := cI) (e_add (e_var (i := 2) k38 rfl) (e_var (i := 4) (d := cI (r19.1.2 + r19.2.2)) k38 rfl)) k38 fun s e39 k40 => (s_skip (k40.le (le_some (le_some (le_some (le_some (le_some (le_some le_nil))))))) rfl)))) (fun _ => (s_skip (k38.le (le_some (le_some (le_some (le_some (le_some (le_some le_nil))))))) rfl))) fun j41 e42 k43 => (s_seq (s_if (Q := fun (j47 : (Int)) => [some ((cR .o (Ow.k2 (cL .o cI) (Ow.k2 cI (Ow.k2 cI (Ow.k1 cI))))) r22.2), some (cI j47), some (cI j31), some (cI j41), some (cI (r19.1.2 + r19.2.2)), some (cI r22.1)]) (e_B (e_eq (e_var (i := 5) (d := cI r22.1) k43 rfl) (e_cI 4))) (fun _ => (s_last (ES.hoist (v_div (e_cI 40) (e_max2 (e_cI 1) (e_var (i := 2) k43 rfl))) fun v46 hv46 => (s_let (i := 1) (ct := cI) (e_add (e_add hv46 (e_cI 1)) (e_var (i := 4) (d := cI (r19.1.2 + r19.2.2)) k43 rfl)) k43 fun r e44 k45 => (s_skip (k45.le (le_some (le_some (le_some (le_some (le_some (le_some le_nil))))))) rfl))))) (fun _ => (s_skip (k43.le (le_some (le_some (le_some (le_some (le_some (le_some le_nil))))))) rfl))) fun j47 e48 k49 => (s_seq (s_if (Q := fun (j53 : (Int)) => [some ((cR .o (Ow.k2 (cL .o cI) (Ow.k2 cI (Ow.k2 cI (Ow.k1 cI))))) r22.2), some (cI j47), some (cI j53), some (cI j41), some (cI (r19.1.2 + r19.2.2)), some (cI r22.1)]) (e_B (e_eq (e_var (i := 5) (d := cI r22.1) k49 rfl) (e_cI 5))) (fun _ => (s_last (ES.hoist (v_div (e_cI 40) (e_max2 (e_cI 1) (e_var (i := 1) k49 rfl))) fun v52 hv52 => (s_let (i := 2) (ct := cI) (e_add (e_add hv52 (e_cI 1)) (e_var (i := 4) (d := cI (r19.1.2 + r19.2.2)) k49 rfl)) k49 fun c e50 k51 => (s_skip (k51.le (le_some (le_some (le_some (le_some (le_some (le_some le_nil))))))) rfl))))) (fun _ => (s_skip (k49.le (le_some (le_some (le_some (le_some (le_some (le_some le_nil))))))) rfl))) fun j53 e54 k55 => (s_ret (show _ = some ((cT (Ow.k2 cI (Ow.k2 cI (Ow.k1 cI)))) (j47, j53, j41)) from e_mk (e_cons (e_pure (e_var (i := 1) k55 rfl)) (e_cons (e_pure (e_var (i := 2) k55 rfl)) (e_cons (e_pure (e_var (i := 3) k55 rfl)) e_nil)))) (k55.le (le_some (le_none (le_none (le_none (le_none (le_none le_nil))))))) rfl)))))))))) _ (Mt.start (ds := [(cR .o (Ow.k2 (cL .o cI) (Ow.k2 cI (Ow.k2 cI (Ow.k1 cI))))) box, cI r, cI c, cI s]) (n := 6))) (fun _ => rfl)
theorem ty__law_refused_0 (r : Int) (c : Int) (s : Int) : ∀ rz, Td.l_refused r c s = some rz → ff__law_refused [cI r, cI c, cI s] = some (cB rz) :=
  run_p (c := cB) (Q := fun _ => List.replicate 4 none) ((show ∀ e0 : Ow.Env, Mt [some (cI r), some (cI c), some (cI s), none] e0 → ES bb__law_refused e0 (Td.l_refused r c s) (fnK cB) (fun _ => List.replicate 4 none) from fun e0 h0 => by delta bb__law_refused Td.l_refused; exact (s_aft (w := fun (r_ : Bool) => r_) (s_tryT (cr := cB) (Pr := (fun _ => List.replicate 4 none)) (Pl := fun (s17 : Unit) => [some (cI r), some (cI c), some (cI s), none]) (Px := [some (cI r), some (cI c), some (cI s), none]) (s_last (s_dropX (ct := (cL .o (cL .o cI))) (w := fun n_ => Lp.rt (Rx.ex n_)) (ee_callX (c := (cL .o (cL .o cI))) (e_cons (e_var (i := 0) h0 rfl) (e_cons (e_var (i := 1) h0 rfl) (e_cons (e_var (i := 2) h0 rfl) e_nil))) (fun r1 q2 => (congrArg ff_fours (fz_cons (fz_cons (fz_cons fz_nil)))).trans (ty_fours_0 r c s r1 q2)) h0) (fun _ e3 k4 => (s_skip (k4.le (le_some (le_some (le_some (le_none le_nil))))) rfl)) (fun n_ e_ h_ => (h_.le (le_some (le_some (le_some (le_none le_nil)))))) (fun n_ => rfl))) (fun n5 e6 k7 => (h_only (s_ret (e_cB false) (k7.any rfl) rfl) (h_as (i := 3) k7 (fun e10 k11 => (ES.hoist v_isx fun v12 hv12 => (ES.hoist (v_andV (e_boolP hv12) fun _ => (EV.hoist v_isx fun v13 hv13 => (EV.hoist (v_andV (e_boolP hv13) fun _ => (EV.hoist v_isx fun v14 hv14 => (EV.tot (e_notP (e_boolP hv14))))) fun b15 hb15 => (EV.tot hb15)))) fun b16 hb16 => (s_ret hb16 (k11.any rfl) rfl)))) (fun x e h => by cases x <;> exact h.gone rfl) h_nil)))) (fun s18 e19 k20 => (s_ret (e_cB false) (k20.any rfl) rfl)) (fun r_ _ hr => hr) (fun r_ => rfl))) _ (Mt.start (ds := [cI r, cI c, cI s]) (n := 4)))
theorem ty__law_refused_by_any_0 (r : Int) (c : Int) (s : Int) : ∀ rz, Td.l_refused_by_any r c s = some rz → ff__law_refused_by_any [cI r, cI c, cI s] = some (cB rz) :=
  run_p (c := cB) (Q := fun _ => List.replicate 3 none) ((show ∀ e0 : Ow.Env, Mt [some (cI r), some (cI c), some (cI s)] e0 → ES bb__law_refused_by_any e0 (Td.l_refused_by_any r c s) (fnK cB) (fun _ => List.replicate 3 none) from fun e0 h0 => by delta bb__law_refused_by_any Td.l_refused_by_any; exact (s_aft (w := fun (r_ : Bool) => r_) (s_tryT (cr := cB) (Pr := (fun _ => List.replicate 3 none)) (Pl := fun (s10 : Unit) => [some (cI r), some (cI c), some (cI s)]) (Px := [some (cI r), some (cI c), some (cI s)]) (s_last (s_dropX (ct := (cL .o (cL .o cI))) (w := fun n_ => Lp.rt (Rx.ex n_)) (ee_callX (c := (cL .o (cL .o cI))) (e_cons (e_var (i := 0) h0 rfl) (e_cons (e_var (i := 1) h0 rfl) (e_cons (e_var (i := 2) h0 rfl) e_nil))) (fun r1 q2 => (congrArg ff_fours (fz_cons (fz_cons (fz_cons fz_nil)))).trans (ty_fours_0 r c s r1 q2)) h0) (fun _ e3 k4 => (s_skip (k4.le (le_some (le_some (le_some le_nil)))) rfl)) (fun n_ e_ h_ => (h_.le (le_some (le_some (le_some le_nil))))) (fun n_ => rfl))) (fun n5 e6 k7 => (h_only (s_ret (e_cB true) (k7.any rfl) rfl) h_nil))) (fun s11 e12 k13 => (s_ret (e_cB false) (k13.any rfl) rfl)) (fun r_ _ hr => hr) (fun r_ => rfl))) _ (Mt.start (ds := [cI r, cI c, cI s]) (n := 3)))
theorem ty_law_0 (script : (List Int)) : ∀ rz, Td.law_k35 script = some rz → ff_law [(cL .w cI) script] = some (cB rz) :=
  run_p (c := cB) (Q := fun _ => List.replicate 10 none) ((show ∀ e0 : Ow.Env, Mt [some ((cL .w cI) script), none, none, none, none, none, none, none, none, none] e0 → ES bb_law e0 (Td.law_k35 script) (fnK cB) (fun _ => List.replicate 10 none) from fun e0 h0 => by delta bb_law Td.law_k35; exact (s_let (i := 1) (ct := (cR .o (Ow.k2 (cL .o cI) (Ow.k2 cI (Ow.k2 cI (Ow.k1 cI)))))) (show _ = some ((cR .o (Ow.k2 (cL .o cI) (Ow.k2 cI (Ow.k2 cI (Ow.k1 cI))))) (script, 0, 0, 0)) from e_mk (e_cons (e_list (e_var (i := 0) h0 rfl)) (e_cons (e_cI 0) (e_cons (e_cI 0) (e_cons (e_cI 0) e_nil))))) h0 fun box e1 k2 => (s_setE (i := 2) (ee_itemR (show _ = some ((cL .o cI) [0, 0, 0, 0, 0, 1, 1, 2]) from e_mk (e_cons (e_cI 0) (e_cons (e_cI 0) (e_cons (e_cI 0) (e_cons (e_cI 0) (e_cons (e_cI 0) (e_cons (e_cI 1) (e_cons (e_cI 1) (e_cons (e_cI 2) e_nil))))))))) (ee_call0 (dr := (fun (r5 : (Int × ((List Int) × Int × Int × Int))) => cI r5.1)) k2 rfl (ea_mv (ea_ev (e_cI 8) (ea_nil k2))) rfl (fun r5 q6 => (congrArg ff__law_take (l_cons (rfl) (l_cons (rfl) l_nil))).trans (ty__law_take_0 box 8 r5 q6)) (fun _ => by simp [NoF.no, NoFK.no]) (fun _ => rfl))) fun r7 e3 k4 => (s_asgE (Pb := fun (r9 : ((Int × Int × Int) × ((List Int) × Int × Int × Int))) => [some ((cL .w cI) script), some ((cR .o (Ow.k2 (cL .o cI) (Ow.k2 cI (Ow.k2 cI (Ow.k1 cI))))) r9.2), some (cI r7.2), some (cI r9.1.1), some (cI r9.1.2.1), some (cI r9.1.2.2), none, none, none, none]) (ee_call0 (dr := (fun (r9 : ((Int × Int × Int) × ((List Int) × Int × Int × Int))) => (cT (Ow.k2 cI (Ow.k2 cI (Ow.k1 cI)))) r9.1)) k4 rfl (ea_mv (ea_nil k4)) rfl (fun r9 q10 => (congrArg ff__law_numbers (l_cons (rfl) l_nil)).trans (ty__law_numbers_0 r7.1.2 r9 q10)) (fun _ => by simp [NoF.no, NoFK.no]) (fun _ => rfl)) (fun r9 => (b_tp (b_cons b_nm (b_cons b_nm (b_cons b_nm b_nil))))) fun r9 e11 k12 => (s_setV (i := 6) (v_fn (c := (cL .o (cL .o cI))) (e_cons (e_var (i := 3) (d := cI r9.1.1) k12 rfl) (e_cons (e_var (i := 4) (d := cI r9.1.2.1) k12 rfl) (e_cons (e_var (i := 5) (d := cI r9.1.2.2) k12 rfl) e_nil))) (fun r15 q16 => (congrArg ff__law_fours (fz_cons (fz_cons (fz_cons fz_nil)))).trans (ty__law_fours_0 r9.1.1 r9.1.2.1 r9.1.2.2 r15 q16))) k12 fun due e13 k14 => (ES.hoist (v_fnN (c := (cL .o (cL .o cI))) (e_cons (e_var (i := 3) (d := cI r9.1.1) k14 rfl) (e_cons (e_var (i := 4) (d := cI r9.1.2.1) k14 rfl) (e_cons (e_var (i := 5) (d := cI r9.1.2.2) k14 rfl) e_nil))) (fun r18 q19 => (congrArg ff_fours (fz_cons (fz_cons (fz_cons fz_nil)))).trans (ty_fours_0 r9.1.1 r9.1.2.1 r9.1.2.2 r18 q19))) fun r20 hr20 => (ES.hoist (v_fn (c := cB) (e_cons hr20 (e_cons (e_var (i := 6) k14 rfl) e_nil)) (fun r21 q22 => (congrArg ff__law_rows (fz_cons (fz_cons fz_nil))).trans (ty__law_rows_0 r20 due r21 q22))) fun r23 hr23 => (s_ifx (e_not (e_truB hr23)) (fun _ => (s_ret (e_cB false) (k14.any rfl) ⟨rfl, fun z => nomatch z⟩)) (fun _ => (s_sk (s_setV (i := 7) (v_fnN (c := (cL .o (cL .o cI))) (e_cons (e_var (i := 3) (d := cI r9.1.1) k14 rfl) (e_cons (e_var (i := 4) (d := cI r9.1.2.1) k14 rfl) (e_cons (e_var (i := 5) (d := cI r9.1.2.2) k14 rfl) e_nil))) (fun r26 q27 => (congrArg ff_fours (fz_cons (fz_cons (fz_cons fz_nil)))).trans (ty_fours_0 r9.1.1 r9.1.2.1 r9.1.2.2 r26 q27))) k14 fun told e24 k25 => (ES.bindE fun z29 hz29 => (s_app (pl_item (pl_name (i := 7) k25 rfl) (e_cI 0) hz29) (e_cI 7) k25 fun z30 e31 k32 => (s_drop (ee_pop0 (pl_name (i := 7) k32 rfl) k32) fun r33 e34 k35 => (ES.hoist (v_fnN (c := (cL .o (cL .o cI))) (e_cons (e_var (i := 3) (d := cI r9.1.1) k35 rfl) (e_cons (e_var (i := 4) (d := cI r9.1.2.1) k35 rfl) (e_cons (e_var (i := 5) (d := cI r9.1.2.2) k35 rfl) e_nil))) (fun r36 q37 => (congrArg ff_fours (fz_cons (fz_cons (fz_cons fz_nil)))).trans (ty_fours_0 r9.1.1 r9.1.2.1 r9.1.2.2 r36 q37))) fun r38 hr38 => (ES.hoist (v_fn (c := cB) (e_cons hr38 (e_cons (e_var (i := 6) k35 rfl) e_nil)) (fun r39 q40 => (congrArg ff__law_rows (fz_cons (fz_cons fz_nil))).trans (ty__law_rows_0 r38 due r39 q40))) fun r41 hr41 => (s_ifx (e_not (e_truB hr41)) (fun _ => (s_ret (e_cB false) (k35.any rfl) ⟨rfl, fun z => nomatch z⟩)) (fun _ => (s_sk (ES.hoistL (w_R (rg_1 (e_var (i := 2) (d := cI r7.2) k35 rfl))) fun xs42 hxs42 => (s_seq (s_for (xs := xs42) (s0 := (r9.2, r9.1.1, r9.1.2.1, r9.1.2.2)) (Pl := fun (s44 : (((List Int) × Int × Int × Int) × Int × Int × Int)) => [some ((cL .w cI) script), some ((cR .o (Ow.k2 (cL .o cI) (Ow.k2 cI (Ow.k2 cI (Ow.k1 cI))))) s44.1), some (cI r7.2), some (cI s44.2.1), some (cI s44.2.2.1), some (cI s44.2.2.2), some ((cL .o (cL .o cI)) due), some ((cL .o (cL .o cI)) r33.2), none, none]) (Px := fun (s44 : (((List Int) × Int × Int × Int) × Int × Int × Int)) (x43 : Int) => [some ((cL .w cI) script), some ((cR .o (Ow.k2 (cL .o cI) (Ow.k2 cI (Ow.k2 cI (Ow.k1 cI))))) s44.1), some (cI r7.2), some (cI s44.2.1), some (cI s44.2.2.1), some (cI s44.2.2.2), some ((cL .o (cL .o cI)) due), some ((cL .o (cL .o cI)) r33.2), some (cI x43), none]) hxs42 (k35.le (le_some (le_some (le_some (le_some (le_some (le_some (le_some (le_some (le_none (le_none le_nil))))))))))) (fun s44 x43 => b_nm) (fun s44 x43 e45 k46 => (s_last (s_asgE (Pb := fun (r47 : ((Int × Int × Int) × ((List Int) × Int × Int × Int))) => [some ((cL .w cI) script), some ((cR .o (Ow.k2 (cL .o cI) (Ow.k2 cI (Ow.k2 cI (Ow.k1 cI))))) r47.2), some (cI r7.2), some (cI r47.1.1), some (cI r47.1.2.1), some (cI r47.1.2.2), some ((cL .o (cL .o cI)) due), some ((cL .o (cL .o cI)) r33.2), some (cI x43), none]) (ee_call0 (dr := (fun (r47 : ((Int × Int × Int) × ((List Int) × Int × Int × Int))) => (cT (Ow.k2 cI (Ow.k2 cI (Ow.k1 cI)))) r47.1)) k46 rfl (ea_mv (ea_bor (ea_bor (ea_bor (ea_nil k46))))) rfl (fun r47 q48 => (congrArg ff__law_spoilt (l_cons (rfl) (l_cons (rfl) (l_cons (rfl) (l_cons (rfl) l_nil))))).trans (ty__law_spoilt_0 s44.1 s44.2.1 s44.2.2.1 s44.2.2.2 r47 q48)) (fun _ => by simp [NoF.no, NoFK.no]) (fun _ => rfl)) (fun r47 => (b_tp (b_cons b_nm (b_cons b_nm (b_cons b_nm b_nil))))) fun r47 e49 k50 => (s_skip (k50.le (le_some (le_some (le_some (le_some (le_some (le_some (le_some (le_some (le_none (le_none le_nil))))))))))) (Or.inl rfl)))))) fun s51 e52 k53 => (s_setV (i := 9) (v_andV (e_ge (e_var (i := 3) (d := cI s51.2.1) k53 rfl) (e_cI 1)) fun _ => (EV.hoist (v_andV (e_ge (e_var (i := 4) (d := cI s51.2.2.1) k53 rfl) (e_cI 1)) fun _ => (EV.hoist (v_andV (e_chain (e_cI 0) (e_var (i := 5) (d := cI s51.2.2.2) k53 rfl) (e_var (i := 4) (d := cI s51.2.2.1) k53 rfl) rfl rfl) fun _ => (EV.hoist (v_mul (e_var (i := 3) (d := cI s51.2.1) k53 rfl) (e_var (i := 4) (d := cI s51.2.2.1) k53 rfl)) fun v56 hv56 => (EV.tot (e_le hv56 (e_cI 40))))) fun b57 hb57 => (EV.tot hb57))) fun b58 hb58 => (EV.tot hb58))) k53 fun good e54 k55 => (s_ifx (e_not (e_truB (e_var (i := 9) k55 rfl))) (fun _ => (ES.hoist (v_fn (c := cB) (e_cons (e_var (i := 3) (d := cI s51.2.1) k55 rfl) (e_cons (e_var (i := 4) (d := cI s51.2.2.1) k55 rfl) (e_cons (e_var (i := 5) (d := cI s51.2.2.2) k55 rfl) e_nil))) (fun r60 q61 => (congrArg ff__law_refused (fz_cons (fz_cons (fz_cons fz_nil)))).trans (ty__law_refused_0 s51.2.1 s51.2.2.1 s51.2.2.2 r60 q61))) fun r62 hr62 => (s_retO (v_andV (e_boolP hr62) fun _ => (EV.hoist (v_fn (c := cB) (e_cons (e_var (i := 3) (d := cI s51.2.1) k55 rfl) (e_cons (e_var (i := 4) (d := cI s51.2.2.1) k55 rfl) (e_cons (e_var (i := 5) (d := cI s51.2.2.2) k55 rfl) e_nil))) (fun r63 q64 => (congrArg ff__law_refused_by_any (fz_cons (fz_cons (fz_cons fz_nil)))).trans (ty__law_refused_by_any_0 s51.2.1 s51.2.2.1 s51.2.2.2 r63 q64))) fun r65 hr65 => (EV.tot (e_boolP hr65)))) (fun b66 => (k55.any rfl)) (fun b66 => ⟨rfl, fun z => nomatch z⟩)))) (fun _ => (s_sk (ES.hoist (v_fnN (c := (cL .o (cL .o cI))) (e_cons (e_var (i := 3) (d := cI s51.2.1) k55 rfl) (e_cons (e_var (i := 4) (d := cI s51.2.2.1) k55 rfl) (e_cons (e_var (i := 5) (d := cI s51.2.2.2) k55 rfl) e_nil))) (fun r67 q68 => (congrArg ff_fours (fz_cons (fz_cons (fz_cons fz_nil)))).trans (ty_fours_0 s51.2.1 s51.2.2.1 s51.2.2.2 r67 q68))) fun r69 hr69 => (ES.hoist (v_fn (c := (cL .o (cL .o cI))) (e_cons (e_var (i := 3) (d := cI s51.2.1) k55 rfl) (e_cons (e_var (i := 4) (d := cI s51.2.2.1) k55 rfl) (e_cons (e_var (i := 5) (d := cI s51.2.2.2) k55 rfl) e_nil))) (fun r70 q71 => (congrArg ff__law_fours (fz_cons (fz_cons (fz_cons fz_nil)))).trans (ty__law_fours_0 s51.2.1 s51.2.2.1 s51.2.2.2 r70 q71))) fun r72 hr72 => (s_retO (v_fn (c := cB) (e_cons hr69 (e_cons hr72 e_nil)) (fun r73 q74 => (congrArg ff__law_rows (fz_cons (fz_cons fz_nil))).trans (ty__law_rows_0 r69 r72 r73 q74))) (fun r75 => (k55.any rfl)) (fun r75 => rfl))))))))))))))))))))))))))))) _ (Mt.start (ds := [(cL .w cI) script]) (n := 10)))
end Lw

namespace Td
open Ty
/-! ### rows begun with their least ends -/
def beg (xs : List Int) : List Int := match xs.min? with
  | none => []
  | some m => xs.drop (xs.idxOf m) ++ xs.take (xs.idxOf m)
theorem beg_len {xs : List Int} : (beg xs).length = xs.length := by
  unfold beg
  split
  · rename_i h; rw [List.min?_eq_none_iff.mp h]
  · rw [List.length_append, List.length_drop, List.length_take]
    rename_i m h
    have := List.idxOf_lt_length_of_mem (List.min?_eq_some_iff.mp h).1
    omega
theorem beg_ok {xs : List Int} (hl : xs.length ≤ 16777216) (h : xs ≠ []) : ((pmin xs).bind fun v => (ixOf xs v).bind fun a => cat (sl xs (some a) none) (sl xs none (some a))) = some (beg xs) := by
  unfold beg pmin
  cases hm : xs.min? with
  | none => exact absurd (List.min?_eq_none_iff.mp hm) h
  | some m =>
    have hx := (List.min?_eq_some_iff.mp hm).1
    have hi := List.idxOf_lt_length_of_mem hx
    rw [bs, ixOf_ok hx, bs, sl_hi (by omega), sl_lo (by omega), Int.toNat_natCast, cat_ok (by rw [List.length_drop, List.length_take]; omega)]
theorem begun_ok {xs : List Int} (hl : xs.length ≤ 16777216) : p_begun_least xs = some (beg xs) := by
  unfold p_begun_least
  by_cases h : xs = []
  · subst h; rfl
  · rw [if_neg (by simp [h])]; exact beg_ok hl h
theorem least2_ok {xs : List Int} (hl : xs.length ≤ 16777216) : l_least_2 xs = some (beg xs) := by
  unfold l_least_2
  by_cases h : xs = []
  · subst h; rfl
  · rw [if_neg (by have := List.length_pos_iff.mpr h; omega)]; exact beg_ok hl h
theorem beg_rot {x : Int} {xs : List Int} (hn : (x :: xs).Nodup) : beg (x :: xs) = beg (xs ++ [x]) := by
  have hx : x ∉ xs := (List.nodup_cons.mp hn).1
  have hm : ∃ m, (x :: xs).min? = some m := ⟨_, rfl⟩
  obtain ⟨m, hm⟩ := hm
  have h1 := List.min?_eq_some_iff.mp hm
  have h2 : (xs ++ [x]).min? = some m := List.min?_eq_some_iff.mpr ⟨by simpa [or_comm] using h1.1, fun b hb => h1.2 b (by simpa [or_comm] using hb)⟩
  unfold beg
  rw [hm, h2]
  dsimp only
  by_cases e : m = x
  · subst e
    rw [List.idxOf_cons_self, List.idxOf_append, if_neg hx, List.idxOf_cons_self]
    simp
  · have hm' : m ∈ xs := by
      rcases List.mem_cons.mp h1.1 with z | z
      · exact absurd z e
      · exact z
    have hi := List.idxOf_lt_length_of_mem hm'
    have hc : (x :: xs).idxOf m = xs.idxOf m + 1 := by rw [List.idxOf_cons, show (x == m) = false from beq_eq_false_iff_ne.mpr fun z => e z.symm]; rfl
    rw [hc, List.idxOf_append, if_pos hm', List.drop_succ_cons, List.take_succ_cons, List.drop_append_of_le_length (by omega), List.take_append_of_le_length (by omega)]
    simp
/-! ### tables -/
def tab (n m : Nat) (g : Nat → Nat → Int) : List (List Int) := (List.range n).map fun q => (List.range m).map (g q)
@[simp] theorem tab_len {n m : Nat} {g : Nat → Nat → Int} : (tab n m g).length = n := by simp [tab]
theorem tab_get {n m : Nat} {g : Nat → Nat → Int} {q : Nat} (h : q < n) : (tab n m g)[q]? = some ((List.range m).map (g q)) := by
  unfold tab
  rw [List.getElem?_map, List.getElem?_range h]; rfl
theorem tab_idx {n m : Nat} {g : Nat → Nat → Int} {q : Nat} (h : q < n) : idx (tab n m g) (q : Int) = some ((List.range m).map (g q)) := idx_at (by omega) (by rw [Int.toNat_natCast]; exact tab_get h)
theorem row_idx {m : Nat} {g : Nat → Int} {k : Nat} (h : k < m) : idx ((List.range m).map g) (k : Int) = some (g k) := idx_at (by omega) (by rw [Int.toNat_natCast, List.getElem?_map, List.getElem?_range h]; rfl)
theorem row_put {m : Nat} {g : Nat → Int} {k : Nat} {v : Int} (h : k < m) : putI ((List.range m).map g) (k : Int) v = some ((List.range m).map fun j => if j = k then v else g j) := by
  rw [putI_ok (by omega) (by simp; omega), Int.toNat_natCast]
  congr 1
  apply List.ext_getElem?
  intro j
  rw [List.getElem?_set, List.getElem?_map, List.getElem?_map]
  by_cases hj : j < m
  · rw [List.getElem?_range hj]
    by_cases e : k = j
    · subst e; simp [h]
    · have : ¬ j = k := fun z => e z.symm
      simp [e, this]
  · have : (List.range m)[j]? = none := by simp; omega
    rw [this]
    have : ¬ k = j := by omega
    simp [this]
theorem tab_set {n m : Nat} {g : Nat → Nat → Int} {q : Nat} {r : Nat → Int} (h : q < n) : setI (tab n m g) (q : Int) ((List.range m).map r) = tab n m fun p k => if p = q then r k else g p k := by
  rw [setI_ok (by omega) (by simp; omega), Int.toNat_natCast]
  unfold tab
  apply List.ext_getElem?
  intro j
  rw [List.getElem?_set, List.getElem?_map, List.getElem?_map]
  by_cases hj : j < n
  · rw [List.getElem?_range hj]
    by_cases e : q = j
    · subst e; simp [h]
    · have : ¬ j = q := fun z => e z.symm
      simp [e, this]
  · have : (List.range n)[j]? = none := by simp; omega
    rw [this]
    have : ¬ q = j := by omega
    simp [this]
theorem tab_congr {n m : Nat} {g h : Nat → Nat → Int} (e : ∀ q < n, ∀ k < m, g q k = h q k) : tab n m g = tab n m h := by
  unfold tab
  apply List.map_congr_left
  intro q hq
  apply List.map_congr_left
  intro k hk
  exact e q (List.mem_range.mp hq) k (List.mem_range.mp hk)
/-- a step's goals, and from where each place is come to -/
structure Stp (n : Nat) (goals : List Int) (inv : Nat → Nat) : Prop where
  len : goals.length = n
  lt : ∀ q < n, inv q < n
  to : ∀ q < n, goals[inv q]? = some (q : Int)
  un : ∀ p < n, ∃ q, q < n ∧ goals[p]? = some (q : Int) ∧ inv q = p
/-- what is written of the first steps -/
def sv (size : Nat) (inv : Nat → Nat → Nat) (t : Nat) (q k : Nat) : Int := if k < 2 * t then (if k % 2 = 0 then ((size * q + k : Nat) : Int) else ((size * inv (k / 2) q + k : Nat) : Int)) else 0
/-- and of the first places of the next one -/
def sw (size : Nat) (inv : Nat → Nat → Nat) (t m : Nat) (q k : Nat) : Int :=
  if k = 2 * t then (if q < m then ((size * q + k : Nat) : Int) else 0) else if k = 2 * t + 1 then (if inv t q < m then ((size * inv t q + k : Nat) : Int) else 0) else sv size inv t q k
theorem sw_zero {size : Nat} {inv : Nat → Nat → Nat} {t : Nat} : sw size inv t 0 = sv size inv t := by
  funext q k
  unfold sw sv
  by_cases h1 : k = 2 * t
  · rw [if_pos h1, if_neg (Nat.not_lt_zero _), if_neg (by omega)]
  · rw [if_neg h1]
    by_cases h2 : k = 2 * t + 1
    · rw [if_pos h2, if_neg (Nat.not_lt_zero _), if_neg (by omega)]
    · rw [if_neg h2]
theorem laid_ok {n size S : Nat} {steps : List (List Int)} {clock : List Nat} {inv : Nat → Nat → Nat} (hn : n ≤ 1000) (hS : steps.length = S) (hz : size = 2 * S) (h0 : 0 < S) (hs : S ≤ 100) (hc : clock.length = size) (hk : ∀ k ∈ clock, k < size) (hst : ∀ t (h : t < S), Stp n steps[t] (inv t)) :
    p_laid_out steps (clock.map fun k : Nat => (k : Int)) = some ((List.range n).map fun q => beg (clock.map (sv size inv S q))) := by
  unfold p_laid_out
  rw [lt_eq, List.length_map, hc, idx_at (x := steps[0]) (by omega) (List.getElem?_eq_getElem (by omega)), bs]
  have hl0 := (hst 0 h0).len
  rw [lcp_all (fun _ => List.replicate size 0) (by omega) (fun _ _ => rfl) (fun x _ => by rw [rep_one (by omega) (by omega), bs, Int.toNat_natCast]), bs]
  have e0 : (steps[0].map fun _ => List.replicate size (0 : Int)) = tab n size (sv size inv 0) := by
    apply List.ext_getElem?
    intro q
    by_cases hq : q < n
    · rw [tab_get hq, List.getElem?_map, List.getElem?_eq_getElem (by omega)]
      simp only [Option.map_some, Option.some.injEq]
      apply List.ext_getElem?
      intro k
      rw [List.getElem?_map, List.getElem?_replicate]
      by_cases hk : k < size
      · rw [if_pos hk, List.getElem?_range hk]; simp [sv]
      · rw [if_neg hk, List.getElem?_eq_none (by simp; omega)]; rfl
    · rw [List.getElem?_eq_none (by simp; omega), List.getElem?_eq_none (by simp; omega)]
  rw [e0]
  -- all steps
  have main := forO_at (xs := enu 0 steps) (s := tab n size (sv size inv 0)) (f := fun s12 x11 => (forO (enu 0 x11.2) (s12 : ((List (List Int)))) fun s16 x15 =>
   (pmul (size : Int) x15.1).bind fun v21 =>
   (pmul 2 x11.1).bind fun v22 =>
   Ty.lt (v21 + v22 : Int) fun even =>
   (idx s16 x15.1).bind fun z23 =>
   (pmul 2 x11.1).bind fun v24 =>
   (putI z23 v24 even).bind fun z25 =>
   (idx (setI s16 x15.1 z25) x15.2).bind fun z28 =>
   (pmul 2 x11.1).bind fun v29 =>
   (putI z28 (v29 + 1) (even + 1)).bind fun z30 =>
   some (setI (setI s16 x15.1 z25) x15.2 z30)).bind fun s33 =>
   some s33) (fun t s => s = tab n size (sv size inv t)) rfl (fun t s ht hs => by
    rw [enu_length, hS] at ht
    have et : (enu 0 steps)[t]'(by rw [enu_length]; omega) = ((t : Int), steps[t]) := by
      have := enu_get 0 steps t
      rw [List.getElem?_eq_getElem (by rw [enu_length]; omega), List.getElem?_eq_getElem (by omega)] at this
      simpa using this
    rw [et]
    subst hs
    have st := hst t ht
    have inner := forO_at (xs := enu 0 steps[t]) (s := tab n size (sv size inv t)) (f := fun s16 (x15 : Int × Int) =>
     (pmul (size : Int) x15.1).bind fun v21 =>
     (pmul 2 (t : Int)).bind fun v22 =>
     Ty.lt (v21 + v22 : Int) fun even =>
     (idx s16 x15.1).bind fun z23 =>
     (pmul 2 (t : Int)).bind fun v24 =>
     (putI z23 v24 even).bind fun z25 =>
     (idx (setI s16 x15.1 z25) x15.2).bind fun z28 =>
     (pmul 2 (t : Int)).bind fun v29 =>
     (putI z28 (v29 + 1) (even + 1)).bind fun z30 =>
     some (setI (setI s16 x15.1 z25) x15.2 z30)) (fun m s => s = tab n size (sw size inv t m)) (by rw [sw_zero]) (fun m s hm hs => by
      rw [enu_length, st.len] at hm
      obtain ⟨q, hq, hg, hi⟩ := st.un m hm
      have em : (enu 0 steps[t])[m]'(by rw [enu_length, st.len]; omega) = ((m : Int), (q : Int)) := by
        have := enu_get 0 steps[t] m
        rw [List.getElem?_eq_getElem (by rw [enu_length, st.len]; omega), hg] at this
        simpa using this
      rw [em]
      subst hs
      dsimp only
      have f1 : ((2 : Int) * (t : Int)) = ((2 * t : Nat) : Int) := by omega
      have f2 : ((2 * t : Nat) : Int) + 1 = ((2 * t + 1 : Nat) : Int) := by omega
      rw [pmul_ok (by omega) (by omega), bs, pmul_ok (by decide) (by omega), bs, lt_eq, tab_idx hm, bs, bs, f1, row_put (by omega), bs, tab_set hm, tab_idx hq, bs, bs, f2, row_put (by omega), bs, tab_set hq]
      refine Ok.ret (tab_congr fun p hp k hk => ?_)
      have g1 : (size : Int) * (m : Int) + ((2 * t : Nat) : Int) = ((size * m + 2 * t : Nat) : Int) := by push_cast; rfl
      have g2 : ((size * m + 2 * t : Nat) : Int) + 1 = ((size * m + (2 * t + 1) : Nat) : Int) := by push_cast; omega
      rw [g1, g2]
      have key : inv t p = m ↔ p = q := by
        constructor
        · intro e
          have := st.to p hp
          rw [e, hg] at this
          have := Option.some.inj this
          omega
        · intro e; rw [e, hi]
      unfold sw
      by_cases k1 : k = 2 * t
      · subst k1
        have n1 : ¬ (2 * t = 2 * t + 1) := by omega
        simp only [if_true, n1, if_false]
        by_cases p2 : p = m
        · have p4 : p < m + 1 := by omega
          by_cases p1 : p = q
          · have p5 : q = m := p1.symm.trans p2
            simp only [p1, p5, if_true, if_pos (Nat.lt_succ_self m)]
          · rw [if_neg p1, if_pos p2, if_pos p4, p2]
        · by_cases p1 : p = q
          · have p5 : ¬ q = m := fun z => p2 (p1.trans z)
            by_cases p3 : q < m
            · simp only [p1, p5, if_true, if_false, if_pos p3, if_pos (Nat.lt_succ_of_lt p3)]
            · have p6 : ¬ q < m + 1 := by omega
              simp only [p1, p5, if_true, if_false, p3, p6]
          · by_cases p3 : p < m
            · simp only [p1, p2, if_false, if_pos p3, if_pos (Nat.lt_succ_of_lt p3)]
            · have p6 : ¬ p < m + 1 := by omega
              simp only [p1, p2, if_false, p3, p6]
      · by_cases k2 : k = 2 * t + 1
        · subst k2
          have n1 : ¬ (2 * t + 1 = 2 * t) := by omega
          simp only [if_true, n1, if_false]
          by_cases p1 : p = q
          · have p4 : inv t p = m := key.mpr p1
            simp only [p1, if_true]
            rw [← p1, p4, if_pos (Nat.lt_succ_self m)]
          · have p4 : ¬ inv t p = m := fun z => p1 (key.mp z)
            simp only [p1, if_false]
            have r : (if p = m then (if inv t m < m then ((size * inv t m + (2 * t + 1) : Nat) : Int) else 0) else if inv t p < m then ((size * inv t p + (2 * t + 1) : Nat) : Int) else 0) = if inv t p < m then ((size * inv t p + (2 * t + 1) : Nat) : Int) else 0 := by
              by_cases p2 : p = m
              · rw [if_pos p2, p2]
              · rw [if_neg p2]
            rw [r]
            by_cases p3 : inv t p < m
            · rw [if_pos p3, if_pos (by omega)]
            · rw [if_neg p3, if_neg (by omega)]
        · simp only [k1, k2, if_false]
          by_cases p1 : p = q
          · rw [if_pos p1]
            subst p1
            by_cases p2 : p = m
            · rw [if_pos p2, p2]
            · rw [if_neg p2]
          · rw [if_neg p1]
            by_cases p2 : p = m
            · rw [if_pos p2, p2]
            · rw [if_neg p2])
    rw [enu_length, st.len] at inner
    refine inner.bind fun s hs => Ok.ret ?_
    rw [hs]
    refine tab_congr fun p hp k hk => ?_
    unfold sw sv
    have := st.lt p hp
    by_cases k1 : k = 2 * t
    · subst k1
      rw [if_pos rfl, if_pos hp, if_pos (by omega), if_pos (by omega)]
    · by_cases k2 : k = 2 * t + 1
      · subst k2
        rw [if_neg (by omega), if_pos rfl, if_pos this, if_pos (by omega), if_neg (by omega), show (2 * t + 1) / 2 = t by omega]
      · rw [if_neg k1, if_neg k2]
        by_cases k3 : k < 2 * t
        · have k4 : k < 2 * (t + 1) := by omega
          simp only [if_pos k3, if_pos k4]
        · have k4 : ¬ k < 2 * (t + 1) := by omega
          simp only [if_neg k3, if_neg k4])
  rw [enu_length, hS] at main
  rw [main.eqs, bs]
  rw [lcp_all (fun row => beg (clock.map fun k => row.getD k 0)) (by rw [tab_len]; omega) (fun _ _ => rfl) fun row hr => ?_]
  · congr 1
    unfold tab
    rw [List.map_map]
    apply List.map_congr_left
    intro q hq
    show beg _ = beg _
    congr 1
    apply List.map_congr_left
    intro k hk'
    rw [List.getD, List.getElem?_map, List.getElem?_range (hk k hk')]; rfl
  · obtain ⟨q, hq, rfl⟩ := List.mem_map.mp hr
    rw [lcp_all (fun k => ((List.range size).map (sv size inv S q)).getD k.toNat 0) (by rw [List.length_map]; omega) (fun _ _ => rfl) fun k hk' => ?_, bs, begun_ok (by simp; omega), bs]
    · congr 2
      rw [List.map_map]
      apply List.map_congr_left
      intro k _
      show List.getD _ ((k : Int)).toNat 0 = _
      rw [Int.toNat_natCast]
    · obtain ⟨k, hk2, rfl⟩ := List.mem_map.mp hk'
      have := hk k hk2
      rw [row_idx this, bs, Int.toNat_natCast, List.getD, List.getElem?_map, List.getElem?_range this]; rfl
end Td

namespace Td
open Ty
/-- what is so of the box of a script behind at most n takings -/
def Bx (n : Int) (b : List Int × Int × Int × Int) : Prop := 0 ≤ b.2.1 ∧ 0 ≤ b.2.2.1 ∧ 0 ≤ b.2.2.2 ∧ b.2.2.2 ≤ n
theorem Bx.mono {n m : Int} {b : List Int × Int × Int × Int} (h : Bx n b) (e : n ≤ m) : Bx m b := ⟨h.1, h.2.1, h.2.2.1, Int.le_trans h.2.2.2 e⟩
theorem Bx.start {ns : List Int} : Bx 0 (ns, 0, 0, 0) := ⟨by simp, by simp, by simp, by simp⟩
theorem mixed_ok {cell k many : Int} (h0 : 0 ≤ k) (h1 : k ≤ 2 ^ 40) (hm : 0 < many) : Ok (l_mixed_2 cell k many) fun r => 0 ≤ r ∧ r < many := by
  unfold l_mixed_2
  have b1 := Int.emod_nonneg cell (b := 2147483647) (by decide)
  have b2 := Int.emod_lt_of_pos cell (b := 2147483647) (by decide)
  rw [pmul_ok (by decide) (by omega), bs, ppow_ok (by decide) (by decide) (by omega), bs, lt_eq]
  generalize hx : (cell % 2147483647 + 40503 * k + 17) ^ (5 : Int).toNat = x
  have c1 := Int.emod_nonneg x (b := 2147483647) (by decide)
  have c2 := Int.emod_lt_of_pos x (b := 2147483647) (by decide)
  generalize x % 2147483647 = one at *
  rw [pmul_ok (by omega) (by omega), bs]
  generalize one * (48271 + k) = y
  have d1 := Int.emod_nonneg y (b := 999999937) (by decide)
  have d2 := Int.emod_lt_of_pos y (b := 999999937) (by decide)
  rw [pmul_ok (by omega) (by decide), bs, pmod_ok hm]
  exact Ok.ret ⟨Int.emod_nonneg _ (by omega), Int.emod_lt_of_pos _ hm⟩
theorem take_ok {n many : Int} {b : List Int × Int × Int × Int} (h : Bx n b) (hn : n ≤ 1000000000) (hm : 0 < many) (hM : many < 2 ^ 250) : Ok (l_take b many) fun r => 0 ≤ r.1 ∧ r.1 < many ∧ Bx (n + 1) r.2 := by
  obtain ⟨xs, i, d, k⟩ := b
  obtain ⟨h1, h2, h3, h4⟩ := h
  dsimp only at h1 h2 h3 h4
  unfold l_take
  simp only [lt_eq]
  have mix : ∀ {cell : Int} {b' : List Int × Int × Int × Int}, Bx (n + 1) b' → Ok ((l_mixed_2 cell (k + 1) many).bind fun r => some (r, b')) fun r => 0 ≤ r.1 ∧ r.1 < many ∧ Bx (n + 1) r.2 := fun hb => by
    exact (mixed_ok (by omega) (by omega) hm).bind fun r hr => Ok.ret ⟨hr.1, hr.2, hb⟩
  have drw : ∀ {d : Int} {i : Int}, 0 < d → 0 ≤ i → Ok ((pmod d many).bind fun draw => (pdiv d many).bind fun v => some (draw, (xs, i, v, k + 1))) fun r => 0 ≤ r.1 ∧ r.1 < many ∧ Bx (n + 1) r.2 := fun {d i} hd hi => by
    rw [pmod_ok hm, bs, pdiv_ok hm hM, bs]
    exact Ok.ret ⟨Int.emod_nonneg _ (by omega), Int.emod_lt_of_pos _ hm, hi, Int.ediv_nonneg (by omega) (by omega), by dsimp only; omega, by dsimp only; omega⟩
  have lst : ∀ {i d c : Int}, 0 ≤ i → 0 ≤ d → Ok ((if (0 : Int) < (xs.length : Int) then (pmod (k + 1) (xs.length : Int)).bind fun v23 => (idx xs v23).bind fun cell => some cell else some c : Option Int).bind fun j => (l_mixed_2 j (k + 1) many).bind fun r => some (r, (xs, i, d, k + 1))) fun r => 0 ≤ r.1 ∧ r.1 < many ∧ Bx (n + 1) r.2 := fun {i d c} hi hd => by
    have hb : Bx (n + 1) (xs, i, d, k + 1) := ⟨hi, hd, by dsimp only; omega, by dsimp only; omega⟩
    refine Ok.bind (Q := fun _ => True) (Ok.ite (fun hl => ?_) fun _ => Ok.ret trivial) fun c _ => mix hb
    rw [pmod_ok hl, bs, idx_ok (Int.emod_nonneg _ (by omega)) (Int.emod_lt_of_pos _ hl), bs]
    exact Ok.ret trivial
  refine Ok.ite (fun hc => ?_) fun hc => Ok.ite (fun hd => drw hd h1) fun hd => lst h1 h2
  rw [idx_ok h1 hc.2, bs]
  refine Ok.ite (fun _ => mix ⟨by dsimp only; omega, h2, by dsimp only; omega, by dsimp only; omega⟩) fun hcell => ?_
  refine Ok.ite (fun hd => drw hd (by omega)) fun hd => lst (by omega) (by omega)
end Td

namespace Td
open Ty
/-! ### places by rows and columns -/
theorem dm {c i j : Nat} (h : j < c) : (i * c + j) / c = i ∧ (i * c + j) % c = j := by
  have hc : 0 < c := by omega
  rw [Nat.mul_comm]
  exact ⟨by rw [Nat.mul_add_div hc, Nat.div_eq_of_lt h, Nat.add_zero], by rw [Nat.mul_add_mod, Nat.mod_eq_of_lt h]⟩
theorem dmE {c q : Nat} (h : 0 < c) : ∃ i j, q = i * c + j ∧ j < c ∧ q / c = i ∧ q % c = j := ⟨q / c, q % c, by rw [Nat.mul_comm]; exact (Nat.div_add_mod q c).symm, Nat.mod_lt _ h, rfl, rfl⟩
theorem cmod {a b : Nat} : ((a : Int) % (b : Int)) = ((a % b : Nat) : Int) := rfl
def rgt (c q : Nat) : Nat := q / c * c + (q % c + 1) % c
def rgtI (c q : Nat) : Nat := q / c * c + (q % c + (c - 1)) % c
def upp (r c s q : Nat) : Nat := if q < (r - 1) * c then q + c else (q - (r - 1) * c + s) % c
def uppI (r c s q : Nat) : Nat := if q < c then (r - 1) * c + (q + (c - s)) % c else q - c
theorem md_back {c j s : Nat} (hj : j < c) (hs : s < c) : ((j + (c - s)) % c + s) % c = j := by
  by_cases h : s ≤ j
  · rw [show j + (c - s) = (j - s) + c by omega, Nat.add_mod_right, Nat.mod_eq_of_lt (by omega : j - s < c), show j - s + s = j by omega, Nat.mod_eq_of_lt hj]
  · rw [Nat.mod_eq_of_lt (by omega : j + (c - s) < c), show j + (c - s) + s = j + c by omega, Nat.add_mod_right, Nat.mod_eq_of_lt hj]
theorem md_forth {c j s : Nat} (hj : j < c) (hs : s < c) : ((j + s) % c + (c - s)) % c = j := by
  by_cases h : j + s < c
  · rw [Nat.mod_eq_of_lt h, show j + s + (c - s) = j + c by omega, Nat.add_mod_right, Nat.mod_eq_of_lt hj]
  · rw [show j + s = (j + s - c) + c by omega, Nat.add_mod_right, Nat.mod_eq_of_lt (by omega : j + s - c < c), show j + s - c + (c - s) = j by omega, Nat.mod_eq_of_lt hj]
theorem md_one {c j : Nat} (hj : j < c) : (j + 1) % c = (j + 1 % c) % c := by
  rw [Nat.add_mod]
  by_cases h : c = 1
  · subst h; simp [Nat.mod_one]
  · rw [Nat.mod_eq_of_lt hj]
theorem rgt_lt {r c q : Nat} (hc : 0 < c) (h : q < r * c) : rgt c q < r * c ∧ rgtI c q < r * c ∧ rgt c (rgtI c q) = q ∧ rgtI c (rgt c q) = q := by
  obtain ⟨i, j, e, hj, h1, h2⟩ := dmE (q := q) hc
  have hi : i < r := by
    rw [← h1]
    exact (Nat.div_lt_iff_lt_mul hc).mpr h
  have hm : (i + 1) * c ≤ r * c := Nat.mul_le_mul_right c hi
  rw [Nat.add_mul, Nat.one_mul] at hm
  have a1 : (j + 1) % c < c := Nat.mod_lt _ hc
  have a2 : (j + (c - 1)) % c < c := Nat.mod_lt _ hc
  have d1 := dm (i := i) a1
  have d2 := dm (i := i) a2
  unfold rgt rgtI
  rw [h1, h2, d1.1, d1.2, d2.1, d2.2]
  refine ⟨by omega, by omega, ?_, ?_⟩
  · by_cases h1c : c = 1
    · subst h1c
      have : j = 0 := by omega
      subst this
      rw [e] <;> simp
    · rw [md_back hj (by omega : 1 < c), e]
  · by_cases h1c : c = 1
    · subst h1c
      have : j = 0 := by omega
      subst this
      rw [e] <;> simp
    · rw [md_forth hj (by omega : 1 < c), e]
theorem upp_lt {r c s q : Nat} (hr : 0 < r) (hs : s < c) (h : q < r * c) : upp r c s q < r * c ∧ uppI r c s q < r * c ∧ upp r c s (uppI r c s q) = q ∧ uppI r c s (upp r c s q) = q := by
  obtain ⟨r, rfl⟩ : ∃ k, r = k + 1 := ⟨r - 1, by omega⟩
  have hc : 0 < c := by omega
  unfold upp uppI
  rw [Nat.add_sub_cancel]
  rw [Nat.add_mul, Nat.one_mul] at h ⊢
  refine ⟨?_, ?_, ?_, ?_⟩
  · split
    · omega
    · have := Nat.mod_lt (q - r * c + s) hc
      omega
  · split
    · have := Nat.mod_lt (q + (c - s)) hc
      omega
    · omega
  · by_cases h1 : q < c
    · rw [if_pos h1, if_neg (by omega), show r * c + (q + (c - s)) % c - r * c = (q + (c - s)) % c by omega, md_back h1 hs]
    · rw [if_neg h1, if_pos (by omega)]; omega
  · by_cases h1 : q < r * c
    · rw [if_pos h1, if_neg (by omega)]; omega
    · rw [if_neg h1, if_pos (Nat.mod_lt _ hc), md_forth (by omega) hs]; omega
/-- a list over rows and columns -/
theorem lcq_ok {α : Type} {r c : Nat} {p : Int → Option Bool} {b : Int → Option (List α)} (H : Nat → α) (hl : r * c ≤ 1000) (hp : ∀ x, p x = some true) (hb : ∀ i : Nat, i < r → b (i : Int) = some ((List.range c).map fun j => H (i * c + j))) :
    lcq (span 0 (r : Int)) p b = some ((List.range (r * c)).map H) := by
  have key : ∀ k : Nat, k ≤ r → lcqO p b (span ((r - k : Nat) : Int) (r : Int)) = some ((List.range (k * c)).map fun j => H ((r - k) * c + j)) := by
    intro k
    induction k with
    | zero => intro _; rw [span_nil (by omega), lcqO]; simp
    | succ k ih =>
      intro hk
      rw [span_cons (by omega), lcqO, hp, bs, if_pos rfl, hb _ (by omega), bs, show ((r - (k + 1) : Nat) : Int) + 1 = ((r - k : Nat) : Int) by omega, ih (by omega), Option.map_some]
      congr 1
      rw [show (k + 1) * c = c + k * c by rw [Nat.add_mul, Nat.one_mul, Nat.add_comm], List.range_add, List.map_append, List.map_map]
      congr 1
      apply List.map_congr_left
      intro j _
      show H _ = H _
      congr 1
      rw [show r - k = (r - (k + 1)) + 1 by omega, Nat.add_mul, Nat.one_mul, Nat.add_assoc]
  have := key r (Nat.le_refl _)
  rw [Nat.sub_self] at this
  unfold lcq
  rw [show ((0 : Nat) : Int) = 0 from rfl] at this
  rw [this, bs, if_pos (by simp; omega)]
  simp
theorem span_map {α : Type} {n : Nat} {f : Int → α} : (span 0 (n : Int)).map f = (List.range n).map fun i : Nat => f (i : Int) := by
  unfold span
  rw [List.map_map, show ((n : Int) - 0).toNat = n by omega]
  apply List.map_congr_left
  intro i _
  show f (0 + (i : Int)) = f (i : Int)
  rw [Int.zero_add]
theorem mem_spanN {n : Nat} {x : Int} (h : x ∈ span 0 (n : Int)) : ∃ j : Nat, x = (j : Int) ∧ j < n := by
  have := mem_span.mp h
  exact ⟨x.toNat, by omega, by omega⟩
theorem rights_ok {r c : Nat} (hc : 0 < c) (hr : r ≤ 1000) (hc2 : c ≤ 1000) (hl : r * c ≤ 1000) : p_rights_of (r : Int) (c : Int) = some ((List.range (r * c)).map fun q => ((rgt c q : Nat) : Int)) := by
  unfold p_rights_of
  rw [rng_ok (by omega) (by omega) (by omega) (by omega), bs]
  refine lcq_ok (fun q => ((rgt c q : Nat) : Int)) hl (fun _ => rfl) fun i hi => ?_
  rw [rng_ok (by omega) (by omega) (by omega) (by omega), bs, lcO_map (pb := fun _ => true) (g := fun x => (((i * c + (x.toNat + 1) % c : Nat)) : Int)) (fun _ _ => rfl) fun x hx _ => ?_, List.filter_eq_self.mpr (fun _ _ => rfl), span_map]
  · congr 1
    apply List.map_congr_left
    intro j hj
    have hj := List.mem_range.mp hj
    show (((i * c + (((j : Int)).toNat + 1) % c : Nat)) : Int) = ((rgt c (i * c + j) : Nat) : Int)
    unfold rgt
    rw [(dm hj).1, (dm hj).2, Int.toNat_natCast]
  · obtain ⟨j, rfl, hj⟩ := mem_spanN hx
    rw [pmul_ok (by omega) (by omega), bs, pmod_ok (by omega), bs, Int.toNat_natCast]
    congr 1
theorem uppers_ok {r c s : Nat} (hr0 : 0 < r) (hc : 0 < c) (hr : r ≤ 1000) (hc2 : c ≤ 1000) (hl : r * c ≤ 1000) (hs : s < c) : p_uppers_of (r : Int) (c : Int) (s : Int) = some ((List.range (r * c)).map fun q => ((upp r c s q : Nat) : Int)) := by
  obtain ⟨r, rfl⟩ : ∃ k, r = k + 1 := ⟨r - 1, by omega⟩
  unfold p_uppers_of
  have e1 : (((r + 1 : Nat) : Int) - 1) = (r : Int) := by omega
  have hl' := hl
  rw [Nat.add_mul, Nat.one_mul] at hl'
  rw [e1, pmul_ok (by omega) (by omega), bs, show (r : Int) * (c : Int) = ((r * c : Nat) : Int) from rfl, rng_ok (by omega) (by omega) (by omega) (by omega), bs, lcm_ok (by simp; omega), bs, rng_ok (by omega) (by omega) (by omega) (by omega), bs,
    lcp_all (fun x => (((x.toNat + s) % c : Nat) : Int)) (by simp; omega) (fun _ _ => rfl) (fun x hx => by
      obtain ⟨j, rfl, hj⟩ := mem_spanN hx
      rw [pmod_ok (by omega), bs, Int.toNat_natCast]; rfl), bs, span_map, span_map, cat_ok (by simp; omega)]
  congr 1
  rw [Nat.add_mul, Nat.one_mul, List.range_add, List.map_append, List.map_map]
  congr 1
  · apply List.map_congr_left
    intro q hq
    have hq := List.mem_range.mp hq
    unfold upp
    rw [Nat.add_sub_cancel, if_pos hq]; rfl
  · apply List.map_congr_left
    intro q hq
    show _ = ((upp (r + 1) c s (r * c + q) : Nat) : Int)
    unfold upp
    rw [Nat.add_sub_cancel, if_neg (by omega), Int.toNat_natCast, show r * c + q - r * c = q by omega]
/-! ### rows alike -/
theorem enu_mid {α : Type} {xs : List α} {pre post : List (Int × α)} {x : Int × α} (e : enu 0 xs = pre ++ x :: post) : x.1 = (pre.length : Int) ∧ xs[pre.length]? = some x.2 := by
  have := enu_get 0 xs pre.length
  rw [e, List.getElem?_append_right (Nat.le_refl _), Nat.sub_self, List.getElem?_cons_zero] at this
  cases h : xs[pre.length]? with
  | none => rw [h] at this; cases this
  | some y =>
    rw [h, Option.map_some] at this
    cases Option.some.inj this
    exact ⟨by simp, rfl⟩
theorem idx_pre {α : Type} {pre post : List α} {x : α} : idx (pre ++ x :: post) ((0 + pre.length : Nat) : Int) = some x := idx_at (by omega) (by rw [Int.toNat_natCast]; simp)
theorem l_row_ok {xs : List Int} : l_row xs xs = some true := by
  unfold l_row
  rw [if_neg (by simp)]
  refine (aft_for (Q := (· = true)) (I := fun pre _ => True) (fun _ => False) trivial (fun pre x post s e _ => ?_) (fun _ _ => Ok.ret rfl) fun _ h => h.elim).eqs
  obtain ⟨e1, e2⟩ := enu_mid e
  have h1 : idx xs x.1 = some x.2 := by rw [e1]; exact idx_at (by omega) (by rw [Int.toNat_natCast]; exact e2)
  rw [h1, bs]
  refine Ok.bindE (a := true) (by unfold l_whole; simp) (Ok.bindE (a := false) (by simp) (Ok.neg (by simp) (Ok.ret trivial)))
theorem l_rows_ok {xs : List (List Int)} : l_rows_2 xs xs = some true := by
  unfold l_rows_2
  rw [if_neg (by simp)]
  refine (aft_for (Q := (· = true)) (I := fun pre _ => True) (fun _ => False) trivial (fun pre x post s e _ => ?_) (fun _ _ => Ok.ret rfl) fun _ h => h.elim).eqs
  obtain ⟨e1, e2⟩ := enu_mid e
  have h1 : idx xs x.1 = some x.2 := by rw [e1]; exact idx_at (by omega) (by rw [Int.toNat_natCast]; exact e2)
  rw [h1, bs]
  exact Ok.bindE (a := true) l_row_ok (Ok.neg (by simp) (Ok.ret trivial))
/-! ### numbers drawn -/
theorem numbers_ok {n : Int} {b : List Int × Int × Int × Int} (h : Bx n b) (hn : n ≤ 1000) : Ok (l_numbers b) fun r => Bx (n + 5) r.2 ∧ ∃ x y z : Nat, r.1 = ((x : Int), (y : Int), (z : Int)) ∧ 0 < x ∧ z < y ∧ x * y ≤ 40 := by
  unfold l_numbers
  have fin : ∀ {b' : List Int × Int × Int × Int} {x y : Int}, Bx (n + 4) b' → 1 ≤ x → 1 ≤ y → x * y ≤ 40 → Ok ((l_take b' y).bind fun r39 => some ((x, y, r39.1), r39.2)) fun r => Bx (n + 5) r.2 ∧ ∃ x y z : Nat, r.1 = ((x : Int), (y : Int), (z : Int)) ∧ 0 < x ∧ z < y ∧ x * y ≤ 40 := fun {b' x y} hb hx hy hxy => by
    have hy2 : y ≤ 40 := by
      have : y * 1 ≤ y * x := Int.mul_le_mul_of_nonneg_left hx (by omega)
      rw [Int.mul_comm] at hxy
      omega
    refine (take_ok hb (by omega) (by omega) (by omega)).bind fun r ⟨h0, h1, h2⟩ => Ok.ret ⟨h2.mono (by omega), x.toNat, y.toNat, r.1.toNat, ?_, by omega, by omega, ?_⟩
    · rw [Int.toNat_of_nonneg (by omega), Int.toNat_of_nonneg (by omega), Int.toNat_of_nonneg (by omega)]
    · have : ((x.toNat * y.toNat : Nat) : Int) ≤ 40 := by
        rw [Int.natCast_mul, Int.toNat_of_nonneg (by omega), Int.toNat_of_nonneg (by omega)]; exact hxy
      omega
  refine (take_ok h (by omega) (by decide) (by decide)).bind fun r ⟨h0, h1, h2⟩ => ?_
  refine Ok.bind (Q := fun j => Bx (n + 4) j.1 ∧ 1 ≤ j.2.1 ∧ 1 ≤ j.2.2 ∧ j.2.1 * j.2.2 ≤ 40) (Ok.ite (fun hw => ?_) fun hw => ?_) fun j ⟨q1, q2, q3, q4⟩ => fin q1 q2 q3 q4
  · refine Ok.bind (Q := fun r9 => Bx (n + 2) r9.1.2 ∧ r9.2 ∈ [1, 2, 4, 5, 8, 10, 20, 40]) ((take_ok h2 (by omega) (by decide) (by decide)).bind fun r7 ⟨g0, g1, g2⟩ => ?_) fun r9 ⟨g1, g2⟩ => ?_
    · rw [idx_ok g0 (by simpa using g1), bs]
      exact Ok.ret ⟨g2.mono (by omega), List.getElem_mem ..⟩
    · have : r9.2 = 1 ∨ r9.2 = 2 ∨ r9.2 = 4 ∨ r9.2 = 5 ∨ r9.2 = 8 ∨ r9.2 = 10 ∨ r9.2 = 20 ∨ r9.2 = 40 := by simpa using g2
      rw [pdiv_ok (by omega) (by omega), bs]
      refine Ok.ret ⟨g1.mono (by omega), by dsimp only; omega, ?_, ?_⟩ <;> dsimp only <;> rcases this with z | z | z | z | z | z | z | z <;> rw [z] <;> decide
  · rw [idx_ok (by omega) (by simp; omega), bs]
    have hm : ([3, 6, 12, 40, 7] : List Int)[(r.1 - 1).toNat]'(by simp; omega) ∈ ([3, 6, 12, 40, 7] : List Int) := List.getElem_mem ..
    generalize ([3, 6, 12, 40, 7] : List Int)[(r.1 - 1).toNat]'(by simp; omega) = v at *
    have hv : v = 3 ∨ v = 6 ∨ v = 12 ∨ v = 40 ∨ v = 7 := by simpa using hm
    refine (take_ok h2 (by omega) (by omega) (by omega)).bind fun r17 ⟨a0, a1, a2⟩ => ?_
    have p1 : 0 < 40 / (1 + r17.1) := by
      have : 1 ≤ 40 / (1 + r17.1) := (Int.le_ediv_iff_mul_le (by omega)).mpr (by omega)
      omega
    have p2 : 40 / (1 + r17.1) ≤ 40 := Int.ediv_le_self _ (by decide)
    have p3 : (1 + r17.1) * (40 / (1 + r17.1)) ≤ 40 := Int.mul_ediv_self_le (by omega)
    rw [pdiv_ok (by omega) (by omega), bs]
    generalize 40 / (1 + r17.1) = w at *
    refine (take_ok a2 (by omega) p1 (by omega)).bind fun r22 ⟨b0, b1, b2⟩ => ?_
    have p4 : (1 + r17.1) * (1 + r22.1) ≤ 40 := Int.le_trans (Int.mul_le_mul_of_nonneg_left (by omega) (by omega)) p3
    refine Ok.bind (Q := fun j => Bx (n + 4) j.1 ∧ 1 ≤ j.2.1 ∧ 1 ≤ j.2.2 ∧ j.2.1 * j.2.2 ≤ 40) ((take_ok b2 (by omega) (by decide) (by decide)).bind fun r24 ⟨c0, c1, c2⟩ => Ok.ite (fun _ => ?_) fun _ => ?_) fun j hj => Ok.ret hj
    · rw [lt_eq]
      exact Ok.ret ⟨c2.mono (by omega), by dsimp only; omega, by dsimp only; omega, by dsimp only; rw [Int.mul_comm]; exact p4⟩
    · exact Ok.ret ⟨c2.mono (by omega), by dsimp only; omega, by dsimp only; omega, p4⟩
end Td

namespace Td
open Ty
theorem rgt_stp {r c : Nat} (hc : 0 < c) : Stp (r * c) ((List.range (r * c)).map fun q => ((rgt c q : Nat) : Int)) (rgtI c) := by
  refine ⟨by simp, fun q h => (rgt_lt hc h).2.1, fun q h => ?_, fun p h => ⟨rgt c p, (rgt_lt hc h).1, ?_, (rgt_lt hc h).2.2.2⟩⟩
  · rw [List.getElem?_map, List.getElem?_range (rgt_lt hc h).2.1, Option.map_some, (rgt_lt hc h).2.2.1]
  · rw [List.getElem?_map, List.getElem?_range h]; rfl
theorem upp_stp {r c s : Nat} (hr : 0 < r) (hs : s < c) : Stp (r * c) ((List.range (r * c)).map fun q => ((upp r c s q : Nat) : Int)) (uppI r c s) := by
  refine ⟨by simp, fun q h => (upp_lt hr hs h).2.1, fun q h => ?_, fun p h => ⟨upp r c s p, (upp_lt hr hs h).1, ?_, (upp_lt hr hs h).2.2.2⟩⟩
  · rw [List.getElem?_map, List.getElem?_range (upp_lt hr hs h).2.1, Option.map_some, (upp_lt hr hs h).2.2.1]
  · rw [List.getElem?_map, List.getElem?_range h]; rfl
theorem check_ok {r c s : Nat} (hr : 0 < r) (hs : s < c) (hl : r * c ≤ 40) : p_check_numbers (r : Int) (c : Int) (s : Int) = some (.ok ()) := by
  have h1 : r ≤ 40 := Nat.le_trans (Nat.le_mul_of_pos_right r (by omega)) hl
  have h2 : c ≤ 40 := Nat.le_trans (Nat.le_mul_of_pos_left c hr) hl
  unfold p_check_numbers p_are_numbers
  rw [bs, if_neg (by simp; omega), pmul_ok (by omega) (by omega), bs, show (r : Int) * (c : Int) = ((r * c : Nat) : Int) from rfl, if_neg (by omega)]
theorem check_no {r c s : Int} (hr : r.natAbs < 2 ^ 250) (hc : c.natAbs < 2 ^ 250) (h : ¬ (1 ≤ r ∧ 1 ≤ c ∧ (0 ≤ s ∧ s < c) ∧ r * c ≤ 40)) : p_check_numbers r c s = some (.ex "NoNumbers") := by
  unfold p_check_numbers p_are_numbers
  rw [bs]
  by_cases g : 1 ≤ r ∧ 1 ≤ c ∧ 0 ≤ s ∧ s < c
  · rw [if_neg (by simp; omega), pmul_ok hr hc, bs, if_pos (by
      rcases Int.lt_or_le 40 (r * c) with z | z
      · exact z
      · exact absurd ⟨g.1, g.2.1, g.2.2, z⟩ h), fb_ok (by simp), bs]
  · rw [if_pos (by simp; omega)]
theorem imod {a b : Nat} (hb : 0 < b) {x : Int} (h : x + (b : Int) = (a : Int)) : x % (b : Int) = ((a % b : Nat) : Int) := by
  rw [← Int.add_emod_right, h]; rfl
/-- spoilt numbers stay small -/
theorem spoilt_ok {n : Int} {b : List Int × Int × Int × Int} {r c s B : Int} (h : Bx n b) (hn : n ≤ 1000) (hB : B < 2 ^ 200) (hr : (r.natAbs : Int) ≤ B) (hc : (c.natAbs : Int) ≤ B) (hs : (s.natAbs : Int) ≤ B) :
    Ok (l_spoilt_2 b r c s) fun q => Bx (n + 4) q.2 ∧ (q.1.1.natAbs : Int) ≤ B + 2 ^ 150 ∧ (q.1.2.1.natAbs : Int) ≤ B + 2 ^ 150 ∧ (q.1.2.2.natAbs : Int) ≤ B + 2 ^ 150 := by
  unfold l_spoilt_2
  refine Ok.bind (Q := fun r19 => Bx (n + 3) r19.2.1.2.2 ∧ 0 ≤ r19.1.2 + r19.2.2 ∧ r19.1.2 + r19.2.2 ≤ 10 ^ 40 + 2 * 10 ^ 18) ?_ fun r19 ⟨h1, h2, h3⟩ => ?_
  · refine Ok.bind (Q := fun r7 => Bx (n + 1) r7.1.2 ∧ 0 ≤ r7.2 ∧ r7.2 ≤ 10 ^ 40) ((take_ok h (by omega) (by decide) (by decide)).bind fun r3 ⟨a0, a1, a2⟩ => ?_) fun r7 ⟨a0, a1, a2⟩ => ?_
    · rw [pmul_ok (by omega) (by decide), bs]
      exact Ok.ret ⟨a2, by dsimp only; omega, by dsimp only; omega⟩
    · refine Ok.bind (Q := fun r17 => Bx (n + 3) r17.1.2.2 ∧ 0 ≤ r17.2 ∧ r17.2 ≤ 2 * 10 ^ 18) ((take_ok a0 (by omega) (by decide) (by decide)).bind fun r11 ⟨b0, b1, b2⟩ => (take_ok b2 (by omega) (by decide) (by decide)).bind fun r15 ⟨c0, c1, c2⟩ => ?_) fun r17 ⟨b0, b1, b2⟩ => Ok.ret ⟨b0, by dsimp only; omega, by dsimp only; omega⟩
      rw [pmul_ok (by omega) (by omega), bs]
      have : r15.1 = 0 ∨ r15.1 = 1 ∨ r15.1 = 2 := by omega
      refine Ok.ret ⟨c2.mono (by omega), ?_, ?_⟩ <;> dsimp only <;> rcases this with z | z | z <;> rw [z] <;> omega
  · generalize r19.1.2 + r19.2.2 = g at *
    refine (take_ok h1 (by omega) (by decide) (by decide)).bind fun r22 ⟨a0, a1, a2⟩ => ?_
    simp only [lt_eq]
    refine Ok.bind (Q := fun j => (j.natAbs : Int) ≤ B + 2 ^ 149) (Ok.ite (fun _ => Ok.ret (by omega)) fun _ => Ok.ret (by omega)) fun j1 g1 => ?_
    refine Ok.bind (Q := fun j => (j.natAbs : Int) ≤ B + 2 ^ 149) (Ok.ite (fun _ => Ok.ret (by omega)) fun _ => Ok.ret (by omega)) fun j2 g2 => ?_
    refine Ok.bind (Q := fun j => (j.natAbs : Int) ≤ B + 2 ^ 149) (Ok.ite (fun _ => Ok.ret (by omega)) fun _ => Ok.ret (by omega)) fun j3 g3 => ?_
    refine Ok.bind (Q := fun j => (j.natAbs : Int) ≤ B + 2 ^ 150) (Ok.ite (fun _ => Ok.ret (by omega)) fun _ => Ok.ret (by omega)) fun j4 g4 => ?_
    refine Ok.bind (Q := fun j => (j.natAbs : Int) ≤ B + 2 ^ 150) (Ok.ite (fun _ => ?_) fun _ => Ok.ret (by omega)) fun j5 g5 => ?_
    · have e : 0 ≤ 40 / max 1 j2 ∧ 40 / max 1 j2 ≤ 40 := ⟨Int.ediv_nonneg (by decide) (by omega), Int.ediv_le_self _ (by decide)⟩
      rw [pdiv_ok (by omega) (by omega), bs]
      exact Ok.ret (by omega)
    refine Ok.bind (Q := fun j => (j.natAbs : Int) ≤ B + 2 ^ 150) (Ok.ite (fun _ => ?_) fun _ => Ok.ret (by omega)) fun j6 g6 => ?_
    · have e : 0 ≤ 40 / max 1 j5 ∧ 40 / max 1 j5 ≤ 40 := ⟨Int.ediv_nonneg (by decide) (by omega), Int.ediv_le_self _ (by decide)⟩
      rw [pdiv_ok (by omega) (by omega), bs]
      exact Ok.ret (by omega)
    exact Ok.ret ⟨a2.mono (by omega), g5, g6, g4⟩
end Td

namespace Td
open Ty
/-- the row of a place of fours -/
def frow (r c s q : Nat) : List Int := beg [((4 * q + 2 : Nat) : Int), ((4 * q : Nat) : Int), ((4 * uppI r c s q + 3 : Nat) : Int), ((4 * rgtI c q + 1 : Nat) : Int)]
theorem fours_ok {r c s : Nat} (hr : 0 < r) (hs : s < c) (hl : r * c ≤ 40) : p_fours (r : Int) (c : Int) (s : Int) = some (.ok ((List.range (r * c)).map (frow r c s))) := by
  have h1 : r ≤ 40 := Nat.le_trans (Nat.le_mul_of_pos_right r (by omega)) hl
  have h2 : c ≤ 40 := Nat.le_trans (Nat.le_mul_of_pos_left c hr) hl
  unfold p_fours p_fours_by
  rw [check_ok hr hs hl, bx_ok, rights_ok (by omega) (by omega) (by omega) (by omega), bs, uppers_ok hr (by omega) (by omega) (by omega) (by omega) hs, bs]
  have e : ([0, 3, 1, 2] : List Int) = ([0, 3, 1, 2] : List Nat).map fun k : Nat => (k : Int) := rfl
  rw [e, laid_ok (n := r * c) (size := 4) (S := 2) (inv := fun t => if t = 0 then rgtI c else uppI r c s) (by omega) rfl rfl (by decide) (by decide) rfl (by decide) (fun t ht => by
    match t, ht with
    | 0, _ => exact rgt_stp (by omega)
    | 1, _ => exact upp_stp hr hs), bs]
  congr 2
  apply List.map_congr_left
  intro q _
  have e2 : ([0, 3, 1, 2] : List Nat).map (sv 4 (fun t => if t = 0 then rgtI c else uppI r c s) 2 q) = [((4 * q : Nat) : Int), ((4 * uppI r c s q + 3 : Nat) : Int), ((4 * rgtI c q + 1 : Nat) : Int), ((4 * q + 2 : Nat) : Int)] := by
    simp [sv]
  rw [e2]
  unfold frow
  exact (beg_rot (x := ((4 * q + 2 : Nat) : Int)) (xs := [((4 * q : Nat) : Int), ((4 * uppI r c s q + 3 : Nat) : Int), ((4 * rgtI c q + 1 : Nat) : Int)]) (by simp only [List.nodup_cons, List.mem_cons, List.not_mem_nil, or_false, not_or, List.nodup_nil, and_true, not_false_eq_true]; omega)).symm
theorem l_fours_ok {r c s : Nat} (hr : 0 < r) (hs : s < c) (hl : r * c ≤ 40) : l_fours (r : Int) (c : Int) (s : Int) = some ((List.range (r * c)).map (frow r c s)) := by
  have h1 : r ≤ 40 := Nat.le_trans (Nat.le_mul_of_pos_right r (by omega)) hl
  have h2 : c ≤ 40 := Nat.le_trans (Nat.le_mul_of_pos_left c hr) hl
  unfold l_fours
  rw [lt_eq, rng_ok (by omega) (by omega) (by omega) (by omega), bs]
  refine Ok.eqs ?_
  refine Ok.bind (forO_span (fun i t => ∃ k : Nat, i = (k : Int) ∧ t = (List.range (k * c)).map (frow r c s)) (by omega) ⟨0, rfl, by simp⟩ fun x t hx0 hx1 ⟨i, hi, ht⟩ => ?_) fun t ⟨k, hk, ht⟩ => Ok.ret (by rw [ht, show k = r by omega])
  subst hi ht
  have hi : i < r := by omega
  have hm : (i + 1) * c ≤ r * c := Nat.mul_le_mul_right c hi
  rw [Nat.add_mul, Nat.one_mul] at hm
  rw [rng_ok (by omega) (by omega) (by omega) (by omega), bs]
  refine Ok.bind (forO_span (fun y t => ∃ k : Nat, y = (k : Int) ∧ t = (List.range (i * c + k)).map (frow r c s)) (by omega) ⟨0, rfl, by simp⟩ fun y t hy0 hy1 ⟨j, hj, ht⟩ => ?_) fun t ⟨k, hk, ht⟩ => Ok.ret ⟨i + 1, by omega, by rw [ht, show k = c by omega, Nat.add_mul, Nat.one_mul]⟩
  subst hj ht
  have hj : j < c := by omega
  have m1 : (i : Int) * (c : Int) = ((i * c : Nat) : Int) := rfl
  have l1 : ((j : Int) - 1) % (c : Int) = (((j + (c - 1)) % c : Nat) : Int) := imod (by omega) (by omega)
  rw [pmul_ok (by omega) (by omega), bs, lt_eq, bs, pmod_ok (by omega), bs, lt_eq, lt_eq, m1, l1]
  have dn : (if (i : Int) = 0 then (pmul ((r : Int) - 1) (c : Int)).bind fun v24 => (pmod ((j : Int) - (s : Int)) (c : Int)).bind fun v25 => Ty.lt (v24 + v25 : Int) fun down => some down else some (((i * c : Nat) : Int) + (j : Int) - (c : Int)) : Option Int) = some ((uppI r c s (i * c + j) : Nat) : Int) := by
    unfold uppI
    by_cases z : i = 0
    · subst z
      rw [if_pos (show ((0 : Nat) : Int) = 0 from rfl), Nat.zero_mul, Nat.zero_add, if_pos hj, pmul_ok (by omega) (by omega), bs, pmod_ok (by omega), bs, lt_eq, imod (a := j + (c - s)) (by omega) (by omega)]
      congr 1
      rw [Int.natCast_add, Int.natCast_mul, Int.natCast_sub (by omega)]; rfl
    · have : 1 * c ≤ i * c := Nat.mul_le_mul_right c (by omega)
      rw [if_neg (by omega), if_neg (by omega)]
      congr 1
      omega
  rw [dn, bs]
  have u := (upp_lt hr hs (show i * c + j < r * c by omega)).2.1
  have w : (j + (c - 1)) % c < c := Nat.mod_lt _ (by omega)
  rw [pmul_ok (by decide) (by omega), bs, bs, pmul_ok (by decide) (by omega), bs, pmul_ok (by decide) (by omega), bs, least2_ok (by simp), bs, app_ok (by simp; omega), bs]
  refine Ok.ret ⟨j + 1, by omega, ?_⟩
  rw [show i * c + (j + 1) = i * c + j + 1 by omega, List.range_succ, List.map_append]
  congr 1
  show [beg _] = [frow r c s (i * c + j)]
  unfold frow rgtI
  rw [(dm hj).1, (dm hj).2]
  congr 2
theorem refused_ok {r c s : Int} (h : p_fours r c s = some (.ex "NoNumbers")) : l_refused r c s = some true ∧ l_refused_by_any r c s = some true := by
  unfold l_refused l_refused_by_any
  rw [h, bx_ex, tryL_ex, tryL_ex]
  constructor <;> rfl
theorem law_k35_ok (ns : List Int) : law_k35 ns = some true := by
  unfold law_k35
  rw [lt_eq]
  refine Ok.eqs ?_
  refine Ok.bind (Q := fun r7 => Bx 1 r7.1.2 ∧ (r7.2 = 0 ∨ r7.2 = 1 ∨ r7.2 = 2)) ((take_ok Bx.start (by decide) (by decide) (by decide)).bind fun r5 ⟨a0, a1, a2⟩ => ?_) fun r7 ⟨b1, b2⟩ => ?_
  · rw [idx_ok a0 (by simpa using a1), bs]
    have hm := List.getElem_mem (l := ([0, 0, 0, 0, 0, 1, 1, 2] : List Int)) (n := r5.1.toNat) (by simp; omega)
    generalize ([0, 0, 0, 0, 0, 1, 1, 2] : List Int)[r5.1.toNat]'(by simp; omega) = v at *
    refine Ok.ret ⟨a2, ?_⟩
    simpa using hm
  · refine (numbers_ok b1 (by decide)).bind fun r9 ⟨c1, x, y, z, e, hx, hz, hl⟩ => ?_
    rw [e]
    dsimp only
    have hpos : 0 < x * y := Nat.mul_pos hx (by omega)
    rw [l_fours_ok hx hz hl, bs, fours_ok hx hz hl, okX_ok, bs, l_rows_ok, bs]
    refine Ok.neg (by simp) ?_
    rw [bs, idx_ok (by decide) (by simp; omega), bs, app_ok ?_, bs, popL_ok ?_, bs, bs, l_rows_ok, bs]
    · refine Ok.neg (by simp) ?_
      rw [rng_ok (by decide) (by decide) (by omega) (by omega), bs]
      have hx40 : x ≤ 40 := Nat.le_trans (Nat.le_mul_of_pos_right x (by omega)) hl
      have hy40 : y ≤ 40 := Nat.le_trans (Nat.le_mul_of_pos_left y hx) hl
      refine Ok.bind (forO_span (fun i t => Bx (10 + 4 * i) t.1 ∧ (t.2.1.natAbs : Int) ≤ 40 + i * 2 ^ 150 ∧ (t.2.2.1.natAbs : Int) ≤ 40 + i * 2 ^ 150 ∧ (t.2.2.2.natAbs : Int) ≤ 40 + i * 2 ^ 150) (by omega) ⟨c1.mono (by decide), by dsimp only; omega, by dsimp only; omega, by dsimp only; omega⟩ fun i t i0 i1 ⟨g1, g2, g3, g4⟩ => ?_) fun t ⟨g1, g2, g3, g4⟩ => ?_
      · refine (spoilt_ok (B := 40 + i * 2 ^ 150) g1 (by omega) (by omega) g2 g3 g4).bind fun q ⟨k1, k2, k3, k4⟩ => Ok.ret ⟨k1.mono (by omega), ?_, ?_, ?_⟩ <;> dsimp only <;> omega
      · obtain ⟨bx, r, c, s⟩ := t
        dsimp only at g2 g3 g4 ⊢
        refine Ok.bindE (a := decide (1 ≤ r ∧ 1 ≤ c ∧ (0 ≤ s ∧ s < c) ∧ r * c ≤ 40)) ?_ ?_
        · by_cases h1 : 1 ≤ r
          · rw [if_pos h1]
            by_cases h2 : 1 ≤ c
            · rw [if_pos h2]
              by_cases h3 : 0 ≤ s ∧ s < c
              · rw [if_pos h3, pmul_ok (by omega) (by omega)]
                simp [h1, h2, h3]
              · rw [if_neg h3]; simp [h3]
            · rw [if_neg h2]; simp [h2]
          · rw [if_neg h1]; simp [h1]
        · by_cases good : 1 ≤ r ∧ 1 ≤ c ∧ (0 ≤ s ∧ s < c) ∧ r * c ≤ 40
          · refine Ok.neg (by simp [good]) ?_
            obtain ⟨r, rfl⟩ : ∃ k : Nat, r = (k : Int) := ⟨r.toNat, by omega⟩
            obtain ⟨c, rfl⟩ : ∃ k : Nat, c = (k : Int) := ⟨c.toNat, by omega⟩
            obtain ⟨s, rfl⟩ : ∃ k : Nat, s = (k : Int) := ⟨s.toNat, by omega⟩
            have hl : r * c ≤ 40 := by
              have := good.2.2.2
              rw [← Int.natCast_mul] at this
              omega
            rw [fours_ok (by omega) (by omega) hl, okX_ok, bs, l_fours_ok (by omega) (by omega) hl, bs, l_rows_ok]
            exact Ok.ret rfl
          · refine Ok.pos (by simp only [good, decide_false]; simp) ?_
            have hf : p_fours r c s = some (.ex "NoNumbers") := by
              unfold p_fours
              rw [check_no (by omega) (by omega) good, bx_ex]
            rw [(refused_ok hf).1, bs, if_pos rfl, (refused_ok hf).2, bs]
            exact Ok.ret (by simp)
    · rw [setI_ok (by decide) (by simp; omega)]
      intro hh
      have := congrArg List.length hh
      simp at this
      omega
    · rw [List.getElem_map]
      unfold frow
      rw [beg_len]
      simp
end Td

namespace Lw
open PySem L2 Ow
theorem bits_log {z : Int} (h : PySem.Builtin.Int.intBits z ≤ 1048576) : z.natAbs.log2 ≤ 1048576 := by
  unfold PySem.Builtin.Int.intBits at h
  split at h
  · rename_i q
    have q2 : z = 0 := by simpa using q
    rw [q2]; decide
  · omega
theorem law_true (ns : List Int) (h : ns.length ≤ 63) (hb : ∀ z ∈ ns, PySem.Builtin.Int.intBits z ≤ 1048576) : ff_law [scriptD ns] = some (.s (.bl true)) := ty_law_0 ns true (Td.law_k35_ok ns)
end Lw

namespace Lw
open PySem L2 Ow
theorem all_mk {l : PySem.W.OpenLaw} {w : World} {K : PySem.W.Frag} {h : Heap} {mg : PySem.Str → Option Value} {fa a0 a1 a2 a3 a4 a5 a6 a7 a8 a9 a10 a11 a12 a13 a14 a15 a16 a17 a18 a19 b0 b1 b2 : Addr} (X : K.In h) (G : h.Ns mainGlobals mg) (hfa : mg "law" = some (.ref fa))
    {od0 an0 od1 an1 od2 an2 od3 an3 od4 an4 od5 an5 od6 an6 od7 an7 od8 an8 od9 an9 od10 an10 od11 an11 od12 an12 od13 an13 od14 an14 od15 an15 od16 an16 od17 an17 od18 an18 od19 an19 : Option Addr} {sl0 sl1 sl2 sl3 sl4 sl5 sl6 sl7 sl8 sl9 sl10 sl11 sl12 sl13 sl14 sl15 sl16 sl17 sl18 sl19 : Array (Option Value)} {oc0 kV0 dc0 pm0 cd0 ct0 oc1 kV1 dc1 pm1 cd1 ct1 oc2 kV2 dc2 pm2 cd2 ct2 oc3 kV3 dc3 pm3 cd3 ct3 oc4 kV4 dc4 pm4 cd4 ct4 oc5 kV5 dc5 pm5 cd5 ct5 oc6 kV6 dc6 pm6 cd6 ct6 oc7 kV7 dc7 pm7 cd7 ct7 oc8 kV8 dc8 pm8 cd8 ct8 oc9 kV9 dc9 pm9 cd9 ct9 oc10 kV10 dc10 pm10 cd10 ct10 oc11 kV11 dc11 pm11 cd11 ct11 oc12 kV12 dc12 pm12 cd12 ct12 oc13 kV13 dc13 pm13 cd13 ct13 oc14 kV14 dc14 pm14 cd14 ct14 oc15 kV15 dc15 pm15 cd15 ct15 oc16 kV16 dc16 pm16 cd16 ct16 oc17 kV17 dc17 pm17 cd17 ct17 oc18 kV18 dc18 pm18 cd18 ct18 oc19 kV19 dc19 pm19 cd19 ct19 : Value}
    (q0 : PySem.W.nsIn K mainGlobals "begun_least" = some (some (.ref a0))) (l0 : K.lookup a0 = some ⟨oc0, od0, .func (PySem.W.fnOf "begun_least" "begun_least" (defArgs (topS 5)) (defBody (topS 5)) (defScope (topS 5)) .none kV0 dc0 pm0 an0 cd0 ct0), sl0⟩) (c0 : PySem.W.codeIn K cd0 "begun_least" = true) (k0 : PySem.W.keepIn K (.ref a0) = true)
    (q1 : PySem.W.nsIn K mainGlobals "fours" = some (some (.ref a1))) (l1 : K.lookup a1 = some ⟨oc1, od1, .func (PySem.W.fnOf "fours" "fours" (defArgs (topS 9)) (defBody (topS 9)) (defScope (topS 9)) .none kV1 dc1 pm1 an1 cd1 ct1), sl1⟩) (c1 : PySem.W.codeIn K cd1 "fours" = true) (k1 : PySem.W.keepIn K (.ref a1) = true)
    (q2 : PySem.W.nsIn K mainGlobals "fours_by" = some (some (.ref a2))) (l2 : K.lookup a2 = some ⟨oc2, od2, .func (PySem.W.fnOf "fours_by" "fours_by" (defArgs (topS 10)) (defBody (topS 10)) (defScope (topS 10)) .none kV2 dc2 pm2 an2 cd2 ct2), sl2⟩) (c2 : PySem.W.codeIn K cd2 "fours_by" = true) (k2 : PySem.W.keepIn K (.ref a2) = true)
    (q3 : PySem.W.nsIn K mainGlobals "check_numbers" = some (some (.ref a3))) (l3 : K.lookup a3 = some ⟨oc3, od3, .func (PySem.W.fnOf "check_numbers" "check_numbers" (defArgs (topS 11)) (defBody (topS 11)) (defScope (topS 11)) .none kV3 dc3 pm3 an3 cd3 ct3), sl3⟩) (c3 : PySem.W.codeIn K cd3 "check_numbers" = true) (k3 : PySem.W.keepIn K (.ref a3) = true)
    (q4 : PySem.W.nsIn K mainGlobals "are_numbers" = some (some (.ref a4))) (l4 : K.lookup a4 = some ⟨oc4, od4, .func (PySem.W.fnOf "are_numbers" "are_numbers" (defArgs (topS 12)) (defBody (topS 12)) (defScope (topS 12)) .none kV4 dc4 pm4 an4 cd4 ct4), sl4⟩) (c4 : PySem.W.codeIn K cd4 "are_numbers" = true) (k4 : PySem.W.keepIn K (.ref a4) = true)
    (q5 : PySem.W.nsIn K mainGlobals "rights_of" = some (some (.ref a5))) (l5 : K.lookup a5 = some ⟨oc5, od5, .func (PySem.W.fnOf "rights_of" "rights_of" (defArgs (topS 13)) (defBody (topS 13)) (defScope (topS 13)) .none kV5 dc5 pm5 an5 cd5 ct5), sl5⟩) (c5 : PySem.W.codeIn K cd5 "rights_of" = true) (k5 : PySem.W.keepIn K (.ref a5) = true)
    (q6 : PySem.W.nsIn K mainGlobals "uppers_of" = some (some (.ref a6))) (l6 : K.lookup a6 = some ⟨oc6, od6, .func (PySem.W.fnOf "uppers_of" "uppers_of" (defArgs (topS 14)) (defBody (topS 14)) (defScope (topS 14)) .none kV6 dc6 pm6 an6 cd6 ct6), sl6⟩) (c6 : PySem.W.codeIn K cd6 "uppers_of" = true) (k6 : PySem.W.keepIn K (.ref a6) = true)
    (q7 : PySem.W.nsIn K mainGlobals "laid_out" = some (some (.ref a7))) (l7 : K.lookup a7 = some ⟨oc7, od7, .func (PySem.W.fnOf "laid_out" "laid_out" (defArgs (topS 15)) (defBody (topS 15)) (defScope (topS 15)) .none kV7 dc7 pm7 an7 cd7 ct7), sl7⟩) (c7 : PySem.W.codeIn K cd7 "laid_out" = true) (k7 : PySem.W.keepIn K (.ref a7) = true)
    (q8 : PySem.W.nsIn K mainGlobals "_law_mixed" = some (some (.ref a8))) (l8 : K.lookup a8 = some ⟨oc8, od8, .func (PySem.W.fnOf "_law_mixed" "_law_mixed" (defArgs (topS 17)) (defBody (topS 17)) (defScope (topS 17)) .none kV8 dc8 pm8 an8 cd8 ct8), sl8⟩) (c8 : PySem.W.codeIn K cd8 "_law_mixed" = true) (k8 : PySem.W.keepIn K (.ref a8) = true)
    (q9 : PySem.W.nsIn K mainGlobals "_law_take" = some (some (.ref a9))) (l9 : K.lookup a9 = some ⟨oc9, od9, .func (PySem.W.fnOf "_law_take" "_law_take" (defArgs (topS 18)) (defBody (topS 18)) (defScope (topS 18)) .none kV9 dc9 pm9 an9 cd9 ct9), sl9⟩) (c9 : PySem.W.codeIn K cd9 "_law_take" = true) (k9 : PySem.W.keepIn K (.ref a9) = true)
    (q10 : PySem.W.nsIn K mainGlobals "_law_whole" = some (some (.ref a10))) (l10 : K.lookup a10 = some ⟨oc10, od10, .func (PySem.W.fnOf "_law_whole" "_law_whole" (defArgs (topS 19)) (defBody (topS 19)) (defScope (topS 19)) .none kV10 dc10 pm10 an10 cd10 ct10), sl10⟩) (c10 : PySem.W.codeIn K cd10 "_law_whole" = true) (k10 : PySem.W.keepIn K (.ref a10) = true)
    (q11 : PySem.W.nsIn K mainGlobals "_law_row" = some (some (.ref a11))) (l11 : K.lookup a11 = some ⟨oc11, od11, .func (PySem.W.fnOf "_law_row" "_law_row" (defArgs (topS 20)) (defBody (topS 20)) (defScope (topS 20)) .none kV11 dc11 pm11 an11 cd11 ct11), sl11⟩) (c11 : PySem.W.codeIn K cd11 "_law_row" = true) (k11 : PySem.W.keepIn K (.ref a11) = true)
    (q12 : PySem.W.nsIn K mainGlobals "_law_rows" = some (some (.ref a12))) (l12 : K.lookup a12 = some ⟨oc12, od12, .func (PySem.W.fnOf "_law_rows" "_law_rows" (defArgs (topS 21)) (defBody (topS 21)) (defScope (topS 21)) .none kV12 dc12 pm12 an12 cd12 ct12), sl12⟩) (c12 : PySem.W.codeIn K cd12 "_law_rows" = true) (k12 : PySem.W.keepIn K (.ref a12) = true)
    (q13 : PySem.W.nsIn K mainGlobals "_law_least" = some (some (.ref a13))) (l13 : K.lookup a13 = some ⟨oc13, od13, .func (PySem.W.fnOf "_law_least" "_law_least" (defArgs (topS 22)) (defBody (topS 22)) (defScope (topS 22)) .none kV13 dc13 pm13 an13 cd13 ct13), sl13⟩) (c13 : PySem.W.codeIn K cd13 "_law_least" = true) (k13 : PySem.W.keepIn K (.ref a13) = true)
    (q14 : PySem.W.nsIn K mainGlobals "_law_fours" = some (some (.ref a14))) (l14 : K.lookup a14 = some ⟨oc14, od14, .func (PySem.W.fnOf "_law_fours" "_law_fours" (defArgs (topS 23)) (defBody (topS 23)) (defScope (topS 23)) .none kV14 dc14 pm14 an14 cd14 ct14), sl14⟩) (c14 : PySem.W.codeIn K cd14 "_law_fours" = true) (k14 : PySem.W.keepIn K (.ref a14) = true)
    (q15 : PySem.W.nsIn K mainGlobals "_law_numbers" = some (some (.ref a15))) (l15 : K.lookup a15 = some ⟨oc15, od15, .func (PySem.W.fnOf "_law_numbers" "_law_numbers" (defArgs (topS 24)) (defBody (topS 24)) (defScope (topS 24)) .none kV15 dc15 pm15 an15 cd15 ct15), sl15⟩) (c15 : PySem.W.codeIn K cd15 "_law_numbers" = true) (k15 : PySem.W.keepIn K (.ref a15) = true)
    (q16 : PySem.W.nsIn K mainGlobals "_law_spoilt" = some (some (.ref a16))) (l16 : K.lookup a16 = some ⟨oc16, od16, .func (PySem.W.fnOf "_law_spoilt" "_law_spoilt" (defArgs (topS 25)) (defBody (topS 25)) (defScope (topS 25)) .none kV16 dc16 pm16 an16 cd16 ct16), sl16⟩) (c16 : PySem.W.codeIn K cd16 "_law_spoilt" = true) (k16 : PySem.W.keepIn K (.ref a16) = true)
    (q17 : PySem.W.nsIn K mainGlobals "_law_refused" = some (some (.ref a17))) (l17 : K.lookup a17 = some ⟨oc17, od17, .func (PySem.W.fnOf "_law_refused" "_law_refused" (defArgs (topS 26)) (defBody (topS 26)) (defScope (topS 26)) .none kV17 dc17 pm17 an17 cd17 ct17), sl17⟩) (c17 : PySem.W.codeIn K cd17 "_law_refused" = true) (k17 : PySem.W.keepIn K (.ref a17) = true)
    (q18 : PySem.W.nsIn K mainGlobals "_law_refused_by_any" = some (some (.ref a18))) (l18 : K.lookup a18 = some ⟨oc18, od18, .func (PySem.W.fnOf "_law_refused_by_any" "_law_refused_by_any" (defArgs (topS 27)) (defBody (topS 27)) (defScope (topS 27)) .none kV18 dc18 pm18 an18 cd18 ct18), sl18⟩) (c18 : PySem.W.codeIn K cd18 "_law_refused_by_any" = true) (k18 : PySem.W.keepIn K (.ref a18) = true)
    (q19 : PySem.W.nsIn K mainGlobals "law" = some (some (.ref a19))) (l19 : K.lookup a19 = some ⟨oc19, od19, .func (PySem.W.fnOf "law" "law" (defArgs (topS 28)) (defBody (topS 28)) (defScope (topS 28)) .none kV19 dc19 pm19 an19 cd19 ct19), sl19⟩) (c19 : PySem.W.codeIn K cd19 "law" = true) (k19 : PySem.W.keepIn K (.ref a19) = true)
    (z0 : PySem.W.nsIn K mainGlobals "ValueError" = some none)
    (z1 : PySem.W.nsIn K mainGlobals "bool" = some none)
    (z2 : PySem.W.nsIn K mainGlobals "enumerate" = some none)
    (z3 : PySem.W.nsIn K mainGlobals "int" = some none)
    (z4 : PySem.W.nsIn K mainGlobals "isinstance" = some none)
    (z5 : PySem.W.nsIn K mainGlobals "len" = some none)
    (z6 : PySem.W.nsIn K mainGlobals "list" = some none)
    (z7 : PySem.W.nsIn K mainGlobals "max" = some none)
    (z8 : PySem.W.nsIn K mainGlobals "min" = some none)
    (z9 : PySem.W.nsIn K mainGlobals "range" = some none)
    {vd0 : Addr} {vo0 : Option Addr} {vn0 : Nat} {vs0 : Array (Option Value)} {vt0_0 vt0_1 vt0_2 vt0_3 : Tok} (v0 : PySem.W.nsIn K mainGlobals "FOURS_CLOCK" = some (some (.ref vd0)))
    (vl0 : K.lookup vd0 = some ⟨.type "tuple", vo0, .seq #[.int 0 vt0_0, .int 3 vt0_1, .int 1 vt0_2, .int 2 vt0_3] vn0, vs0⟩)
    {vt1 : Tok} (v1 : PySem.W.nsIn K mainGlobals "MOST_KIND_PLACES" = some (some (.int 40 vt1)))
    (y0 : PySem.W.nsIn K mainGlobals "FloorError" = some (some (.ref b0)))
    (y1 : PySem.W.nsIn K mainGlobals "NoKind" = some (some (.ref b1)))
    (y2 : PySem.W.nsIn K mainGlobals "NoNumbers" = some (some (.ref b2)))
    (u2_0 : PySem.W.excIn K b2 [.type "ValueError", .type "Exception", .type "BaseException", .type "object"] "ValueError.__new__" = true)
    (u2_1 : PySem.W.keepIn K (.ref b2) = true)
    (u2_2 : PySem.W.subIn K (.ref b2) (.type "BaseException") = some true)
    (u2_3 : PySem.W.typeIn K (.ref b2) = some (.type "type"))
    (u2_4 : PySem.W.findIn K (.ref b2) "__getattribute__" = some (some (.builtin "BaseException.__getattribute__")))
    (u2_5 : PySem.W.findIn K (.ref b2) "__getattr__" = some none)
    (u2_6 : PySem.W.hasDictIn K b2 = true)
    (u2_7 : PySem.W.findIn K (.ref b2) "__class__" = some (some (.builtin "object.__class__")))
    (u2_8 : PySem.W.specialIn K (.builtin "object.__class__") "__get__" = some (some (.builtin "getset_descriptor.__get__")))
    (u2_9 : PySem.W.takesIn K (.builtin "object.__class__") = some true)
    (u2_10 : PySem.W.mroIn K b2 (.type "object") = some true)
    (t0_0 : PySem.W.kitOne K (.ref b2) (.ref b0) = some true)
    (w0_0 : PySem.W.exmOne K (.ref b2) (.ref b0) = some true)
    (t1_0 : PySem.W.kitOne K (.ref b2) (.ref b1) = some false)
    (w1_0 : PySem.W.exmOne K (.ref b2) (.ref b1) = some false)
    (t2_0 : PySem.W.kitOne K (.ref b2) (.ref b2) = some true)
    (w2_0 : PySem.W.exmOne K (.ref b2) (.ref b2) = some true)
    (t3_0 : PySem.W.kitOne K (.ref b2) (.type "ValueError") = some true) :
    ∃ fd : FuncData, (∀ (s : Shared) (v : Value), BindsTo s fd ⟨[v], []⟩ [("_law_script", v)]) ∧ ∀ base : Heap, K.In base → base.Ns mainGlobals mg → FnOk l.prog w K mg base CX0 6 fa fd ["_law_script"] (spLaw K ff_law) := by
  have e := hfa.symm.trans (PySem.W.mg_of X G q19)
  cases e
  have T : Tx K mg ⟨a0, a1, a2, a3, a4, a5, a6, a7, a8, a9, a10, a11, a12, a13, a14, a15, a16, a17, a18, fa, b0, b1, b2⟩ ⟨PySem.W.fnOf "begun_least" "begun_least" (defArgs (topS 5)) (defBody (topS 5)) (defScope (topS 5)) .none kV0 dc0 pm0 an0 cd0 ct0, PySem.W.fnOf "fours" "fours" (defArgs (topS 9)) (defBody (topS 9)) (defScope (topS 9)) .none kV1 dc1 pm1 an1 cd1 ct1, PySem.W.fnOf "fours_by" "fours_by" (defArgs (topS 10)) (defBody (topS 10)) (defScope (topS 10)) .none kV2 dc2 pm2 an2 cd2 ct2, PySem.W.fnOf "check_numbers" "check_numbers" (defArgs (topS 11)) (defBody (topS 11)) (defScope (topS 11)) .none kV3 dc3 pm3 an3 cd3 ct3, PySem.W.fnOf "are_numbers" "are_numbers" (defArgs (topS 12)) (defBody (topS 12)) (defScope (topS 12)) .none kV4 dc4 pm4 an4 cd4 ct4, PySem.W.fnOf "rights_of" "rights_of" (defArgs (topS 13)) (defBody (topS 13)) (defScope (topS 13)) .none kV5 dc5 pm5 an5 cd5 ct5, PySem.W.fnOf "uppers_of" "uppers_of" (defArgs (topS 14)) (defBody (topS 14)) (defScope (topS 14)) .none kV6 dc6 pm6 an6 cd6 ct6, PySem.W.fnOf "laid_out" "laid_out" (defArgs (topS 15)) (defBody (topS 15)) (defScope (topS 15)) .none kV7 dc7 pm7 an7 cd7 ct7, PySem.W.fnOf "_law_mixed" "_law_mixed" (defArgs (topS 17)) (defBody (topS 17)) (defScope (topS 17)) .none kV8 dc8 pm8 an8 cd8 ct8, PySem.W.fnOf "_law_take" "_law_take" (defArgs (topS 18)) (defBody (topS 18)) (defScope (topS 18)) .none kV9 dc9 pm9 an9 cd9 ct9, PySem.W.fnOf "_law_whole" "_law_whole" (defArgs (topS 19)) (defBody (topS 19)) (defScope (topS 19)) .none kV10 dc10 pm10 an10 cd10 ct10, PySem.W.fnOf "_law_row" "_law_row" (defArgs (topS 20)) (defBody (topS 20)) (defScope (topS 20)) .none kV11 dc11 pm11 an11 cd11 ct11, PySem.W.fnOf "_law_rows" "_law_rows" (defArgs (topS 21)) (defBody (topS 21)) (defScope (topS 21)) .none kV12 dc12 pm12 an12 cd12 ct12, PySem.W.fnOf "_law_least" "_law_least" (defArgs (topS 22)) (defBody (topS 22)) (defScope (topS 22)) .none kV13 dc13 pm13 an13 cd13 ct13, PySem.W.fnOf "_law_fours" "_law_fours" (defArgs (topS 23)) (defBody (topS 23)) (defScope (topS 23)) .none kV14 dc14 pm14 an14 cd14 ct14, PySem.W.fnOf "_law_numbers" "_law_numbers" (defArgs (topS 24)) (defBody (topS 24)) (defScope (topS 24)) .none kV15 dc15 pm15 an15 cd15 ct15, PySem.W.fnOf "_law_spoilt" "_law_spoilt" (defArgs (topS 25)) (defBody (topS 25)) (defScope (topS 25)) .none kV16 dc16 pm16 an16 cd16 ct16, PySem.W.fnOf "_law_refused" "_law_refused" (defArgs (topS 26)) (defBody (topS 26)) (defScope (topS 26)) .none kV17 dc17 pm17 an17 cd17 ct17, PySem.W.fnOf "_law_refused_by_any" "_law_refused_by_any" (defArgs (topS 27)) (defBody (topS 27)) (defScope (topS 27)) .none kV18 dc18 pm18 an18 cd18 ct18, PySem.W.fnOf "law" "law" (defArgs (topS 28)) (defBody (topS 28)) (defScope (topS 28)) .none kV19 dc19 pm19 an19 cd19 ct19⟩ := { F_begun_least := fun_mk (st := topS 5) l0 c0 k0, g_begun_least := PySem.W.mg_of X G q0, b_begun_least := (fun_mk (st := topS 5) l0 c0 k0).binds (ps := ["row"]) fun _ _ _ _ _ _ us hl => match us, hl with | [_], _ => rfl, F_fours := fun_mk (st := topS 9) l1 c1 k1, g_fours := PySem.W.mg_of X G q1, b_fours := (fun_mk (st := topS 9) l1 c1 k1).binds (ps := ["rows", "columns", "shift"]) fun _ _ _ _ _ _ us hl => match us, hl with | [_, _, _], _ => rfl, F_fours_by := fun_mk (st := topS 10) l2 c2 k2, g_fours_by := PySem.W.mg_of X G q2, b_fours_by := (fun_mk (st := topS 10) l2 c2 k2).binds (ps := ["rows", "columns", "shift"]) fun _ _ _ _ _ _ us hl => match us, hl with | [_, _, _], _ => rfl, F_check_numbers := fun_mk (st := topS 11) l3 c3 k3, g_check_numbers := PySem.W.mg_of X G q3, b_check_numbers := (fun_mk (st := topS 11) l3 c3 k3).binds (ps := ["rows", "columns", "shift"]) fun _ _ _ _ _ _ us hl => match us, hl with | [_, _, _], _ => rfl, F_are_numbers := fun_mk (st := topS 12) l4 c4 k4, g_are_numbers := PySem.W.mg_of X G q4, b_are_numbers := (fun_mk (st := topS 12) l4 c4 k4).binds (ps := ["rows", "columns", "shift"]) fun _ _ _ _ _ _ us hl => match us, hl with | [_, _, _], _ => rfl, F_rights_of := fun_mk (st := topS 13) l5 c5 k5, g_rights_of := PySem.W.mg_of X G q5, b_rights_of := (fun_mk (st := topS 13) l5 c5 k5).binds (ps := ["rows", "columns"]) fun _ _ _ _ _ _ us hl => match us, hl with | [_, _], _ => rfl, F_uppers_of := fun_mk (st := topS 14) l6 c6 k6, g_uppers_of := PySem.W.mg_of X G q6, b_uppers_of := (fun_mk (st := topS 14) l6 c6 k6).binds (ps := ["rows", "columns", "shift"]) fun _ _ _ _ _ _ us hl => match us, hl with | [_, _, _], _ => rfl, F_laid_out := fun_mk (st := topS 15) l7 c7 k7, g_laid_out := PySem.W.mg_of X G q7, b_laid_out := (fun_mk (st := topS 15) l7 c7 k7).binds (ps := ["steps", "clock"]) fun _ _ _ _ _ _ us hl => match us, hl with | [_, _], _ => rfl, F__law_mixed := fun_mk (st := topS 17) l8 c8 k8, g__law_mixed := PySem.W.mg_of X G q8, b__law_mixed := (fun_mk (st := topS 17) l8 c8 k8).binds (ps := ["_law_cell", "_law_k", "_law_many"]) fun _ _ _ _ _ _ us hl => match us, hl with | [_, _, _], _ => rfl, F__law_take := fun_mk (st := topS 18) l9 c9 k9, g__law_take := PySem.W.mg_of X G q9, b__law_take := (fun_mk (st := topS 18) l9 c9 k9).binds (ps := ["_law_box", "_law_many"]) fun _ _ _ _ _ _ us hl => match us, hl with | [_, _], _ => rfl, F__law_whole := fun_mk (st := topS 19) l10 c10 k10, g__law_whole := PySem.W.mg_of X G q10, b__law_whole := (fun_mk (st := topS 19) l10 c10 k10).binds (ps := ["_law_found"]) fun _ _ _ _ _ _ us hl => match us, hl with | [_], _ => rfl, F__law_row := fun_mk (st := topS 20) l11 c11 k11, g__law_row := PySem.W.mg_of X G q11, b__law_row := (fun_mk (st := topS 20) l11 c11 k11).binds (ps := ["_law_found", "_law_due"]) fun _ _ _ _ _ _ us hl => match us, hl with | [_, _], _ => rfl, F__law_rows := fun_mk (st := topS 21) l12 c12 k12, g__law_rows := PySem.W.mg_of X G q12, b__law_rows := (fun_mk (st := topS 21) l12 c12 k12).binds (ps := ["_law_found", "_law_due"]) fun _ _ _ _ _ _ us hl => match us, hl with | [_, _], _ => rfl, F__law_least := fun_mk (st := topS 22) l13 c13 k13, g__law_least := PySem.W.mg_of X G q13, b__law_least := (fun_mk (st := topS 22) l13 c13 k13).binds (ps := ["_law_row_here"]) fun _ _ _ _ _ _ us hl => match us, hl with | [_], _ => rfl, F__law_fours := fun_mk (st := topS 23) l14 c14 k14, g__law_fours := PySem.W.mg_of X G q14, b__law_fours := (fun_mk (st := topS 23) l14 c14 k14).binds (ps := ["_law_r", "_law_c", "_law_s"]) fun _ _ _ _ _ _ us hl => match us, hl with | [_, _, _], _ => rfl, F__law_numbers := fun_mk (st := topS 24) l15 c15 k15, g__law_numbers := PySem.W.mg_of X G q15, b__law_numbers := (fun_mk (st := topS 24) l15 c15 k15).binds (ps := ["_law_box"]) fun _ _ _ _ _ _ us hl => match us, hl with | [_], _ => rfl, F__law_spoilt := fun_mk (st := topS 25) l16 c16 k16, g__law_spoilt := PySem.W.mg_of X G q16, b__law_spoilt := (fun_mk (st := topS 25) l16 c16 k16).binds (ps := ["_law_box", "_law_r", "_law_c", "_law_s"]) fun _ _ _ _ _ _ us hl => match us, hl with | [_, _, _, _], _ => rfl, F__law_refused := fun_mk (st := topS 26) l17 c17 k17, g__law_refused := PySem.W.mg_of X G q17, b__law_refused := (fun_mk (st := topS 26) l17 c17 k17).binds (ps := ["_law_r", "_law_c", "_law_s"]) fun _ _ _ _ _ _ us hl => match us, hl with | [_, _, _], _ => rfl, F__law_refused_by_any := fun_mk (st := topS 27) l18 c18 k18, g__law_refused_by_any := PySem.W.mg_of X G q18, b__law_refused_by_any := (fun_mk (st := topS 27) l18 c18 k18).binds (ps := ["_law_r", "_law_c", "_law_s"]) fun _ _ _ _ _ _ us hl => match us, hl with | [_, _, _], _ => rfl, F_law := fun_mk (st := topS 28) l19 c19 k19, g_law := PySem.W.mg_of X G q19, b_law := (fun_mk (st := topS 28) l19 c19 k19).binds (ps := ["_law_script"]) fun _ _ _ _ _ _ us hl => match us, hl with | [_], _ => rfl, m_ValueError := PySem.W.mg_none_of X G z0, m_bool := PySem.W.mg_none_of X G z1, m_enumerate := PySem.W.mg_none_of X G z2, m_int := PySem.W.mg_none_of X G z3, m_isinstance := PySem.W.mg_none_of X G z4, m_len := PySem.W.mg_none_of X G z5, m_list := PySem.W.mg_none_of X G z6, m_max := PySem.W.mg_none_of X G z7, m_min := PySem.W.mg_none_of X G z8, m_range := PySem.W.mg_none_of X G z9, c_FOURS_CLOCK := ⟨_, PySem.W.mg_of X G v0, .inr ⟨_, _, _, vl0, rfl, rfl, sizeLine_le (show 4 ≤ 16777216 by decide), .cons ⟨_, rfl⟩ (.cons ⟨_, rfl⟩ (.cons ⟨_, rfl⟩ (.cons ⟨_, rfl⟩ (.nil))))⟩⟩, c_MOST_KIND_PLACES := ⟨_, PySem.W.mg_of X G v1⟩, n_FloorError := PySem.W.mg_of X G y0, n_NoKind := PySem.W.mg_of X G y1, n_NoNumbers := PySem.W.mg_of X G y2, e_NoNumbers := (excK_mk u2_0 u2_1 u2_2 u2_3 u2_4 u2_5 u2_6 u2_7 u2_8 u2_9 u2_10), x_FloorError := tab_exmK (ad := [("NoNumbers", b2)]) (.cons t0_0 (by decide) (fun _ => w0_0) .nil) (by intro p hp; simp only [List.mem_cons, List.not_mem_nil, or_false] at hp; rcases hp with rfl <;> first | exact PySem.W.mg_of X G y2 ), x_NoKind := tab_exmK (ad := [("NoNumbers", b2)]) (.cons t1_0 (by decide) (fun _ => w1_0) .nil) (by intro p hp; simp only [List.mem_cons, List.not_mem_nil, or_false] at hp; rcases hp with rfl <;> first | exact PySem.W.mg_of X G y2 ), x_NoNumbers := tab_exmK (ad := [("NoNumbers", b2)]) (.cons t2_0 (by decide) (fun _ => w2_0) .nil) (by intro p hp; simp only [List.mem_cons, List.not_mem_nil, or_false] at hp; rcases hp with rfl <;> first | exact PySem.W.mg_of X G y2 ), i_FloorError := tab_kitK (hh := true) (ad := [("NoNumbers", b2)]) (.cons t0_0 (by decide) (fun _ => w0_0) .nil) (by intro p hp; simp only [List.mem_cons, List.not_mem_nil, or_false] at hp; rcases hp with rfl <;> first | exact PySem.W.mg_of X G y2 ) (by intro p hp; simp only [List.mem_cons, List.not_mem_nil, or_false] at hp; rcases hp with rfl <;> first | exact (excK_mk u2_0 u2_1 u2_2 u2_3 u2_4 u2_5 u2_6 u2_7 u2_8 u2_9 u2_10) ), i_NoKind := tab_kitK (hh := true) (ad := [("NoNumbers", b2)]) (.cons t1_0 (by decide) (fun _ => w1_0) .nil) (by intro p hp; simp only [List.mem_cons, List.not_mem_nil, or_false] at hp; rcases hp with rfl <;> first | exact PySem.W.mg_of X G y2 ) (by intro p hp; simp only [List.mem_cons, List.not_mem_nil, or_false] at hp; rcases hp with rfl <;> first | exact (excK_mk u2_0 u2_1 u2_2 u2_3 u2_4 u2_5 u2_6 u2_7 u2_8 u2_9 u2_10) ), i_ValueError := tab_kitK (hh := false) (ad := [("NoNumbers", b2)]) (.cons t3_0 (by decide) (fun z => by cases z) .nil) (by intro p hp; simp only [List.mem_cons, List.not_mem_nil, or_false] at hp; rcases hp with rfl <;> first | exact PySem.W.mg_of X G y2 ) (by intro p hp; simp only [List.mem_cons, List.not_mem_nil, or_false] at hp; rcases hp with rfl <;> first | exact (excK_mk u2_0 u2_1 u2_2 u2_3 u2_4 u2_5 u2_6 u2_7 u2_8 u2_9 u2_10) ) }
  exact ⟨_, fun s v => .of_eq rfl, fun base _ _ => law_end (ok_law T)⟩
end Lw
open PySem PySem.W PyProof.Rows
set_option maxHeartbeats 0 in
theorem PySem.Challenge.cw_ringfloor_k35_fours_made_holds : PySem.Challenge.rw_ringfloor_k35_fours_made.Holds := by
  w_on; o_law; k_head; (case hw => w_witness2)
  k_fill
  refine L2.walk_ofB (l := PySem.Challenge.rw_ringfloor_k35_fours_made) (n := 63) (k := 6) (x := "_law_script") (CX := fun _ => L2.CX0) (sp := fun w => Ow.spLaw _ Lw.ff_law) rfl (by decide) rfl ⟨rfl, by decide, by decide⟩ (fun w h Y => PySem.W.kIn_of Y) ?F (fun w H a ns hl hb ho hS => ⟨a, ns, rfl, ho, hS, Lw.law_true ns hl hb, fun _ => rfl⟩) (fun _ _ _ _ _ h => h)
  case F =>
    intro w mg fa h KX G hmg
    refine' Lw.all_mk KX G hmg ?q0 ?l0 ?c0 ?k0 ?q1 ?l1 ?c1 ?k1 ?q2 ?l2 ?c2 ?k2 ?q3 ?l3 ?c3 ?k3 ?q4 ?l4 ?c4 ?k4 ?q5 ?l5 ?c5 ?k5 ?q6 ?l6 ?c6 ?k6 ?q7 ?l7 ?c7 ?k7 ?q8 ?l8 ?c8 ?k8 ?q9 ?l9 ?c9 ?k9 ?q10 ?l10 ?c10 ?k10 ?q11 ?l11 ?c11 ?k11 ?q12 ?l12 ?c12 ?k12 ?q13 ?l13 ?c13 ?k13 ?q14 ?l14 ?c14 ?k14 ?q15 ?l15 ?c15 ?k15 ?q16 ?l16 ?c16 ?k16 ?q17 ?l17 ?c17 ?k17 ?q18 ?l18 ?c18 ?k18 ?q19 ?l19 ?c19 ?k19 ?z0 ?z1 ?z2 ?z3 ?z4 ?z5 ?z6 ?z7 ?z8 ?z9 ?v0 ?vl0 ?v1 ?y0 ?y1 ?y2 ?u2_0 ?u2_1 ?u2_2 ?u2_3 ?u2_4 ?u2_5 ?u2_6 ?u2_7 ?u2_8 ?u2_9 ?u2_10 ?t0_0 ?w0_0 ?t1_0 ?w1_0 ?t2_0 ?w2_0 ?t3_0
    (case q0 => k_is); (case l0 => k_is); (case c0 => k_is); (case k0 => k_is)
    (case q1 => k_is); (case l1 => k_is); (case c1 => k_is); (case k1 => k_is)
    (case q2 => k_is); (case l2 => k_is); (case c2 => k_is); (case k2 => k_is)
    (case q3 => k_is); (case l3 => k_is); (case c3 => k_is); (case k3 => k_is)
    (case q4 => k_is); (case l4 => k_is); (case c4 => k_is); (case k4 => k_is)
    (case q5 => k_is); (case l5 => k_is); (case c5 => k_is); (case k5 => k_is)
    (case q6 => k_is); (case l6 => k_is); (case c6 => k_is); (case k6 => k_is)
    (case q7 => k_is); (case l7 => k_is); (case c7 => k_is); (case k7 => k_is)
    (case q8 => k_is); (case l8 => k_is); (case c8 => k_is); (case k8 => k_is)
    (case q9 => k_is); (case l9 => k_is); (case c9 => k_is); (case k9 => k_is)
    (case q10 => k_is); (case l10 => k_is); (case c10 => k_is); (case k10 => k_is)
    (case q11 => k_is); (case l11 => k_is); (case c11 => k_is); (case k11 => k_is)
    (case q12 => k_is); (case l12 => k_is); (case c12 => k_is); (case k12 => k_is)
    (case q13 => k_is); (case l13 => k_is); (case c13 => k_is); (case k13 => k_is)
    (case q14 => k_is); (case l14 => k_is); (case c14 => k_is); (case k14 => k_is)
    (case q15 => k_is); (case l15 => k_is); (case c15 => k_is); (case k15 => k_is)
    (case q16 => k_is); (case l16 => k_is); (case c16 => k_is); (case k16 => k_is)
    (case q17 => k_is); (case l17 => k_is); (case c17 => k_is); (case k17 => k_is)
    (case q18 => k_is); (case l18 => k_is); (case c18 => k_is); (case k18 => k_is)
    (case q19 => k_is); (case l19 => k_is); (case c19 => k_is); (case k19 => k_is)
    (case z0 => k_is)
    (case z1 => k_is)
    (case z2 => k_is)
    (case z3 => k_is)
    (case z4 => k_is)
    (case z5 => k_is)
    (case z6 => k_is)
    (case z7 => k_is)
    (case z8 => k_is)
    (case z9 => k_is)
    (case v0 => k_is)
    (case vl0 => k_is)
    (case v1 => k_is)
    (case y0 => k_is)
    (case y1 => k_is)
    (case y2 => k_is)
    (case u2_0 => first | k_is | with_unfolding_all exact Eq.refl _)
    (case u2_1 => first | k_is | with_unfolding_all exact Eq.refl _)
    (case u2_2 => first | k_is | with_unfolding_all exact Eq.refl _)
    (case u2_3 => first | k_is | with_unfolding_all exact Eq.refl _)
    (case u2_4 => first | k_is | with_unfolding_all exact Eq.refl _)
    (case u2_5 => first | k_is | with_unfolding_all exact Eq.refl _)
    (case u2_6 => first | k_is | with_unfolding_all exact Eq.refl _)
    (case u2_7 => first | k_is | with_unfolding_all exact Eq.refl _)
    (case u2_8 => first | k_is | with_unfolding_all exact Eq.refl _)
    (case u2_9 => first | k_is | with_unfolding_all exact Eq.refl _)
    (case u2_10 => first | k_is | with_unfolding_all exact Eq.refl _)
    (case t0_0 => first | k_is | with_unfolding_all exact Eq.refl _)
    (case w0_0 => first | k_is | with_unfolding_all exact Eq.refl _)
    (case t1_0 => first | k_is | with_unfolding_all exact Eq.refl _)
    (case w1_0 => first | k_is | with_unfolding_all exact Eq.refl _)
    (case t2_0 => first | k_is | with_unfolding_all exact Eq.refl _)
    (case w2_0 => first | k_is | with_unfolding_all exact Eq.refl _)
    (case t3_0 => first | k_is | with_unfolding_all exact Eq.refl _)

