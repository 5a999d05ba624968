import PyProof.Rows.All
import Wide.All
import OpenK.AllK
import Wide.FinOn
import HandS.ForMost
import HandS.Evl
import HandS.Wide
import HandS.WideBits
import HandS.IsInst
import HandS.Conv
import HandS.Deep
import HandS.More
import HandS.Style
import HandS.SortInts
import HandS.SortRule
import HandS.TupSets
import HandS.DictTup
import HandS.ExcIs
import HandS.Flow
import HandS.Exc
import HandS.TryOnly
import HandS.ExcOwn
import HandS.WordsExc
import HandS.DictComp
import HandS.WordsDict
import PyProof.SetRoads
import PyProof.Rows.SetFrom
import PyProof.Rows.SortShellAny
import HandS.SetFor
import HandS.TryMany
import HandS.FStr
import HandS.RaiseMore
import HandS.SortOrd
import KE.SortData
import KE.BitLaws
import KE.GoesEnum
import KE.KIndexOf
import HandS.Zip
import PySem.Challenge.RW_ringfloor_k42_cut_along_a_round
import HandS.EndBits
set_option Elab.async false
set_option linter.all false
set_option maxRecDepth 100000
namespace Ow
open PySem L2


inductive Fl where
  | o | s | w
  deriving DecidableEq
inductive Kd where
  | lst (o : Fl) | tup | ktp | dic (o : Fl) (ks : List Key) | dct (o : Fl) (ks : List (List Key))
@[simp] def Kd.own : Kd → Bool
  | .lst o => decide (o = .o)
  | .tup => false
  | .ktp => false
  | .dic o _ => decide (o = .o)
  | .dct o _ => decide (o = .o)
@[simp] def Fl.frz : Fl → Fl
  | .w => .w
  | _ => .s
@[simp] def Kd.frz : Kd → Kd
  | .lst o => .lst o.frz
  | .tup => .tup
  | .ktp => .ktp
  | .dic o ks => .dic o.frz ks
  | .dct o ks => .dct o.frz ks
@[simp] def Kd.wri : Kd → Kd
  | .lst _ => .lst .w
  | .tup => .tup
  | .ktp => .ktp
  | .dic _ ks => .dic .w ks
  | .dct _ ks => .dct .w ks
def Kd.ho : Kd → List V → HO
  | .lst _, vs => .lst vs
  | .tup, vs => .tup vs
  | .ktp, vs => .tup vs
  | .dic _ ks, vs => .dK (ks.zip vs)
  | .dct _ ks, vs => .dT (ks.zip vs)
inductive T where
  | s (v : V)
  | n (k : Kd) (a : Addr) (ts : List T)
  | w (z : Bool) (k : Kd) (a : Addr) (ts : List T)
inductive D where
  | s (v : V)
  | n (k : Kd) (ds : List D)
abbrev Env := List (Option D)
abbrev TEnv := List (Option T)
def T.val : T → V
  | .s v => v
  | .n _ a _ => .ref a
  | .w _ _ a _ => .ref a
abbrev vals (ts : List T) : List V := ts.map T.val
@[simp] def scl : V → Bool
  | .non => true
  | .bl _ => true
  | .int _ => true
  | .str _ => true
  | _ => false
def hid (v : V) : V := if scl v = true then v else .byt #[]
theorem hid_scl {v : V} (h : scl v = true) : hid v = v := if_pos h
mutual
def T.er : T → D
  | .s v => .s (hid v)
  | .n k _ ts => .n k (erL ts)
  | .w _ k _ ts => .n k.wri (erL ts)
def erL : List T → List D
  | [] => []
  | t :: ts => t.er :: erL ts
end
mutual
def T.co (a : Addr) : T → Nat
  | .s _ => 0
  | .n k b ts => (if k.own = true ∧ b = a then 1 else 0) + coL a ts
  | .w _ _ _ ts => coL a ts
def coL (a : Addr) : List T → Nat
  | [] => 0
  | t :: ts => t.co a + coL a ts
end
mutual
def T.cu (a : Addr) : T → Nat
  | .s _ => 0
  | .n k b ts => (if k.own = false ∧ b = a then 1 else 0) + cuL a ts
  | .w z _ b ts => (if z = false ∧ b = a then 1 else 0) + cuL a ts
def cuL (a : Addr) : List T → Nat
  | [] => 0
  | t :: ts => t.cu a + cuL a ts
end
@[simp] def Kd.isw : Kd → Bool
  | .lst o => decide (o = .w)
  | .tup => false
  | .ktp => true
  | .dic o _ => decide (o = .w)
  | .dct o _ => decide (o = .w)
def NodeOk (H : Hp) (k : Kd) (a : Addr) (vs : List V) : Prop := H a = some (k.ho vs) ∧ k.isw = false
def WrOk (K : PySem.W.Frag) (H : Hp) (z : Bool) (k : Kd) (a : Addr) (vs : List V) : Prop := match z, k with
  | true, .lst _ => SqL K (fun _ => none) a vs
  | true, .ktp => SqT K (fun _ => none) a vs ∧ ∃ o, K.lookup a = some o ∧ o.cls = .type "tuple" ∧ o.dict = none
  | true, _ => False
  | false, k => k ≠ .ktp ∧ ∃ o, H a = some (.frz o (k.ho vs))
mutual
def T.sat (K : PySem.W.Frag) (H : Hp) : T → Prop
  | .s _ => True
  | .n k a ts => NodeOk H k a (vals ts) ∧ satL K H ts
  | .w z k a ts => WrOk K H z k a (vals ts) ∧ satL K H ts
def satL (K : PySem.W.Frag) (H : Hp) : List T → Prop
  | [] => True
  | t :: ts => t.sat K H ∧ satL K H ts
end
section
variable {K : PySem.W.Frag} {H H' H0 H1 : Hp} {a : Addr} {t : T} {ts F : List T} {σ σ' : L2.St} {env env' : TEnv}

theorem erL_map : ∀ ts : List T, erL ts = ts.map T.er
  | [] => rfl
  | t :: ts => by rw [erL, erL_map ts, List.map_cons]
theorem erL_length (ts : List T) : (erL ts).length = ts.length := by rw [erL_map, List.length_map]
theorem satL_iff : ∀ {ts : List T}, satL K H ts ↔ ∀ t ∈ ts, t.sat K H
  | [] => by simp [satL]
  | t :: ts => by
    rw [satL, satL_iff (ts := ts)]
    simp
theorem coL_mem : ∀ {ts : List T} {t : T}, t ∈ ts → t.co a ≤ coL a ts
  | x :: ts, t, h => by
    rw [coL]
    rcases List.mem_cons.mp h with h | h
    · subst h; omega
    · have := coL_mem h; omega
theorem cuL_mem : ∀ {ts : List T} {t : T}, t ∈ ts → t.cu a ≤ cuL a ts
  | x :: ts, t, h => by
    rw [cuL]
    rcases List.mem_cons.mp h with h | h
    · subst h; omega
    · have := cuL_mem h; omega
theorem coL_append : ∀ {ts us : List T}, coL a (ts ++ us) = coL a ts + coL a us
  | [], us => by simp [coL]
  | t :: ts, us => by rw [List.cons_append, coL, coL, coL_append (ts := ts)]; omega
theorem cuL_append : ∀ {ts us : List T}, cuL a (ts ++ us) = cuL a ts + cuL a us
  | [], us => by simp [cuL]
  | t :: ts, us => by rw [List.cons_append, cuL, cuL, cuL_append (ts := ts)]; omega
theorem satL_append {us : List T} : satL K H (ts ++ us) ↔ satL K H ts ∧ satL K H us := by
  rw [satL_iff, satL_iff, satL_iff]
  constructor
  · intro h
    exact ⟨fun t ht => h t (List.mem_append.mpr (.inl ht)), fun t ht => h t (List.mem_append.mpr (.inr ht))⟩
  · rintro ⟨h1, h2⟩ t ht
    rcases List.mem_append.mp ht with h | h
    · exact h1 t h
    · exact h2 t h
def Keeps (H H' : Hp) (c u : Addr → Nat) : Prop := ∀ a o, 0 < c a + u a → H a = some o → H' a = some o
mutual
theorem sat_keep : ∀ (t : T), (∀ a o, 0 < t.co a + t.cu a → H a = some o → H' a = some o) → t.sat K H → t.sat K H'
  | .s _, _, _ => trivial
  | .n k a ts, hk, h => by
    obtain ⟨h1, h3⟩ := h
    have ha : ∀ o, H a = some o → H' a = some o := fun o => hk a o (by
      rw [T.co, T.cu]
      cases k.own <;> simp <;> omega)
    refine ⟨⟨ha _ h1.1, h1.2⟩, satL_keep ts (fun b o hb => hk b o ?_) h3⟩
    rw [T.co, T.cu]; omega
  | .w z k a ts, hk, h => by
    obtain ⟨h1, h3⟩ := h
    refine ⟨?_, satL_keep ts (fun b o hb => hk b o (by rw [T.co, T.cu]; omega)) h3⟩
    cases z with
    | true => cases k <;> exact h1
    | false =>
      obtain ⟨nk, o, h1⟩ := h1
      exact ⟨nk, o, hk a _ (by rw [T.co, T.cu]; simp; omega) h1⟩
theorem satL_keep : ∀ (ts : List T), (∀ a o, 0 < coL a ts + cuL a ts → H a = some o → H' a = some o) → satL K H ts → satL K H' ts
  | [], _, _ => trivial
  | t :: ts, hk, h => ⟨sat_keep t (fun a o q => hk a o (by rw [coL, cuL]; omega)) h.1, satL_keep ts (fun a o q => hk a o (by rw [coL, cuL]; omega)) h.2⟩
end

mutual
theorem co_some : ∀ (t : T), t.sat K H → 0 < t.co a → H a ≠ none
  | .s _, _, h => by rw [T.co] at h; omega
  | .n k b ts, h, hc => by
    obtain ⟨h1, h3⟩ := h
    rw [T.co] at hc
    by_cases q : k.own = true ∧ b = a
    · obtain ⟨q1, q2⟩ := q
      subst q2
      have h1 : H b = some _ := h1.1
      rw [h1]
      exact fun z => by cases z
    · rw [if_neg q] at hc
      exact coL_some ts h3 (by omega)
  | .w z k b ts, h, hc => by
    rw [T.co] at hc
    exact coL_some ts h.2 hc
theorem coL_some : ∀ (ts : List T), satL K H ts → 0 < coL a ts → H a ≠ none
  | [], _, h => by rw [coL] at h; omega
  | t :: ts, h, hc => by
    rw [coL] at hc
    by_cases q : 0 < t.co a
    · exact co_some t h.1 q
    · exact coL_some ts h.2 (by omega)
end
mutual
theorem cu_some : ∀ (t : T), t.sat K H → 0 < t.cu a → H a ≠ none
  | .s _, _, h => by rw [T.cu] at h; omega
  | .n k b ts, h, hc => by
    obtain ⟨h1, h3⟩ := h
    rw [T.cu] at hc
    by_cases q : k.own = false ∧ b = a
    · obtain ⟨q1, q2⟩ := q
      subst q2
      have h1 : H b = some _ := h1.1
      rw [h1]
      exact fun z => by cases z
    · rw [if_neg q] at hc
      exact cuL_some ts h3 (by omega)
  | .w z k b ts, h, hc => by
    obtain ⟨h1, h3⟩ := h
    rw [T.cu] at hc
    by_cases q : z = false ∧ b = a
    · obtain ⟨q1, q2⟩ := q
      subst q1 q2
      obtain ⟨nk, o, h1⟩ := h1
      rw [h1]
      exact fun z => by cases z
    · rw [if_neg q] at hc
      exact cuL_some ts h3 (by omega)
theorem cuL_some : ∀ (ts : List T), satL K H ts → 0 < cuL a ts → H a ≠ none
  | [], _, h => by rw [cuL] at h; omega
  | t :: ts, h, hc => by
    rw [cuL] at hc
    by_cases q : 0 < t.cu a
    · exact cu_some t h.1 q
    · exact cuL_some ts h.2 (by omega)
end


def oT (f : T → Nat) : Option T → Nat
  | none => 0
  | some t => f t
def coE (a : Addr) : TEnv → Nat
  | [] => 0
  | o :: r => oT (T.co a) o + coE a r
def cuE (a : Addr) : TEnv → Nat
  | [] => 0
  | o :: r => oT (T.cu a) o + cuE a r
def SatE (K : PySem.W.Frag) (H : Hp) (env : TEnv) : Prop := ∀ t, some t ∈ env → t.sat K H
def Rel (σ : L2.St) (env : TEnv) : Prop := env.length = σ.length ∧ ∀ (i : Nat) (t : T), env[i]? = some (some t) → σ[i]? = some (some t.val)
def erE (env : TEnv) : Env := env.map (Option.map T.er)
def Wf (c u : Addr → Nat) : Prop := ∀ a, c a ≤ 1 ∧ (c a = 0 ∨ u a = 0)
abbrev Ex := Evl.Ex
theorem coE_set : ∀ {env : TEnv} {i : Nat} {x : Option T} (o : Option T), env[i]? = some x → coE a (env.set i o) + oT (T.co a) x = coE a env + oT (T.co a) o
  | [], i, x, o, h => by simp at h
  | y :: r, 0, x, o, h => by
    have e : y = x := Option.some.inj h
    subst e
    rw [List.set_cons_zero, coE, coE]; omega
  | y :: r, i + 1, x, o, h => by
    have e := coE_set (env := r) (i := i) (x := x) o h
    rw [List.set_cons_succ, coE, coE]; omega
theorem cuE_set : ∀ {env : TEnv} {i : Nat} {x : Option T} (o : Option T), env[i]? = some x → cuE a (env.set i o) + oT (T.cu a) x = cuE a env + oT (T.cu a) o
  | [], i, x, o, h => by simp at h
  | y :: r, 0, x, o, h => by
    have e : y = x := Option.some.inj h
    subst e
    rw [List.set_cons_zero, cuE, cuE]; omega
  | y :: r, i + 1, x, o, h => by
    have e := cuE_set (env := r) (i := i) (x := x) o h
    rw [List.set_cons_succ, cuE, cuE]; omega
theorem coE_get {i : Nat} (h : env[i]? = some (some t)) : t.co a ≤ coE a env := by
  have := coE_set (a := a) none h
  simp only [oT] at this; omega
theorem cuE_get {i : Nat} (h : env[i]? = some (some t)) : t.cu a ≤ cuE a env := by
  have := cuE_set (a := a) none h
  simp only [oT] at this; omega
theorem SatE.get {i : Nat} (h : SatE K H env) (g : env[i]? = some (some t)) : t.sat K H := h t (List.mem_of_getElem? g)
theorem SatE.set {i : Nat} {o : Option T} (h : SatE K H env) (g : ∀ t, o = some t → t.sat K H) : SatE K H (env.set i o) := fun t ht => by
  rcases List.mem_or_eq_of_mem_set ht with q | q
  · exact h t q
  · exact g t q.symm
theorem coE_some : ∀ {env : TEnv}, SatE K H env → 0 < coE a env → H a ≠ none
  | [], _, h => by rw [coE] at h; omega
  | none :: r, h, hc => by
    rw [coE, oT] at hc
    exact coE_some (env := r) (fun t ht => h t (List.mem_cons_of_mem _ ht)) (by omega)
  | some t :: r, h, hc => by
    rw [coE, oT] at hc
    by_cases q : 0 < t.co a
    · exact co_some t (h t (List.mem_cons_self ..)) q
    · exact coE_some (env := r) (fun t ht => h t (List.mem_cons_of_mem _ ht)) (by omega)
theorem cuE_some : ∀ {env : TEnv}, SatE K H env → 0 < cuE a env → H a ≠ none
  | [], _, h => by rw [cuE] at h; omega
  | none :: r, h, hc => by
    rw [cuE, oT] at hc
    exact cuE_some (env := r) (fun t ht => h t (List.mem_cons_of_mem _ ht)) (by omega)
  | some t :: r, h, hc => by
    rw [cuE, oT] at hc
    by_cases q : 0 < t.cu a
    · exact cu_some t (h t (List.mem_cons_self ..)) q
    · exact cuE_some (env := r) (fun t ht => h t (List.mem_cons_of_mem _ ht)) (by omega)
theorem satE_keep : ∀ {env : TEnv}, (∀ a o, 0 < coE a env + cuE a env → H a = some o → H' a = some o) → SatE K H env → SatE K H' env
  | [], _, _ => fun t ht => by cases ht
  | none :: r, hk, h => fun t ht => by
    rcases List.mem_cons.mp ht with q | q
    · cases q
    · exact satE_keep (env := r) (fun a o hc => hk a o (by rw [coE, cuE, oT, oT]; omega)) (fun t ht => h t (List.mem_cons_of_mem _ ht)) t q
  | some x :: r, hk, h => fun t ht => by
    rcases List.mem_cons.mp ht with q | q
    · cases q
      exact sat_keep x (fun a o hc => hk a o (by rw [coE, cuE, oT, oT]; omega)) (h x (List.mem_cons_self ..))
    · exact satE_keep (env := r) (fun a o hc => hk a o (by rw [coE, cuE, oT, oT]; omega)) (fun t ht => h t (List.mem_cons_of_mem _ ht)) t q
theorem sat_ex (e : Ex H H') (h : t.sat K H) : t.sat K H' := sat_keep t (fun a o _ q => e a o q) h
theorem satL_ex (e : Ex H H') (h : satL K H ts) : satL K H' ts := satL_keep ts (fun a o _ q => e a o q) h
theorem SatE.ex (e : Ex H H') (h : SatE K H env) : SatE K H' env := fun t ht => sat_ex e (h t ht)
theorem erE_get {i : Nat} {d : D} (h : (erE env)[i]? = some (some d)) : ∃ t, env[i]? = some (some t) ∧ t.er = d := by
  rw [erE, List.getElem?_map] at h
  cases e : env[i]? with
  | none => rw [e] at h; cases h
  | some o =>
    rw [e] at h
    cases o with
    | none => cases h
    | some t => exact ⟨t, rfl, Option.some.inj (Option.some.inj h)⟩
theorem erE_set {i : Nat} {o : Option T} : erE (env.set i o) = (erE env).set i (o.map T.er) := by
  rw [erE, erE, List.map_set]
theorem Rel.set {i : Nat} {t : T} (r : Rel σ env) : Rel (σ.set i (some t.val)) (env.set i (some t)) := by
  refine ⟨by rw [List.length_set, List.length_set, r.1], fun j u h => ?_⟩
  by_cases e : i = j
  · subst e
    rw [List.getElem?_set] at h
    rw [List.getElem?_set]
    by_cases l : i < env.length
    · rw [if_pos rfl, if_pos l] at h
      rw [if_pos rfl, if_pos (by rw [← r.1]; exact l)]
      cases h
      rfl
    · rw [if_pos rfl, if_neg l] at h
      cases h
  · rw [List.getElem?_set, if_neg e] at h
    rw [List.getElem?_set, if_neg e]
    exact r.2 j u h
theorem Rel.drop {i : Nat} (r : Rel σ env) : Rel σ (env.set i none) := by
  refine ⟨by rw [List.length_set, r.1], fun j u h => ?_⟩
  by_cases e : i = j
  · subst e
    rw [List.getElem?_set] at h
    by_cases l : i < env.length
    · rw [if_pos rfl, if_pos l] at h
      cases h
    · rw [if_pos rfl, if_neg l] at h
      cases h
  · rw [List.getElem?_set, if_neg e] at h
    exact r.2 j u h
theorem Rel.swap {i : Nat} {t u : T} (r : Rel σ env) (h : env[i]? = some (some t)) (e : u.val = t.val) : Rel σ (env.set i (some u)) := by
  refine ⟨by rw [List.length_set, r.1], fun j x g => ?_⟩
  by_cases q : i = j
  · subst q
    rw [List.getElem?_set, if_pos rfl] at g
    by_cases l : i < env.length
    · rw [if_pos l] at g
      cases g
      rw [e]
      exact r.2 i t h
    · rw [if_neg l] at g
      cases g
  · rw [List.getElem?_set, if_neg q] at g
    exact r.2 j x g


def Stp (H : Hp) (c u : Addr → Nat) (H' : Hp) (c' u' : Addr → Nat) : Prop :=
  (∀ a o, H a = some o → c a = 0 → H' a = some o) ∧ (∀ a, H' a = none → H a = none) ∧ ∀ a, (0 < c' a → 0 < c a ∨ H a = none) ∧ (0 < u' a → 0 < c a ∨ 0 < u a ∨ H a = none)
theorem Stp.refl {c u : Addr → Nat} : Stp H c u H c u := ⟨fun _ _ h _ => h, fun _ h => h, fun a => ⟨fun h => .inl h, fun h => .inr (.inl h)⟩⟩
theorem Stp.trans {c u c1 u1 c2 u2 : Addr → Nat} (x : Stp H c u H1 c1 u1) (y : Stp H1 c1 u1 H' c2 u2) : Stp H c u H' c2 u2 := by
  refine ⟨fun a o h hc => ?_, fun a h => x.2.1 a (y.2.1 a h), fun a => ⟨fun h => ?_, fun h => ?_⟩⟩
  · have h1 := x.1 a o h hc
    by_cases q : c1 a = 0
    · exact y.1 a o h1 q
    · rcases (x.2.2 a).1 (by omega) with z | z
      · omega
      · rw [h] at z; cases z
  · rcases (y.2.2 a).1 h with z | z
    · exact (x.2.2 a).1 z
    · exact .inr (x.2.1 a z)
  · rcases (y.2.2 a).2 h with z | z | z
    · rcases (x.2.2 a).1 z with z | z
      · exact .inl z
      · exact .inr (.inr z)
    · exact (x.2.2 a).2 z
    · exact .inr (.inr (x.2.1 a z))
end
end Ow

namespace Ow
open PySem L2


def Own (H : Hp) (env : TEnv) (t : T) : Prop := ∀ a, (t.co a ≤ 1 ∧ (t.co a = 0 ∨ t.cu a = 0)) ∧ (0 < t.co a → H a = none) ∧ (0 < t.cu a → 0 < cuE a env ∨ H a = none)
def Bor (H : Hp) (env : TEnv) (t : T) : Prop := ∀ a, (0 < t.co a → 0 < coE a env ∨ H a = none) ∧ (0 < t.cu a → 0 < cuE a env ∨ H a = none)
abbrev PM := Env → Option D
abbrev EM := Env → Option (D × Env)
abbrev BM := Env → Option Bool
def trP (K : PySem.W.Frag) (m : PM) : TE := fun σ H Q => ∃ env d, m (erE env) = some d ∧ Rel σ env ∧ SatE K H env ∧ ∀ t H', t.er = d → Ex H H' → t.sat K H' → Own H env t → Q t.val H'
def trB (K : PySem.W.Frag) (m : PM) : TE := fun σ H Q => ∃ env d, m (erE env) = some d ∧ Rel σ env ∧ SatE K H env ∧ ∀ t H', t.er = d → Ex H H' → t.sat K H' → Bor H env t → Q t.val H'
def trT (K : PySem.W.Frag) (m : BM) : TT := fun σ H Q => ∃ env b, m (erE env) = some b ∧ Rel σ env ∧ SatE K H env ∧ ∀ H', Ex H H' → Q b H'
def SP (X : Cx) (e : Expr) (m : PM) : Prop := PE X e (trP X.K m)
def SB (X : Cx) (e : Expr) (m : PM) : Prop := PE X e (trB X.K m)
def ST (X : Cx) (e : Expr) (m : BM) : Prop := PT X e (trT X.K m)
def SW (X : Cx) (e : Expr) (m : BM) : Prop := PW X e (trT X.K m)
theorem Own.bor {H : Hp} {env : TEnv} {t : T} (h : Own H env t) : Bor H env t := fun a => ⟨fun z => .inr ((h a).2.1 z), (h a).2.2⟩
theorem Own.back {H H1 : Hp} {env : TEnv} {t : T} (e : Ex H H1) (h : Own H1 env t) : Own H env t := fun a =>
  ⟨(h a).1, fun z => Evl.fresh_back e ((h a).2.1 z), fun z => ((h a).2.2 z).imp id (Evl.fresh_back e)⟩
theorem Bor.back {H H1 : Hp} {env : TEnv} {t : T} (e : Ex H H1) (h : Bor H1 env t) : Bor H env t := fun a =>
  ⟨fun z => ((h a).1 z).imp id (Evl.fresh_back e), fun z => ((h a).2 z).imp id (Evl.fresh_back e)⟩
theorem own_s {H : Hp} {env : TEnv} {v : V} : Own H env (.s v) := fun a => by
  simp [T.co, T.cu]
theorem PE.weak {X : Cx} {e : Expr} {t u : TE} (h : PE X e t) (w : ∀ σ H Q, u σ H Q → t σ H Q) : PE X e u := ⟨fun pins s σ H Q I z => h.run pins s σ H Q I (w σ H Q z)⟩
theorem PT.weak {X : Cx} {e : Expr} {t u : TT} (h : PT X e t) (w : ∀ σ H Q, u σ H Q → t σ H Q) : PT X e u := ⟨fun pins s σ H Q I z => h.run pins s σ H Q I (w σ H Q z)⟩
theorem PW.weak {X : Cx} {e : Expr} {t u : TT} (h : PW X e t) (w : ∀ σ H Q, u σ H Q → t σ H Q) : PW X e u := ⟨fun wh pins s σ H Q I z => h.run wh pins s σ H Q I (w σ H Q z)⟩

mutual
@[simp] def D.pure : D → Bool
  | .s _ => true
  | .n k ds => !k.own && pureL ds
@[simp] def pureL : List D → Bool
  | [] => true
  | d :: ds => d.pure && pureL ds
end
mutual
theorem pure_co {a : Addr} : ∀ (t : T), t.er.pure = true → t.co a = 0
  | .s _, _ => rfl
  | .n k b ts, h => by
    rw [T.er, D.pure, Bool.and_eq_true] at h
    have q : k.own = false := by simpa using h.1
    rw [T.co, pureL_co ts h.2, q]
    simp
  | .w z k b ts, h => by
    rw [T.er, D.pure, Bool.and_eq_true] at h
    rw [T.co, pureL_co ts h.2]
theorem pureL_co {a : Addr} : ∀ (ts : List T), pureL (erL ts) = true → coL a ts = 0
  | [], _ => rfl
  | t :: ts, h => by
    rw [erL, pureL, Bool.and_eq_true] at h
    rw [coL, pure_co t h.1, pureL_co ts h.2]
end

section
variable {X : Cx} {m ma mb : PM} {e a b : Expr} {pos : Pos} {σ : L2.St} {H H1 H' : Hp} {env : TEnv} {K : PySem.W.Frag}
theorem SP.sb (h : SP X e m) : SB X e m := PE.weak h fun σ H Q ⟨env, d, hm, r, s, k⟩ => ⟨env, d, hm, r, s, fun t H' e1 e2 e3 o => k t H' e1 e2 e3 o.bor⟩

@[simp] def mVar (i : Nat) : PM := fun env => env[i]?.join
def mCopy (i : Nat) : PM := fun env => match env[i]?.join with
  | some d => if d.pure = true then some d else none
  | none => none
@[simp] def mC (v : V) : PM := fun _ => some (.s v)
theorem join_get {i : Nat} {d : D} (h : (erE env)[i]?.join = some d) : ∃ t, env[i]? = some (some t) ∧ t.er = d := by
  refine erE_get (i := i) ?_
  cases e : (erE env)[i]? with
  | none => rw [e] at h; cases h
  | some o =>
    rw [e] at h
    cases o with
    | none => cases h
    | some d' =>
      have h' : d' = d := Option.some.inj h
      rw [h']
theorem sb_var {x : Str} (i : Nat) (hN : X.N[i]? = some x := by rfl) (hv : Vis X.env.scope x := by first | exact .inl rfl | exact .inr (.inl rfl) | exact .inr (.inr rfl)) (hd : (x == ("__debug__" : Str)) = false := by decide) (hcd : (x == ("__classdict__" : Str)) = false := by decide) : SB X (.Name x pos) (mVar i) := PE.weak (pe_var (i := i) hN hv hd hcd) fun σ H Q ⟨env, d, hm, r, s, k⟩ => by
  obtain ⟨t, h1, h2⟩ := join_get hm
  exact ⟨t.val, r.2 i t h1, k t H h2 (Evl.Ex.refl H) (s.get h1) fun a => ⟨fun z => .inl (Nat.lt_of_lt_of_le z (coE_get h1)), fun z => .inl (Nat.lt_of_lt_of_le z (cuE_get h1))⟩⟩
theorem sp_c {v : V} (h : PE X e (tC v)) (hv : scl v = true) : SP X e (mC v) := PE.weak h fun σ H Q ⟨env, d, hm, r, s, k⟩ => by
  cases hm
  exact k (.s v) H (by rw [T.er, hid_scl hv]) (Evl.Ex.refl H) trivial own_s
theorem sp_int {i : Int} {j : Nat} : SP X (.Constant (.int i) j pos) (mC (.int i)) := sp_c pe_int rfl
theorem sp_bl {c : Bool} {j : Nat} : SP X (.Constant (.bool c) j pos) (mC (.bl c)) := sp_c pe_bl rfl

def Op2 (K : PySem.W.Frag) (r : R2) (f : D → D → Option V) : Prop := ∀ (t u : T) (v : V) (H : Hp) (Q : VK), t.sat K H → u.sat K H → f t.er u.er = some v → Q v H → r t.val u.val H Q
def Op1 (K : PySem.W.Frag) (r : V → Hp → VK → Prop) (f : D → Option V) : Prop := ∀ (t : T) (v : V) (H : Hp) (Q : VK), t.sat K H → f t.er = some v → Q v H → r t.val H Q
@[simp] def sv (v : V) : Option D := if scl v = true then some (.s v) else none
@[simp] def mOp2 (f : D → D → Option V) (ma mb : PM) : PM := fun env => (ma env).bind fun x => (mb env).bind fun y => (f x y).bind sv
@[simp] def mOp1 (f : D → Option V) (ma : PM) : PM := fun env => (ma env).bind fun x => (f x).bind sv
theorem bind_some {α β : Type} {o : Option α} {f : α → Option β} {z : β} (h : o.bind f = some z) : ∃ x, o = some x ∧ f x = some z := by
  cases o with
  | none => cases h
  | some x => exact ⟨x, rfl, h⟩
theorem sv_some {v : V} {d : D} (h : sv v = some d) : scl v = true ∧ d = .s v := by
  unfold sv at h
  split at h
  · cases h
    exact ⟨by assumption, rfl⟩
  · cases h
theorem rd2 {ta tb : TE} {r : R2} {f : D → D → Option V} {Q : VK} (ho : Op2 K r f) (h : trP K (mOp2 f ma mb) σ H Q) : tOp r (trB K ma) (trB K mb) σ H Q := by
  obtain ⟨env, d, hm, hr, hs, k⟩ := h
  obtain ⟨x, hx, hm⟩ := bind_some hm
  obtain ⟨y, hy, hm⟩ := bind_some hm
  obtain ⟨v, hv, hm⟩ := bind_some hm
  obtain ⟨s1, rfl⟩ := sv_some hm
  refine ⟨env, x, hx, hr, hs, fun t H1 e1 x1 s2 _ => ⟨env, y, hy, hr, hs.ex x1, fun u H2 e2 x2 s3 _ => ?_⟩⟩
  subst e1 e2
  exact ho t u v H2 Q (sat_ex x2 s2) s3 hv (k (.s v) H2 (by rw [T.er, hid_scl s1]) (x1.trans x2) trivial own_s)
theorem sp_op {op : Operator} {r : R2} {f : D → D → Option V} (ho : OpR X (binaryOp op) r) (hf : Op2 X.K r f) (ha : SB X a ma) (hb : SB X b mb) : SP X (.BinOp a op b pos) (mOp2 f ma mb) :=
  PE.weak (pe_op ho ha hb) fun σ H Q h => rd2 (ta := trB X.K ma) (tb := trB X.K mb) hf h
theorem sp_cmp {op : CmpOp} {r : R2} {f : D → D → Option V} (ho : OpR X (compareOp op) r) (hf : Op2 X.K r f) (ha : SB X a ma) (hb : SB X b mb) (hm : behindInMarks op b = false := by rfl) : SP X (.Compare a [op] [b] pos) (mOp2 f ma mb) :=
  PE.weak (pe_cmpR ho ha hb hm) fun σ H Q h => rd2 (ta := trB X.K ma) (tb := trB X.K mb) hf h

def fI (C : Int → Int → Bool) (g : Int → Int → V) : D → D → Option V
  | .s (.int i), .s (.int j) => if C i j = true then some (g i j) else none
  | _, _ => none
@[simp] def okI (_ _ : Int) : Bool := true
theorem er_int {t : T} {i : Int} (h : t.er = .s (.int i)) : t = .s (.int i) := by
  cases t with
  | n k a ts => rw [T.er] at h; cases h
  | w z k a ts => rw [T.er] at h; cases h
  | s v =>
    rw [T.er] at h
    unfold hid at h
    split at h
    · cases h; rfl
    · cases h
theorem er_scl {t : T} {v : V} (h : t.er = .s v) (hv : scl v = true) : t = .s v := by
  cases t with
  | n k a ts => rw [T.er] at h; cases h
  | w z k a ts => rw [T.er] at h; cases h
  | s u =>
    rw [T.er] at h
    unfold hid at h
    split at h
    · cases h; rfl
    · cases h; cases hv
theorem fI_some {C : Int → Int → Bool} {g : Int → Int → V} {x y : D} {v : V} (h : fI C g x y = some v) : ∃ i j, x = .s (.int i) ∧ y = .s (.int j) ∧ C i j = true ∧ v = g i j := by
  unfold fI at h
  split at h
  · split at h
    · cases h
      exact ⟨_, _, rfl, rfl, by assumption, rfl⟩
    · cases h
  · cases h
theorem op2_I0 {g : Int → Int → V} : Op2 K (rI0 g) (fI okI g) := fun t u v H Q _ _ h q => by
  obtain ⟨i, j, e1, e2, _, rfl⟩ := fI_some h
  rw [er_int e1, er_int e2]
  exact ⟨i, j, rfl, rfl, q⟩
theorem op2_I {C : Int → Int → Prop} {Cb : Int → Int → Bool} {g : Int → Int → V} (hC : ∀ i j, Cb i j = true → C i j) : Op2 K (rI C g) (fI Cb g) := fun t u v H Q _ _ h q => by
  obtain ⟨i, j, e1, e2, hc, rfl⟩ := fI_some h
  rw [er_int e1, er_int e2]
  exact ⟨i, j, rfl, rfl, hC i j hc, q⟩
def CMulB (i j : Int) : Prop := i.natAbs.log2 + j.natAbs.log2 < 100000000
theorem bits_le (x : Int) : PySem.Builtin.Int.intBits x ≤ x.natAbs.log2 + 1 := by
  unfold PySem.Builtin.Int.intBits
  split
  · omega
  · omega
theorem CMulB.ok {i j : Int} (h : CMulB i j) : PySem.IntMulOk i j := fun z => by
  have l : PySem.bitsLine = 134217728 := by decide
  have z2 := (Bool.and_eq_true _ _ ▸ z).2
  unfold PySem.Builtin.Int.intTooBig at z2
  have z3 := of_decide_eq_true z2
  rw [l] at z3
  have := bits_le i
  have := bits_le j
  unfold CMulB at h
  omega
theorem op_mulB {X : Cx} : OpR X (binaryOp .Mult) (rI CMulB fun i j => .int (i * j)) := opI fun i j H Q A E s hc q => PyProof.Rows.mul_int q (CMulB.ok hc)
theorem wide_mulB {i j : Int} (h1 : i.natAbs.log2 < 2000000) (h2 : j.natAbs.log2 < 2000000) : CMulB i j := by
  unfold CMulB
  omega
instance {i j : Int} : Decidable (CMulB i j) := by unfold CMulB; infer_instance
def fAdd := fI okI fun i j => .int (i + j)
def fSub := fI okI fun i j => .int (i - j)
def fMul := fI (fun i j => decide (CMulB i j)) fun i j => .int (i * j)
def fDiv := fI (fun i j => decide (0 < j ∧ j.natAbs.log2 < 9000)) fun i j => .int (i / j)
def fMod := fI (fun _ j => decide (0 < j)) fun i j => .int (i % j)
def fPow := fI (fun i j => decide (0 ≤ j ∧ j ≤ 1000000 ∧ i.natAbs < 2 ^ 64)) fun i j => .int (i ^ j.toNat)
def fLt := fI okI fun i j => .bl (decide (i < j))
def fLe := fI okI fun i j => .bl (decide (i ≤ j))
def fGt := fI okI fun i j => .bl (decide (j < i))
def fGe := fI okI fun i j => .bl (decide (j ≤ i))
end
section
variable {X : Cx} {ma mb : PM} {e a b : Expr} {pos : Pos}
theorem sp_add (ha : SB X a ma) (hb : SB X b mb) : SP X (.BinOp a .Add b pos) (mOp2 fAdd ma mb) := sp_op op_add op2_I0 ha hb
theorem sp_sub (ha : SB X a ma) (hb : SB X b mb) : SP X (.BinOp a .Sub b pos) (mOp2 fSub ma mb) := sp_op op_sub op2_I0 ha hb
theorem sp_mul (ha : SB X a ma) (hb : SB X b mb) : SP X (.BinOp a .Mult b pos) (mOp2 fMul ma mb) := sp_op op_mulB (op2_I fun _ _ h => of_decide_eq_true h) ha hb
theorem sp_div (ha : SB X a ma) (hb : SB X b mb) : SP X (.BinOp a .FloorDiv b pos) (mOp2 fDiv ma mb) := sp_op op_fdivW (op2_I fun i j h => (of_decide_eq_true h : 0 < j ∧ j.natAbs.log2 < 9000)) ha hb
theorem sp_mod (ha : SB X a ma) (hb : SB X b mb) : SP X (.BinOp a .Mod b pos) (mOp2 fMod ma mb) := sp_op op_mod (op2_I fun _ _ h => of_decide_eq_true h) ha hb
theorem sp_pow (ha : SB X a ma) (hb : SB X b mb) : SP X (.BinOp a .Pow b pos) (mOp2 fPow ma mb) := sp_op op_pow (op2_I fun i j h => (of_decide_eq_true h : 0 ≤ j ∧ j ≤ 1000000 ∧ i.natAbs < 2 ^ 64)) ha hb
end
end Ow

namespace Ow
open PySem L2


section
variable {K : PySem.W.Frag} {H H1 H' : Hp} {t : T} {ds : List D} {o : Fl} {env : TEnv} {σ : L2.St}
theorem sql_up {a : Addr} {vs : List V} (h : SqL K (fun _ => none) a vs) : SqL K H a vs := by
  rcases h with (h | ⟨_, h⟩) | h
  · cases h
  · cases h
  · exact .inr h
theorem sqt_up {a : Addr} {vs : List V} (h : SqT K (fun _ => none) a vs) : SqT K H a vs := by
  rcases h with (h | ⟨_, h⟩) | h
  · cases h
  · cases h
  · exact .inr h
theorem rdL (hs : t.sat K H) (he : t.er = .n (.lst o) ds) : ∃ a ts, t.val = .ref a ∧ erL ts = ds ∧ SqL K H a (vals ts) ∧ satL K H ts ∧ (∀ b, coL b ts ≤ t.co b) ∧ (∀ b, cuL b ts ≤ t.cu b) := by
  cases t with
  | s v => rw [T.er] at he; cases he
  | n k a ts =>
    rw [T.er] at he
    cases he
    exact ⟨a, ts, rfl, rfl, .inl (.inl hs.1.1), hs.2, fun b => by rw [T.co]; omega, fun b => by rw [T.cu]; omega⟩
  | w z k a ts =>
    rw [T.er] at he
    cases k with
    | lst o' =>
      cases he
      refine ⟨a, ts, rfl, rfl, ?_, hs.2, fun b => by rw [T.co]; omega, fun b => by rw [T.cu]; omega⟩
      cases z with
      | true => exact sql_up hs.1
      | false => exact .inl (.inr hs.1.2)
    | tup => cases he
    | ktp => cases he
    | dic _ _ => cases he
    | dct _ _ => cases he
theorem rdT {kd : Kd} (hs : t.sat K H) (he : t.er = .n kd ds) (hk : kd = .tup ∨ kd = .ktp := by first | exact .inl rfl | exact .inr rfl) : ∃ a ts, t.val = .ref a ∧ erL ts = ds ∧ SqT K H a (vals ts) ∧ satL K H ts ∧ (∀ b, coL b ts ≤ t.co b) ∧ (∀ b, cuL b ts ≤ t.cu b) := by
  cases t with
  | s v => rw [T.er] at he; cases he
  | n k a ts =>
    rw [T.er] at he
    cases he
    have hh : H a = some (.tup (vals ts)) := by
      rcases hk with rfl | rfl
      · exact hs.1.1
      · exact hs.1.1
    exact ⟨a, ts, rfl, rfl, .inl (.inl hh), hs.2, fun b => by rw [T.co]; omega, fun b => by rw [T.cu]; omega⟩
  | w z k a ts =>
    rw [T.er] at he
    cases k with
    | tup =>
      cases he
      refine ⟨a, ts, rfl, rfl, ?_, hs.2, fun b => by rw [T.co]; omega, fun b => by rw [T.cu]; omega⟩
      cases z with
      | true => exact hs.1.elim
      | false => exact .inl (.inr hs.1.2)
    | ktp =>
      cases he
      refine ⟨a, ts, rfl, rfl, ?_, hs.2, fun b => by rw [T.co]; omega, fun b => by rw [T.cu]; omega⟩
      cases z with
      | true => exact sqt_up hs.1.1
      | false => exact absurd rfl hs.1.1
    | lst _ => cases he; rcases hk with z | z <;> cases z
    | dic _ _ => cases he; rcases hk with z | z <;> cases z
    | dct _ _ => cases he; rcases hk with z | z <;> cases z
theorem rdN {k : Kd} (hs : t.sat K H) (he : t.er = .n k ds) (hk : k.isw = false) (hT : k ≠ .tup) : ∃ a ts, t = .n k a ts ∧ erL ts = ds ∧ H a = some (k.ho (vals ts)) ∧ satL K H ts := by
  cases t with
  | s v => rw [T.er] at he; cases he
  | n k' a ts =>
    rw [T.er] at he
    cases he
    exact ⟨a, ts, rfl, rfl, hs.1.1, hs.2⟩
  | w z k' a ts =>
    rw [T.er] at he
    cases he
    cases k' <;> first | exact absurd rfl hT | (exact absurd hk (by simp [Kd.wri, Kd.isw]))


mutual
def D.dat : D → Option PyData
  | .s .non => some .none
  | .s (.bl b) => some (.bool b)
  | .s (.int i) => some (.int i)
  | .s (.str x) => some (.str x)
  | .s _ => none
  | .n (.lst _) ds => (datL ds).map .list
  | .n .tup ds => (datL ds).map .tuple
  | .n _ _ => none
def datL : List D → Option (List PyData)
  | [] => some []
  | d :: ds => d.dat.bind fun p => (datL ds).map (p :: ·)
end
theorem map_some {α β : Type} {o : Option α} {f : α → β} {z : β} (h : o.map f = some z) : ∃ x, o = some x ∧ f x = z := by
  cases o with
  | none => cases h
  | some x => exact ⟨x, rfl, Option.some.inj h⟩
mutual
theorem dp_of : ∀ (t : T) (p : PyData), t.sat K H → t.er.dat = some p → Dp K H t.val p
  | .s v, p, hs, h => by
    rw [T.er] at h
    unfold hid at h
    cases v with
    | non => cases h; exact .non
    | bl b => cases h; exact .bl b
    | int i => cases h; exact .int i
    | str x => cases h; exact .str x
    | byt _ => cases h
    | flt _ => cases h
    | ref _ => cases h
    | ty _ => cases h
  | .n k a ts, p, hs, h => by
    rw [T.er] at h
    cases k with
    | lst o =>
      rw [D.dat] at h
      obtain ⟨ps, h1, rfl⟩ := map_some h
      exact .lst (.inl (.inl hs.1.1)) (dp_ofL ts ps hs.2 h1)
    | tup =>
      rw [D.dat] at h
      obtain ⟨ps, h1, rfl⟩ := map_some h
      exact .tup (.inl (.inl hs.1.1)) (dp_ofL ts ps hs.2 h1)
    | ktp => simp [D.dat] at h
    | dic o ks => simp [D.dat] at h
    | dct o ks => simp [D.dat] at h
  | .w z k a ts, p, hs, h => by
    rw [T.er] at h
    cases k with
    | lst o =>
      rw [Kd.wri, D.dat] at h
      obtain ⟨ps, h1, rfl⟩ := map_some h
      refine .lst ?_ (dp_ofL ts ps hs.2 h1)
      cases z with
      | true => exact sql_up hs.1
      | false => exact .inl (.inr hs.1.2)
    | tup =>
      rw [Kd.wri, D.dat] at h
      obtain ⟨ps, h1, rfl⟩ := map_some h
      refine .tup ?_ (dp_ofL ts ps hs.2 h1)
      cases z with
      | true => exact hs.1.elim
      | false => exact .inl (.inr hs.1.2)
    | ktp => simp [Kd.wri, D.dat] at h
    | dic o ks => simp [Kd.wri, D.dat] at h
    | dct o ks => simp [Kd.wri, D.dat] at h
theorem dp_ofL : ∀ (ts : List T) (ps : List PyData), satL K H ts → datL (erL ts) = some ps → DpAll K H (vals ts) ps
  | [], ps, _, h => by
    rw [erL, datL] at h
    cases h
    exact .nil
  | t :: ts, ps, hs, h => by
    rw [erL, datL] at h
    obtain ⟨p, h1, h⟩ := bind_some h
    obtain ⟨qs, h2, rfl⟩ := map_some h
    exact .cons (dp_of t p hs.1 h1) (dp_ofL ts qs hs.2 h2)
end
def fEqB (x y : D) : Option Bool := x.dat.bind fun p => y.dat.bind fun q => if (SeqAt.shaped p && SeqAt.shaped q) = true then some (PyData.eqv p q) else none
def fEq (x y : D) : Option V := (fEqB x y).map .bl
def fNe (x y : D) : Option V := (fEqB x y).map fun b => .bl (!b)
def fIn (x y : D) : Option V := x.dat.bind fun p => match y with
  | .n (.lst _) ds => (datL ds).bind fun qs => if (SeqAt.shaped p && SeqAt.shaped (.list qs)) = true then some (.bl (qs.any fun z => PyData.eqv z p)) else none
  | _ => none
def fNotIn (x y : D) : Option V := (fIn x y).bind fun v => match v with
  | .bl b => some (.bl (!b))
  | _ => none
theorem fEqB_some {x y : D} {b : Bool} (h : fEqB x y = some b) : ∃ p q, x.dat = some p ∧ y.dat = some q ∧ SeqAt.shaped p = true ∧ SeqAt.shaped q = true ∧ b = PyData.eqv p q := by
  obtain ⟨p, h1, h⟩ := bind_some h
  obtain ⟨q, h2, h⟩ := bind_some h
  split at h
  · rename_i hh
    rw [Bool.and_eq_true] at hh
    cases h
    exact ⟨p, q, h1, h2, hh.1, hh.2, rfl⟩
  · cases h
theorem op2_eq : Op2 K (rEqD K) fEq := fun t u v H Q h1 h2 h q => by
  obtain ⟨b, h', rfl⟩ := map_some h
  obtain ⟨x, y, e1, e2, s1, s2, rfl⟩ := fEqB_some h'
  exact ⟨x, y, dp_of t x h1 e1, dp_of u y h2 e2, s1, s2, q⟩
theorem op2_ne : Op2 K (rNeD K) fNe := fun t u v H Q h1 h2 h q => by
  obtain ⟨b, h', rfl⟩ := map_some h
  obtain ⟨x, y, e1, e2, s1, s2, rfl⟩ := fEqB_some h'
  exact ⟨x, y, dp_of t x h1 e1, dp_of u y h2 e2, s1, s2, q⟩
def isNon : D → Bool
  | .s .non => true
  | _ => false
@[simp] theorem isNon_c0  : isNon (.s .non) = true := rfl
@[simp] theorem isNon_c1 {i : Int} : isNon (.s (.int i)) = false := rfl
@[simp] theorem isNon_c2 {b : Bool} : isNon (.s (.bl b)) = false := rfl
@[simp] theorem isNon_c3 {z : PySem.Str} : isNon (.s (.str z)) = false := rfl
@[simp] theorem isNon_c4 {k : Kd} {ds : List D} : isNon (.n k ds) = false := rfl
def fIsN (x y : D) : Option V := match y with
  | .s .non => some (.bl (isNon x))
  | _ => none
@[simp] theorem fIsN_c0 {x : D} : fIsN x (.s .non) = some (.bl (isNon x)) := rfl
def fNotN (x y : D) : Option V := match y with
  | .s .non => some (.bl (!isNon x))
  | _ => none
@[simp] theorem fNotN_c0 {x : D} : fNotN x (.s .non) = some (.bl (!isNon x)) := rfl
end
theorem hu64 {A : Around} {k : Nat} (hr : Room k A) : A.units + 64 < cLine := by have := hr.un; omega
section
variable {X : Cx} {m ma mb : PM} {e a b : Expr} {pos : Pos} {k : Nat} {rest : List Expr}
theorem sp_eq (hr : Room k X.A) (ha : SB X a ma) (hb : SB X b mb) : SP X (.Compare a [.Eq] [b] pos) (mOp2 fEq ma mb) := sp_cmp (op_eqD (hu64 hr)) op2_eq ha hb (nomark _)

def toB : D → Option Bool
  | .s (.bl b) => some b
  | _ => none
@[simp] theorem toB_c0 {b : Bool} : toB (.s (.bl b)) = some b := rfl
@[simp] def mB (m : PM) : BM := fun env => (m env).bind toB
@[simp] def mNotT (m : BM) : BM := fun env => (m env).map (!·)
@[simp] def mAnd (m n : BM) : BM := fun env => (m env).bind fun b => if b = true then n env else some false
@[simp] def mOr (m n : BM) : BM := fun env => (m env).bind fun b => if b = true then some true else n env
theorem toB_some {d : D} {b : Bool} (h : toB d = some b) : d = .s (.bl b) := by
  unfold toB at h
  split at h
  · cases h; rfl
  · cases h
theorem st_val (h : SB X e m) (he : ∀ whole, isTrue e X.env whole = (do let v ← whole; standAt e.pos; holding [v] (truthy v)) := by intro _; rfl) : ST X e (mB m) := PT.weak (pt_val h he) fun σ H Q ⟨env, b, hm, r, s, k⟩ => by
  obtain ⟨d, hd, hb⟩ := bind_some hm
  refine ⟨env, d, hd, r, s, fun t H' e1 x1 s1 _ => ?_⟩
  subst e1
  rw [er_scl (toB_some hb) rfl]
  exact ⟨b, rfl, k H' x1⟩
theorem st_not {mt : BM} (h : ST X a mt) : ST X (.UnaryOp .Not a pos) (mNotT mt) := PT.weak (pt_not h) fun σ H Q ⟨env, b, hm, r, s, k⟩ => by
  obtain ⟨c, hc, rfl⟩ := map_some hm
  exact ⟨env, c, hc, r, s, fun H' x1 => k H' x1⟩
theorem sw_and1 {mt : BM} (h : ST X a mt) : SW X (.BoolOp .And [a] pos) mt := pw_and1 h
theorem sw_or1 {mt : BM} (h : ST X a mt) : SW X (.BoolOp .Or [a] pos) mt := pw_or1 h
theorem sw_and {mt mu : BM} (h : ST X a mt) (h2 : SW X (.BoolOp .And (b :: rest) pos) mu) : SW X (.BoolOp .And (a :: b :: rest) pos) (mAnd mt mu) := PW.weak (pw_and h h2) fun σ H Q ⟨env, c, hm, r, s, k⟩ => by
  obtain ⟨x, hx, hm⟩ := bind_some hm
  refine ⟨env, x, hx, r, s, fun H' x1 => ?_⟩
  cases x with
  | true =>
    rw [if_pos rfl] at hm ⊢
    exact ⟨env, c, hm, r, s.ex x1, fun H2 x2 => k H2 (x1.trans x2)⟩
  | false =>
    rw [if_neg Bool.false_ne_true] at hm ⊢
    cases hm
    exact k H' x1
theorem sw_or {mt mu : BM} (h : ST X a mt) (h2 : SW X (.BoolOp .Or (b :: rest) pos) mu) : SW X (.BoolOp .Or (a :: b :: rest) pos) (mOr mt mu) := PW.weak (pw_or h h2) fun σ H Q ⟨env, c, hm, r, s, k⟩ => by
  obtain ⟨x, hx, hm⟩ := bind_some hm
  refine ⟨env, x, hx, r, s, fun H' x1 => ?_⟩
  cases x with
  | false =>
    rw [if_neg Bool.false_ne_true] at hm ⊢
    exact ⟨env, c, hm, r, s.ex x1, fun H2 x2 => k H2 (x1.trans x2)⟩
  | true =>
    rw [if_pos rfl] at hm ⊢
    cases hm
    exact k H' x1
theorem st_w {mt : BM} (h : SW X e mt) : ST X e mt := h.pt
def tru : D → Option Bool
  | .s .non => some false
  | .s (.bl b) => some b
  | .s (.int i) => some (i != 0)
  | .n (.lst _) ds => some (!ds.isEmpty)
  | .n .tup ds => some (!ds.isEmpty)
  | _ => none
@[simp] theorem tru_c0  : tru (.s .non) = some false := rfl
@[simp] theorem tru_c1 {b : Bool} : tru (.s (.bl b)) = some b := rfl
@[simp] theorem tru_c2 {i : Int} : tru (.s (.int i)) = some (i != 0) := rfl
@[simp] theorem tru_c3 {ds : List D} {o : Fl} : tru (.n (.lst o) ds) = some (!ds.isEmpty) := rfl
@[simp] theorem tru_c4 {ds : List D} : tru (.n .tup ds) = some (!ds.isEmpty) := rfl
@[simp] def mTru (m : PM) : BM := fun env => (m env).bind tru
theorem isEmpty_er {ts : List T} : (vals ts).isEmpty = (erL ts).isEmpty := by
  cases ts <;> rfl
theorem st_tru (h : SB X e m) (he : ∀ whole, isTrue e X.env whole = (do let v ← whole; standAt e.pos; holding [v] (truthy v)) := by intro _; rfl) : ST X e (mTru m) := PT.weak (pt_truth h he) fun σ H Q ⟨env, b, hm, r, s, k⟩ => by
  obtain ⟨d, hd, hb⟩ := bind_some hm
  refine ⟨env, d, hd, r, s, fun t H' e1 x1 s1 _ => ?_⟩
  subst e1
  refine ⟨b, ?_, k H' x1⟩
  unfold tru at hb
  split at hb
  · rename_i e; rw [er_scl e rfl]; cases hb; rfl
  · rename_i e; rw [er_scl e rfl]; cases hb; rfl
  · rename_i e; rw [er_scl e rfl]; cases hb; rfl
  · rename_i e
    obtain ⟨a, ts, e1, e2, e3, _⟩ := rdL s1 e
    cases hb
    rw [e1]
    exact .inl ⟨_, e3, by rw [isEmpty_er, e2]⟩
  · rename_i e
    obtain ⟨a, ts, e1, e2, e3, _⟩ := rdT s1 e
    cases hb
    rw [e1]
    exact .inr (.inl ⟨_, e3, by rw [isEmpty_er, e2]⟩)
  · cases hb

@[simp] def mAndV (m n : PM) : PM := fun env => ((m env).bind toB).bind fun b => if b = true then ((n env).bind toB).map fun c => .s (.bl c) else some (.s (.bl false))
@[simp] def mOrV (m n : PM) : PM := fun env => ((m env).bind toB).bind fun b => if b = true then some (.s (.bl true)) else ((n env).bind toB).map fun c => .s (.bl c)
@[simp] def mNotV (m : PM) : PM := fun env => ((m env).bind toB).map fun c => .s (.bl (!c))
@[simp] def mIf (c : BM) (m n : PM) : PM := fun env => (c env).bind fun b => if b = true then m env else n env
theorem sp_one {op : BoolOp} (h : SP X a m) : SP X (.BoolOp op [a] pos) m := pe_one h
theorem sp_and (ha : SP X a ma) (hb : SP X (.BoolOp .And (b :: rest) pos) mb) : SP X (.BoolOp .And (a :: b :: rest) pos) (mAndV ma mb) := PE.weak (pe_and ha hb) fun σ H Q ⟨env, d, hm, r, s, k⟩ => by
  obtain ⟨x, hx, hm⟩ := bind_some hm
  obtain ⟨dx, hdx, hx⟩ := bind_some hx
  refine ⟨env, dx, hdx, r, s, fun t H' e1 x1 s1 _ => ?_⟩
  subst e1
  rw [er_scl (toB_some hx) rfl]
  refine ⟨x, rfl, ?_⟩
  cases x with
  | true =>
    rw [if_pos rfl] at hm ⊢
    obtain ⟨c, hc, rfl⟩ := map_some hm
    obtain ⟨dy, hdy, hy⟩ := bind_some hc
    refine ⟨env, dy, hdy, r, s.ex x1, fun t2 H2 e2 x2 s2 o => ?_⟩
    subst e2
    have e3 := er_scl (toB_some hy) rfl
    exact k t2 H2 (toB_some hy) (x1.trans x2) s2 (o.back x1)
  | false =>
    rw [if_neg Bool.false_ne_true] at hm ⊢
    cases hm
    exact k (.s (.bl false)) H' rfl x1 trivial own_s
theorem sp_not (ha : SP X a ma) : SP X (.UnaryOp .Not a pos) (mNotV ma) := PE.weak (pe_not ha) fun σ H Q ⟨env, d, hm, r, s, k⟩ => by
  obtain ⟨x, hx, rfl⟩ := map_some hm
  obtain ⟨dx, hdx, hx⟩ := bind_some hx
  refine ⟨env, dx, hdx, r, s, fun t H' e1 x1 s1 _ => ?_⟩
  subst e1
  rw [er_scl (toB_some hx) rfl]
  exact ⟨x, rfl, k (.s (.bl (!x))) H' rfl x1 trivial own_s⟩
end
end Ow

namespace Ow
open PySem L2


def OwnL (H : Hp) (env : TEnv) (ts : List T) : Prop := ∀ a, (coL a ts ≤ 1 ∧ (coL a ts = 0 ∨ cuL a ts = 0)) ∧ (0 < coL a ts → H a = none) ∧ (0 < cuL a ts → 0 < cuE a env ∨ H a = none)
def BorL (H : Hp) (env : TEnv) (ts : List T) : Prop := ∀ a, (0 < coL a ts → 0 < coE a env ∨ H a = none) ∧ (0 < cuL a ts → 0 < cuE a env ∨ H a = none)
abbrev LM := Env → Option (List D)
def trBA (K : PySem.W.Frag) (m : LM) : TA := fun σ H Q => ∃ env ds, m (erE env) = some ds ∧ Rel σ env ∧ SatE K H env ∧ ∀ ts H', erL ts = ds → Ex H H' → satL K H' ts → BorL H env ts → Q (vals ts) H'
def trPA (K : PySem.W.Frag) (m : LM) : TA := fun σ H Q => ∃ env ds, m (erE env) = some ds ∧ Rel σ env ∧ SatE K H env ∧ ∀ ts H', erL ts = ds → Ex H H' → satL K H' ts → OwnL H env ts → Q (vals ts) H'
def SBA (X : Cx) (es : List Expr) (m : LM) : Prop := PA X es (trBA X.K m)
def SPA (X : Cx) (es : List Expr) (m : LM) : Prop := PA X es (trPA X.K m)
theorem PA.weak {X : Cx} {es : List Expr} {t u : TA} (h : PA X es t) (w : ∀ σ H Q, u σ H Q → t σ H Q) : PA X es u := ⟨fun p pins s σ H Q I z => h.run p pins s σ H Q I (w σ H Q z)⟩
@[simp] def lNil : LM := fun _ => some []
@[simp] def lCons (m : PM) (n : LM) : LM := fun env => (m env).bind fun d => (n env).map (d :: ·)
section
variable {K : PySem.W.Frag} {H H1 H' : Hp} {env : TEnv} {ts us : List T} {p : Addr}
theorem BorL.back (e : Ex H H1) (h : BorL H1 env ts) : BorL H env ts := fun a =>
  ⟨fun z => ((h a).1 z).imp id (Evl.fresh_back e), fun z => ((h a).2 z).imp id (Evl.fresh_back e)⟩
theorem OwnL.bor (h : OwnL H env ts) : BorL H env ts := fun a => ⟨fun z => .inr ((h a).2.1 z), (h a).2.2⟩
theorem BorL.own (h : BorL H env ts) (hp : pureL (erL ts) = true) : OwnL H env ts := fun a => by
  rw [pureL_co ts hp]
  exact ⟨⟨Nat.zero_le _, .inl rfl⟩, fun z => absurd z (Nat.lt_irrefl _), (h a).2⟩
theorem Bor.own {t : T} (h : Bor H env t) (hp : t.er.pure = true) : Own H env t := fun a => by
  rw [pure_co t hp]
  exact ⟨⟨Nat.zero_le _, .inl rfl⟩, fun z => absurd z (Nat.lt_irrefl _), (h a).2⟩
theorem Bor.sub {t : T} (h : Bor H env t) (h1 : ∀ b, coL b ts ≤ t.co b) (h2 : ∀ b, cuL b ts ≤ t.cu b) : BorL H env ts := fun a =>
  ⟨fun z => (h a).1 (Nat.lt_of_lt_of_le z (h1 a)), fun z => (h a).2 (Nat.lt_of_lt_of_le z (h2 a))⟩
theorem BorL.mem {t : T} (h : BorL H env ts) (ht : t ∈ ts) : Bor H env t := fun a =>
  ⟨fun z => (h a).1 (Nat.lt_of_lt_of_le z (coL_mem ht)), fun z => (h a).2 (Nat.lt_of_lt_of_le z (cuL_mem ht))⟩
theorem BorL.subset : ∀ {us : List T}, BorL H env ts → (∀ u ∈ us, u ∈ ts) → BorL H env us
  | [], _, _ => fun a => ⟨fun z => absurd z (by rw [coL]; omega), fun z => absurd z (by rw [cuL]; omega)⟩
  | u :: us, h, hs => fun a => by
    have h1 := (h.mem (hs u (List.mem_cons_self ..))) a
    have h2 := (BorL.subset (us := us) h fun v hv => hs v (List.mem_cons_of_mem _ hv)) a
    rw [coL, cuL]
    refine ⟨fun z => ?_, fun z => ?_⟩
    · by_cases q : 0 < u.co a
      · exact h1.1 q
      · exact h2.1 (by omega)
    · by_cases q : 0 < u.cu a
      · exact h1.2 q
      · exact h2.2 (by omega)
theorem ownL_nil : OwnL H env [] := fun a => by
  rw [coL, cuL]
  exact ⟨⟨Nat.zero_le _, .inl rfl⟩, fun z => absurd z (Nat.lt_irrefl _), fun z => absurd z (Nat.lt_irrefl _)⟩
theorem OwnL.cons {t : T} (x1 : Ex H H1) (hs : SatE K H env) (s1 : t.sat K H1) (o1 : Own H env t) (o2 : OwnL H1 env ts) : OwnL H env (t :: ts) := fun a => by
  have h1 := o1 a
  have h2 := o2 a
  have c1 : 0 < t.co a → H1 a ≠ none := fun z => co_some t s1 z
  have c2 : 0 < t.cu a → H1 a ≠ none := fun z => cu_some t s1 z
  have c3 : 0 < cuE a env → H a ≠ none := fun z => cuE_some hs z
  have c4 : H1 a = none → H a = none := Evl.fresh_back x1
  rw [coL, cuL]
  by_cases q1 : H a = none
  · have n3 : cuE a env = 0 := by
      rcases Nat.eq_zero_or_pos (cuE a env) with z | z
      · exact z
      · exact absurd q1 (c3 z)
    by_cases q2 : H1 a = none
    · have n1 : t.co a = 0 := by
        rcases Nat.eq_zero_or_pos (t.co a) with z | z
        · exact z
        · exact absurd q2 (c1 z)
      have n2 : t.cu a = 0 := by
        rcases Nat.eq_zero_or_pos (t.cu a) with z | z
        · exact z
        · exact absurd q2 (c2 z)
      rw [n1, n2, Nat.zero_add, Nat.zero_add]
      exact ⟨h2.1, fun _ => q1, fun _ => .inr q1⟩
    · have n1 : coL a ts = 0 := by
        rcases Nat.eq_zero_or_pos (coL a ts) with z | z
        · exact z
        · exact absurd (h2.2.1 z) q2
      have n2 : cuL a ts = 0 := by
        rcases Nat.eq_zero_or_pos (cuL a ts) with z | z
        · exact z
        · rcases h2.2.2 z with z | z
          · omega
          · exact absurd z q2
      rw [n1, n2, Nat.add_zero, Nat.add_zero]
      exact ⟨h1.1, fun _ => q1, fun _ => .inr q1⟩
  · have n1 : t.co a = 0 := by
      rcases Nat.eq_zero_or_pos (t.co a) with z | z
      · exact z
      · exact absurd (h1.2.1 z) q1
    have n2 : coL a ts = 0 := by
      rcases Nat.eq_zero_or_pos (coL a ts) with z | z
      · exact z
      · exact absurd (c4 (h2.2.1 z)) q1
    rw [n1, n2]
    refine ⟨⟨by omega, .inl rfl⟩, fun z => absurd z (by omega), fun z => ?_⟩
    by_cases q : 0 < t.cu a
    · exact h1.2.2 q
    · rcases h2.2.2 (by omega) with z | z
      · exact .inl z
      · exact .inr (c4 z)
theorem new_node {k : Kd} (hk : k.isw = false) (x1 : Ex H H1) (hs : SatE K H env) (s1 : satL K H1 us) (o : OwnL H env us) (hp : H1 p = none) :
    Ex H1 (upd H1 p (k.ho (vals us))) ∧ (T.n k p us).sat K (upd H1 p (k.ho (vals us))) ∧ Own H env (.n k p us) := by
  have e := Evl.Ex.new (o := k.ho (vals us)) hp
  refine ⟨e, ⟨⟨upd_same, hk⟩, satL_ex e s1⟩, fun a => ?_⟩
  have h := o a
  have c1 : 0 < coL a us → H1 a ≠ none := fun z => coL_some us s1 z
  have c2 : 0 < cuL a us → H1 a ≠ none := fun z => cuL_some us s1 z
  have c4 : H1 a = none → H a = none := Evl.fresh_back x1
  rw [T.co, T.cu]
  by_cases q : p = a
  · subst q
    have n1 : coL p us = 0 := by
      rcases Nat.eq_zero_or_pos (coL p us) with z | z
      · exact z
      · exact absurd hp (c1 z)
    have n2 : cuL p us = 0 := by
      rcases Nat.eq_zero_or_pos (cuL p us) with z | z
      · exact z
      · exact absurd hp (c2 z)
    rw [n1, n2]
    refine ⟨?_, fun _ => c4 hp, fun _ => .inr (c4 hp)⟩
    cases k.own <;> simp
  · rw [if_neg (fun z => q z.2), if_neg (fun z => q z.2), Nat.zero_add, Nat.zero_add]
    exact h
end
section
variable {X : Cx} {m ma mb : PM} {ml : LM} {e a b : Expr} {es : List Expr} {pos : Pos}
theorem sba_nil : SBA X [] lNil := PA.weak pa_nil fun σ H Q ⟨env, d, hm, r, s, k⟩ => by
  cases hm
  exact k [] H rfl (Evl.Ex.refl H) trivial ownL_nil.bor
theorem spa_nil : SPA X [] lNil := PA.weak pa_nil fun σ H Q ⟨env, d, hm, r, s, k⟩ => by
  cases hm
  exact k [] H rfl (Evl.Ex.refl H) trivial ownL_nil
theorem sba_cons (ha : SB X e m) (hr : SBA X es ml) (hs : starEach (e :: es) X.env = (false, eval e X.env) :: starEach es X.env := by rfl) : SBA X (e :: es) (lCons m ml) := PA.weak (pa_cons ha hr hs) fun σ H Q ⟨env, d, hm, r, s, k⟩ => by
  obtain ⟨x, hx, hm⟩ := bind_some hm
  obtain ⟨ys, hy, rfl⟩ := map_some hm
  refine ⟨env, x, hx, r, s, fun t H1 e1 x1 s1 b1 => ⟨env, ys, hy, r, s.ex x1, fun ts H2 e2 x2 s2 b2 => ?_⟩⟩
  refine k (t :: ts) H2 (by rw [erL, e1, e2]) (x1.trans x2) ⟨sat_ex x2 s1, s2⟩ fun a => ?_
  have h1 := b1 a
  have h2 := (b2.back x1) a
  rw [coL, cuL]
  refine ⟨fun z => ?_, fun z => ?_⟩
  · by_cases q : 0 < t.co a
    · exact h1.1 q
    · exact h2.1 (by omega)
  · by_cases q : 0 < t.cu a
    · exact h1.2 q
    · exact h2.2 (by omega)
theorem spa_cons (ha : SP X e m) (hr : SPA X es ml) (hs : starEach (e :: es) X.env = (false, eval e X.env) :: starEach es X.env := by rfl) : SPA X (e :: es) (lCons m ml) := PA.weak (pa_cons ha hr hs) fun σ H Q ⟨env, d, hm, r, s, k⟩ => by
  obtain ⟨x, hx, hm⟩ := bind_some hm
  obtain ⟨ys, hy, rfl⟩ := map_some hm
  refine ⟨env, x, hx, r, s, fun t H1 e1 x1 s1 b1 => ⟨env, ys, hy, r, s.ex x1, fun ts H2 e2 x2 s2 b2 => ?_⟩⟩
  exact k (t :: ts) H2 (by rw [erL, e1, e2]) (x1.trans x2) ⟨sat_ex x2 s1, s2⟩ (OwnL.cons x1 s s1 b1 b2)


@[simp] def mk (k : Kd) (m : LM) : PM := fun env => (m env).bind fun ds => if ds.length ≤ 16777216 then some (.n k ds) else none
theorem len_er {ts : List T} {ds : List D} (h : erL ts = ds) : ts.length = ds.length := by rw [← h, erL_length]
theorem sizeLine_le {n : Nat} (h : n ≤ 16777216) : n ≤ sizeLine := by rw [sizeLine_eq]; exact h
theorem mk_some {k : Kd} {m : LM} {env : Env} {d : D} (h : mk k m env = some d) : ∃ ds, m env = some ds ∧ ds.length ≤ 16777216 ∧ d = .n k ds := by
  obtain ⟨ds, h1, h⟩ := bind_some h
  split at h
  · cases h
    exact ⟨ds, h1, by assumption, rfl⟩
  · cases h
theorem sp_lst (h : SPA X es ml) : SP X (.List es pos) (mk (.lst .o) ml) := PE.weak (pe_lst h) fun σ H Q ⟨env, d, hm, r, s, k⟩ => by
  obtain ⟨ds, h1, h2, rfl⟩ := mk_some hm
  refine ⟨env, ds, h1, r, s, fun ts H1 e1 x1 s1 o1 => ⟨sizeLine_le (by rw [List.length_map, len_er e1]; exact h2), fun p hp => ?_⟩⟩
  obtain ⟨x2, s2, o2⟩ := new_node (k := .lst .o) rfl x1 s s1 o1 hp
  exact k (.n (.lst .o) p ts) _ (by rw [T.er, e1]) (x1.trans x2) s2 o2
theorem sp_tup {x1} (h : SPA X es ml) : SP X (.Tuple es x1 pos) (mk .tup ml) := PE.weak (pe_tup h) fun σ H Q ⟨env, d, hm, r, s, k⟩ => by
  obtain ⟨ds, h1, h2, rfl⟩ := mk_some hm
  refine ⟨env, ds, h1, r, s, fun ts H1 e1 x1 s1 o1 => ⟨sizeLine_le (by rw [List.length_map, len_er e1]; exact h2), fun p hp => ?_⟩⟩
  obtain ⟨x2, s2, o2⟩ := new_node (k := .tup) rfl x1 s s1 o1 hp
  exact k (.n .tup p ts) _ (by rw [T.er, e1]) (x1.trans x2) s2 o2


def OpN (K : PySem.W.Frag) (r : List V → Hp → VK → Prop) (f : List D → Option V) : Prop := ∀ (ts : List T) (v : V) (H : Hp) (Q : VK), satL K H ts → f (erL ts) = some v → Q v H → r (vals ts) H Q
@[simp] def mCall (f : List D → Option V) (m : LM) : PM := fun env => (m env).bind fun ds => (f ds).bind sv
theorem rdN1 {ta : TA} {r : List V → Hp → VK → Prop} {f : List D → Option V} {K : PySem.W.Frag} {σ : L2.St} {H : Hp} {Q : VK} (ho : OpN K r f) (h : trP K (mCall f ml) σ H Q) : tCB r (trBA K ml) σ H Q := by
  obtain ⟨env, d, hm, hr, hs, k⟩ := h
  obtain ⟨xs, hx, hm⟩ := bind_some hm
  obtain ⟨v, hv, hm⟩ := bind_some hm
  obtain ⟨s1, rfl⟩ := sv_some hm
  refine ⟨env, xs, hx, hr, hs, fun ts H1 e1 x1 s2 _ => ?_⟩
  subst e1
  exact ho ts v H1 Q s2 hv (k (.s v) H1 (by rw [T.er, hid_scl s1]) x1 trivial own_s)
def OpNL (K : PySem.W.Frag) (r : List V → Hp → VK → Prop) (f : List D → Option (List D)) : Prop := ∀ (ts : List T) (ds : List D) (H : Hp) (Q : VK), satL K H ts → f (erL ts) = some ds →
  (∀ us p, erL us = ds → satL K H us → (∀ a, 0 < coL a us → 0 < coL a ts) → (∀ a, 0 < cuL a us → 0 < cuL a ts) → H p = none → Q (.ref p) (upd H p (.lst (vals us)))) → r (vals ts) H Q
@[simp] def mCallL (f : List D → Option (List D)) (m : LM) : PM := fun env => (m env).bind fun ds => (f ds).bind fun rs => if pureL rs = true then some (.n (.lst .o) rs) else none
theorem rdNL {r : List V → Hp → VK → Prop} {f : List D → Option (List D)} {K : PySem.W.Frag} {σ : L2.St} {H : Hp} {Q : VK} (ho : OpNL K r f) (h : trP K (mCallL f ml) σ H Q) : tCB r (trBA K ml) σ H Q := by
  obtain ⟨env, d, hm, hr, hs, k⟩ := h
  obtain ⟨xs, hx, hm⟩ := bind_some hm
  obtain ⟨rs, hv, hm⟩ := bind_some hm
  split at hm
  · rename_i hp
    cases hm
    refine ⟨env, xs, hx, hr, hs, fun ts H1 e1 x1 s2 b1 => ?_⟩
    subst e1
    refine ho ts rs H1 Q s2 hv fun us p e2 s3 c1 c2 hn => ?_
    have b2 : BorL H env us := fun a => ⟨fun z => (b1 a).1 (c1 a z), fun z => (b1 a).2 (c2 a z)⟩
    obtain ⟨x2, s4, o2⟩ := new_node (k := .lst .o) rfl x1 hs s3 (b2.own (by rw [e2]; exact hp)) hn
    exact k (.n (.lst .o) p us) _ (by rw [T.er, e2]) (x1.trans x2) s4 o2
  · cases hm
theorem sp_callB {x : Str} {p : Pos} {id : String} {r : List V → Hp → VK → Prop} {f : List D → Option V} (hc : CallR X (.builtin id) r) (hf : OpN X.K r f) (hv : bootBuiltins x = some (.builtin id)) (hm : X.mg x = none) (ha : SBA X (e :: es) ml) (hg : Gl X x := by rfl)
    (hn : x ≠ "__name__" := by decide) (hdb : (x == ("__debug__" : Str)) = false := by decide) (he : starEach (e :: es) X.env = (false, eval e X.env) :: starEach es X.env := by rfl) (hpl : (backTo pos (starEach es X.env)).any (·.1) = false := by rfl) :
    SP X (.Call (.Name x p) (e :: es) [] pos) (mCall f ml) := PE.weak (pe_callB hc hg hm hv ha hn hdb he hpl) fun σ H Q h => rdN1 (ta := trBA X.K ml) hf h
theorem sp_callTyL {x : Str} {p : Pos} {id : String} {r : List V → Hp → VK → Prop} {f : List D → Option (List D)} (hc : CallR X (.type id) r) (hf : OpNL X.K r f) (hv : bootBuiltins x = some (.type id)) (hm : X.mg x = none) (ha : SBA X (e :: es) ml) (hg : Gl X x := by rfl)
    (hn : x ≠ "__name__" := by decide) (hdb : (x == ("__debug__" : Str)) = false := by decide) (he : starEach (e :: es) X.env = (false, eval e X.env) :: starEach es X.env := by rfl) (hpl : (backTo pos (starEach es X.env)).any (·.1) = false := by rfl) :
    SP X (.Call (.Name x p) (e :: es) [] pos) (mCallL f ml) := PE.weak (pe_callTy hc hg hm hv ha hn hdb he hpl) fun σ H Q h => rdNL hf h


@[simp] def intsD : List D → Option (List Int)
  | [] => some []
  | .s (.int i) :: ds => (intsD ds).map (i :: ·)
  | _ => none
@[simp] def boolsD : List D → Option (List Bool)
  | [] => some []
  | .s (.bl i) :: ds => (boolsD ds).map (i :: ·)
  | _ => none
theorem intsD_of : ∀ {ts : List T} {ns : List Int}, intsD (erL ts) = some ns → ts = ns.map fun i => T.s (.int i)
  | [], ns, h => by
    rw [erL, intsD] at h
    cases h; rfl
  | t :: ts, ns, h => by
    rw [erL] at h
    unfold intsD at h
    split at h
    · rename_i e; cases e
    · rename_i i ds e
      injection e with e1 e2
      subst e2
      obtain ⟨ms, h1, rfl⟩ := map_some h
      rw [List.map_cons, ← intsD_of h1, ← er_int e1]
    · cases h
theorem boolsD_of : ∀ {ts : List T} {ns : List Bool}, boolsD (erL ts) = some ns → ts = ns.map fun i => T.s (.bl i)
  | [], ns, h => by
    rw [erL, boolsD] at h
    cases h; rfl
  | t :: ts, ns, h => by
    rw [erL] at h
    unfold boolsD at h
    split at h
    · rename_i e; cases e
    · rename_i i ds e
      injection e with e1 e2
      subst e2
      obtain ⟨ms, h1, rfl⟩ := map_some h
      rw [List.map_cons, ← boolsD_of h1, ← er_scl e1 rfl]
    · cases h
theorem vals_ints (ns : List Int) : vals (ns.map fun i => T.s (.int i)) = ns.map V.int := by
  rw [vals, List.map_map]
  rfl
theorem vals_bools (ns : List Bool) : vals (ns.map fun i => T.s (.bl i)) = ns.map V.bl := by
  rw [vals, List.map_map]
  rfl
theorem one_er {ts : List T} {d : D} (h : erL ts = [d]) : ∃ t, ts = [t] ∧ t.er = d := by
  match ts, h with
  | [t], h =>
    rw [erL, erL] at h
    cases h
    exact ⟨t, rfl, rfl⟩
theorem two_er {ts : List T} {d c : D} (h : erL ts = [d, c]) : ∃ t u, ts = [t, u] ∧ t.er = d ∧ u.er = c := by
  match ts, h with
  | [t, u], h =>
    rw [erL, erL, erL] at h
    cases h
    exact ⟨t, u, rfl, rfl, rfl⟩
def li : List D → Option (List Int)
  | [.n (.lst _) ds] => intsD ds
  | _ => none
@[simp] theorem li_c0 {ds : List D} {o : Fl} : li [.n (.lst o) ds] = intsD ds := rfl
def lb : List D → Option (List Bool)
  | [.n (.lst _) ds] => boolsD ds
  | _ => none
@[simp] theorem lb_c0 {ds : List D} {o : Fl} : lb [.n (.lst o) ds] = boolsD ds := rfl
theorem li_of {K : PySem.W.Frag} {H : Hp} {ts : List T} {ns : List Int} (hs : satL K H ts) (h : li (erL ts) = some ns) : ∃ a, vals ts = [.ref a] ∧ SqL K H a (ns.map V.int) := by
  unfold li at h
  split at h
  · rename_i o ds e
    obtain ⟨t, rfl, e1⟩ := one_er e
    obtain ⟨a, us, e2, e3, e4, _⟩ := rdL hs.1 e1
    rw [← e3] at h
    refine ⟨a, by rw [vals, List.map_cons, e2]; rfl, ?_⟩
    rw [intsD_of h, vals_ints] at e4
    exact e4
  · cases h
theorem lb_of {K : PySem.W.Frag} {H : Hp} {ts : List T} {ns : List Bool} (hs : satL K H ts) (h : lb (erL ts) = some ns) : ∃ a, vals ts = [.ref a] ∧ SqL K H a (ns.map V.bl) := by
  unfold lb at h
  split at h
  · rename_i o ds e
    obtain ⟨t, rfl, e1⟩ := one_er e
    obtain ⟨a, us, e2, e3, e4, _⟩ := rdL hs.1 e1
    rw [← e3] at h
    refine ⟨a, by rw [vals, List.map_cons, e2]; rfl, ?_⟩
    rw [boolsD_of h, vals_bools] at e4
    exact e4
  · cases h
def fLen : List D → Option V
  | [.n (.lst _) ds] => some (.int ds.length)
  | [.n .tup ds] => some (.int ds.length)
  | [.n .ktp ds] => some (.int ds.length)
  | _ => none
@[simp] theorem fLen_c0 {ds : List D} {o : Fl} : fLen [.n (.lst o) ds] = some (.int ds.length) := rfl
@[simp] theorem fLen_c1 {ds : List D} : fLen [.n .tup ds] = some (.int ds.length) := rfl
@[simp] def fSum (ds : List D) : Option V := (li ds).map fun ns => .int ns.sum
@[simp] def fMaxL (ds : List D) : Option V := (li ds).bind fun ns => ns.max?.map .int
@[simp] def fMinL (ds : List D) : Option V := (li ds).bind fun ns => ns.min?.map .int
@[simp] def fAny (ds : List D) : Option V := (lb ds).map fun ns => .bl (ns.any id)
@[simp] def fAll (ds : List D) : Option V := (lb ds).map fun ns => .bl (ns.all id)
def fAbs : List D → Option V
  | [.s (.int i)] => some (.int (if i < 0 then -i else i))
  | _ => none
@[simp] theorem fAbs_c0 {i : Int} : fAbs [.s (.int i)] = some (.int (if i < 0 then -i else i)) := rfl
def fMax2 : List D → Option V
  | [.s (.int i), .s (.int j)] => some (.int (if j > i then j else i))
  | _ => none
@[simp] theorem fMax2_c0 {i : Int} {j : Int} : fMax2 [.s (.int i), .s (.int j)] = some (.int (if j > i then j else i)) := rfl
def fMin2 : List D → Option V
  | [.s (.int i), .s (.int j)] => some (.int (if j < i then j else i))
  | _ => none
@[simp] theorem fMin2_c0 {i : Int} {j : Int} : fMin2 [.s (.int i), .s (.int j)] = some (.int (if j < i then j else i)) := rfl
def fInt1 : List D → Option V
  | [.s (.int i)] => some (.int i)
  | [.s (.bl b)] => some (.int (if b then 1 else 0))
  | _ => none
@[simp] theorem fInt1_c0 {i : Int} : fInt1 [.s (.int i)] = some (.int i) := rfl
@[simp] theorem fInt1_c1 {b : Bool} : fInt1 [.s (.bl b)] = some (.int (if b then 1 else 0)) := rfl
def fStr1 : List D → Option V
  | [.s (.int i)] => if i.natAbs.log2 < 1920 then some (.str (toString i)) else none
  | _ => none
section
variable {K : PySem.W.Frag}
theorem opn_len : OpN K (fun xs H Q => ∃ p ys, xs = [.ref p] ∧ (SqL K H p ys ∨ SqT K H p ys) ∧ Q (.int ys.length) H) fLen := fun ts v H Q hs h q => by
  unfold fLen at h
  split at h
  · rename_i o ds e
    cases h
    obtain ⟨t, rfl, e1⟩ := one_er e
    obtain ⟨a, us, e2, e3, e4, _⟩ := rdL hs.1 e1
    refine ⟨a, _, by rw [vals, List.map_cons, e2]; rfl, .inl e4, ?_⟩
    rw [List.length_map, len_er e3]
    exact q
  · rename_i ds e
    cases h
    obtain ⟨t, rfl, e1⟩ := one_er e
    obtain ⟨a, us, e2, e3, e4, _⟩ := rdT hs.1 e1
    refine ⟨a, _, by rw [vals, List.map_cons, e2]; rfl, .inr e4, ?_⟩
    rw [List.length_map, len_er e3]
    exact q
  · rename_i ds e
    cases h
    obtain ⟨t, rfl, e1⟩ := one_er e
    obtain ⟨a, us, e2, e3, e4, _⟩ := rdT hs.1 e1
    refine ⟨a, _, by rw [vals, List.map_cons, e2]; rfl, .inr e4, ?_⟩
    rw [List.length_map, len_er e3]
    exact q
  · cases h
theorem opn_sum : OpN K (rSum K) fSum := fun ts v H Q hs h q => by
  obtain ⟨ns, h1, rfl⟩ := map_some h
  obtain ⟨a, e1, e2⟩ := li_of hs h1
  exact ⟨a, ns, e1, e2, q⟩
theorem opn_min : OpN K (rMin K) fMinL := fun ts v H Q hs h q => by
  obtain ⟨ns, h1, h⟩ := bind_some h
  obtain ⟨z, h2, rfl⟩ := map_some h
  obtain ⟨a, e1, e2⟩ := li_of hs h1
  rw [List.min?_eq_some_iff] at h2
  refine ⟨a, ns, e1, e2, List.length_pos_of_mem h2.1, fun m hm hx => ?_⟩
  have : m = z := Int.le_antisymm (hx z h2.1) (h2.2 m hm)
  rw [this]
  exact q
theorem opn_all : OpN K (rAll K) fAll := fun ts v H Q hs h q => by
  obtain ⟨ns, h1, rfl⟩ := map_some h
  obtain ⟨a, e1, e2⟩ := lb_of hs h1
  exact ⟨a, ns, e1, e2, q⟩
theorem opn_max2 : OpN K (fun xs H Q => ∃ i j, xs = [.int i, .int j] ∧ Q (.int (if j > i then j else i)) H) fMax2 := fun ts v H Q hs h q => by
  unfold fMax2 at h
  split at h
  · rename_i i j e
    cases h
    obtain ⟨t, u, rfl, e1, e2⟩ := two_er e
    rw [er_int e1, er_int e2]
    exact ⟨i, j, rfl, q⟩
  · cases h
def fList : List D → Option (List D)
  | [.n (.lst _) ds] => some ds
  | [.n .tup ds] => some ds
  | _ => none
@[simp] theorem fList_c0 {ds : List D} {o : Fl} : fList [.n (.lst o) ds] = some ds := rfl
@[simp] theorem fList_c1 {ds : List D} : fList [.n .tup ds] = some ds := rfl
theorem opnl_list : OpNL K (fun xs H Q => ∃ p ys, xs = [.ref p] ∧ (SqL K H p ys ∨ SqT K H p ys) ∧ ∀ l, H l = none → Q (.ref l) (upd H l (.lst ys))) fList := fun ts ds H Q hs h q => by
  unfold fList at h
  split at h
  · rename_i o ds' e
    cases h
    obtain ⟨t, rfl, e1⟩ := one_er e
    obtain ⟨a, us, e2, e3, e4, e5, e6, e7⟩ := rdL hs.1 e1
    refine ⟨a, _, by rw [vals, List.map_cons, e2]; rfl, .inl e4, fun p hp => q us p e3 e5 (fun b z => ?_) (fun b z => ?_) hp⟩
    · rw [coL]; have := e6 b; omega
    · rw [cuL]; have := e7 b; omega
  · rename_i ds' e
    cases h
    obtain ⟨t, rfl, e1⟩ := one_er e
    obtain ⟨a, us, e2, e3, e4, e5, e6, e7⟩ := rdT hs.1 e1
    refine ⟨a, _, by rw [vals, List.map_cons, e2]; rfl, .inr e4, fun p hp => q us p e3 e5 (fun b z => ?_) (fun b z => ?_) hp⟩
    · rw [coL]; have := e6 b; omega
    · rw [cuL]; have := e7 b; omega
  · cases h
end
end
end Ow

namespace Ow
open PySem L2


section
variable {K : PySem.W.Frag} {H H1 H' : Hp} {env : TEnv} {ts us : List T} {p : Addr}
theorem atI_map {α β : Type} (f : α → β) (xs : List α) (i : Int) : atI (xs.map f) i = (atI xs i).map f := by
  unfold atI
  rw [List.length_map]
  cases ixN xs.length i with
  | none => rfl
  | some j => exact List.getElem?_map ..
theorem atI_mem {α : Type} {xs : List α} {i : Int} {x : α} (h : atI xs i = some x) : x ∈ xs := by
  unfold atI at h
  obtain ⟨j, _, h⟩ := bind_some h
  exact List.mem_of_getElem? h
def cutG {α : Type} (xs : List α) (lo hi : Option Int) : List α := (xs.drop (HT.sIx xs.length 0 lo)).take (HT.sIx xs.length xs.length hi - HT.sIx xs.length 0 lo)
theorem cutG_map {α β : Type} (f : α → β) (xs : List α) (lo hi : Option Int) : cutG (xs.map f) lo hi = (cutG xs lo hi).map f := by
  unfold cutG
  rw [List.length_map, List.map_take, List.map_drop]
theorem cutV_vals (ts : List T) (lo hi : Option Int) : cutV (vals ts) lo hi = vals (cutG ts lo hi) := cutG_map T.val ts lo hi
theorem cutG_mem {α : Type} {xs : List α} {lo hi : Option Int} {x : α} (h : x ∈ cutG xs lo hi) : x ∈ xs := List.mem_of_mem_drop (List.mem_of_mem_take h)
def fItem (x y : D) : Option D := match x, y with
  | .n (.lst _) ds, .s (.int i) => atI ds i
  | .n .tup ds, .s (.int i) => atI ds i
  | .s (.str z), .s (.int i) => if z.length ≤ 16777216 then (atI z.cps.toList i).map fun c => .s (.str ⟨#[c]⟩) else none
  | _, _ => none
@[simp] theorem fItem_c0 {i : Int} {ds : List D} {o : Fl} : fItem (.n (.lst o) ds) (.s (.int i)) = atI ds i := rfl
@[simp] theorem fItem_c1 {i : Int} {ds : List D} : fItem (.n .tup ds) (.s (.int i)) = atI ds i := rfl
@[simp] def mItem (ma mb : PM) : PM := fun env => (ma env).bind fun x => (mb env).bind fun y => fItem x y
@[simp] def mPure (m : PM) : PM := fun env => (m env).bind fun d => if d.pure = true then some d else none
def rIt (K : PySem.W.Frag) : R2 := fun x y H Q => (rIxL K x y H Q ∨ rIxT K x y H Q) ∨ rIxS x y H Q
end
section
variable {X : Cx} {m ma mb : PM} {ml : LM} {e a b : Expr} {es : List Expr} {pos : Pos}
theorem ix_it : IxR X (rIt X.K) := (ix_list.or ix_tup).or ix_str
theorem sp_pure (h : SB X e m) : SP X e (mPure m) := PE.weak h fun σ H Q ⟨env, d, hm, r, s, k⟩ => by
  obtain ⟨x, hx, hm⟩ := bind_some hm
  split at hm
  · rename_i hp
    cases hm
    refine ⟨env, d, hx, r, s, fun t H1 e1 x1 s1 b1 => k t H1 e1 x1 s1 (b1.own ?_)⟩
    rw [e1]
    exact hp
  · cases hm
theorem sb_item (ha : SB X a ma) (hb : SB X b mb) (hs : PlainIx b := by exact fun _ _ => rfl) : SB X (.Subscript a b pos) (mItem ma mb) := PE.weak (pe_ix ix_it ha hb hs) fun σ H Q ⟨env, d, hm, r, s, k⟩ => by
  obtain ⟨x, hx, hm⟩ := bind_some hm
  obtain ⟨y, hy, hm⟩ := bind_some hm
  refine ⟨env, x, hx, r, s, fun t H1 e1 x1 s1 b1 => ⟨env, y, hy, r, s.ex x1, fun u H2 e2 x2 s2 b2 => ?_⟩⟩
  subst e1 e2
  unfold fItem at hm
  split at hm
  · rename_i o ds i e1 e2
    obtain ⟨a, ts, f1, f2, f3, f4, f5, f6⟩ := rdL (sat_ex x2 s1) e1
    rw [f1, er_int e2]
    rw [← f2, erL_map, atI_map] at hm
    obtain ⟨z, hz, rfl⟩ := map_some hm
    refine .inl (.inl ⟨a, _, i, z.val, rfl, rfl, f3, by rw [vals, atI_map, hz]; rfl, ?_⟩)
    have hz2 := atI_mem hz
    exact k z H2 rfl (x1.trans x2) (satL_iff.mp f4 z hz2) ((b1.sub f5 f6).mem hz2)
  · rename_i ds i e1 e2
    obtain ⟨a, ts, f1, f2, f3, f4, f5, f6⟩ := rdT (sat_ex x2 s1) e1
    rw [f1, er_int e2]
    rw [← f2, erL_map, atI_map] at hm
    obtain ⟨z, hz, rfl⟩ := map_some hm
    refine .inl (.inr ⟨a, _, i, z.val, rfl, rfl, f3, by rw [vals, atI_map, hz]; rfl, ?_⟩)
    have hz2 := atI_mem hz
    exact k z H2 rfl (x1.trans x2) (satL_iff.mp f4 z hz2) ((b1.sub f5 f6).mem hz2)
  · rename_i z i e1 e2
    split at hm
    · rename_i hl
      obtain ⟨c, hc, rfl⟩ := map_some hm
      rw [er_scl e1 rfl, er_int e2]
      exact .inr ⟨z, i, c, rfl, rfl, sizeLine_le hl, hc, k (.s (.str ⟨#[c]⟩)) H2 rfl (x1.trans x2) trivial own_s.bor⟩
    · cases hm
  · cases hm
theorem sp_item (ha : SB X a ma) (hb : SB X b mb) (hs : PlainIx b := by exact fun _ _ => rfl) : SP X (.Subscript a b pos) (mPure (mItem ma mb)) := sp_pure (sb_item ha hb hs)
def trO (K : PySem.W.Frag) (m : Env → Option (Option Int)) : TO := fun σ H Q => ∃ env o, m (erE env) = some o ∧ Rel σ env ∧ SatE K H env ∧ ∀ H', Ex H H' → Q o H'
def SO (X : Cx) (e : Option Expr) (m : Env → Option (Option Int)) : Prop := PO X e (trO X.K m)
theorem PO.weak {e : Option Expr} {t u : TO} (h : PO X e t) (w : ∀ σ H Q, u σ H Q → t σ H Q) : PO X e u := ⟨fun pins s σ H Q I z => h.run pins s σ H Q I (w σ H Q z)⟩
@[simp] def oNo : Env → Option (Option Int) := fun _ => some none
def toI : D → Option Int
  | .s (.int i) => some i
  | _ => none
@[simp] theorem toI_c0 {i : Int} : toI (.s (.int i)) = some i := rfl
theorem toI_some {d : D} {i : Int} (h : toI d = some i) : d = .s (.int i) := by
  unfold toI at h
  split at h
  · cases h; rfl
  · cases h
@[simp] def oYes (m : PM) : Env → Option (Option Int) := fun env => ((m env).bind toI).map some
theorem so_none : SO X none oNo := PO.weak po_none fun σ H Q ⟨env, d, hm, r, s, k⟩ => by
  cases hm
  exact k H (Evl.Ex.refl H)
theorem so_some (h : SB X e m) : SO X (some e) (oYes m) := PO.weak (po_some h) fun σ H Q ⟨env, d, hm, r, s, k⟩ => by
  obtain ⟨i, hi, rfl⟩ := map_some hm
  obtain ⟨x, hx, hi⟩ := bind_some hi
  refine ⟨env, x, hx, r, s, fun t H1 e1 x1 s1 b1 => ?_⟩
  subst e1
  rw [er_int (toI_some hi)]
  exact ⟨i, rfl, k H1 x1⟩
@[simp] def mSl (m : PM) (lo hi : Env → Option (Option Int)) : PM := fun env => (m env).bind fun x => (lo env).bind fun l => (hi env).bind fun h => match x with
  | .n (.lst _) ds => if pureL (cutG ds l h) = true then some (.n (.lst .o) (cutG ds l h)) else none
  | _ => none
theorem sp_slice {lo hi : Option Expr} {p2 : Pos} {ol oh : Env → Option (Option Int)} (ha : SB X a ma) (hl : SO X lo ol) (hh : SO X hi oh) : SP X (.Subscript a (.Slice lo hi none p2) pos) (mSl ma ol oh) := PE.weak (pe_slice sl_list ha hl hh) fun σ H Q ⟨env, d, hm, r, s, k⟩ => by
  obtain ⟨x, hx, hm⟩ := bind_some hm
  obtain ⟨l, hl, hm⟩ := bind_some hm
  obtain ⟨h, hh, hm⟩ := bind_some hm
  refine ⟨env, x, hx, r, s, fun t H1 e1 x1 s1 b1 => ⟨env, l, hl, r, s.ex x1, fun H2 x2 => ⟨env, h, hh, r, (s.ex x1).ex x2, fun H3 x3 => ?_⟩⟩⟩
  subst e1
  split at hm
  · rename_i o ds e1
    split at hm
    · rename_i hp
      cases hm
      obtain ⟨a, ts, f1, f2, f3, f4, f5, f6⟩ := rdL (sat_ex x3 (sat_ex x2 s1)) e1
      rw [f1]
      refine ⟨a, _, rfl, f3, fun p hn => ?_⟩
      rw [cutV_vals]
      have x4 := (x1.trans x2).trans x3
      have f7 : erL (cutG ts l h) = cutG ds l h := by rw [erL_map, ← cutG_map, ← erL_map, f2]
      have b2 : BorL H env (cutG ts l h) := (b1.sub f5 f6).subset fun u hu => cutG_mem hu
      obtain ⟨x5, s5, o5⟩ := new_node (k := .lst .o) rfl x4 s (satL_iff.mpr fun u hu => satL_iff.mp f4 u (cutG_mem hu)) (b2.own (by rw [f7]; exact hp)) hn
      exact k (.n (.lst .o) p (cutG ts l h)) _ (by rw [T.er, f7]) (x4.trans x5) s5 o5
    · cases hm
  · cases hm
@[simp] def nw : Fl → Bool
  | .w => false
  | _ => true
def fCat (x y : D) : Option (List D) := match x, y with
  | .n (.lst o) ds, .n (.lst o') es => if (nw o && nw o' && decide (ds.length + es.length ≤ 16777216)) = true then some (ds ++ es) else none
  | _, _ => none
@[simp] theorem fCat_c0 {ds : List D} {es : List D} {o : Fl} {o2 : Fl} : fCat (.n (.lst o) ds) (.n (.lst o2) es) = if (nw o && nw o2 && decide (ds.length + es.length ≤ 16777216)) = true then some (ds ++ es) else none := rfl
@[simp] def mCat (ma mb : PM) : PM := fun env => (ma env).bind fun x => (mb env).bind fun y => (fCat x y).bind fun rs => if pureL rs = true then some (.n (.lst .o) rs) else none
theorem nw_isw {o : Fl} (h : nw o = true) : (Kd.lst o).isw = false := by cases o <;> first | rfl | cases h
theorem erL_append (ts us : List T) : erL (ts ++ us) = erL ts ++ erL us := by rw [erL_map, erL_map, erL_map, List.map_append]
theorem cat_rd {K : PySem.W.Frag} {σ : L2.St} {H : Hp} {Q : VK} (h : trP K (mCat ma mb) σ H Q) : tOp rCat (trB K ma) (trB K mb) σ H Q := by
  obtain ⟨env, d, hm, r, s, k⟩ := h
  obtain ⟨x, hx, hm⟩ := bind_some hm
  obtain ⟨y, hy, hm⟩ := bind_some hm
  obtain ⟨rs, hr, hm⟩ := bind_some hm
  split at hm
  · rename_i hp
    cases hm
    refine ⟨env, x, hx, r, s, fun t H1 e1 x1 s1 b1 => ⟨env, y, hy, r, s.ex x1, fun u H2 e2 x2 s2 b2 => ?_⟩⟩
    subst e1 e2
    unfold fCat at hr
    split at hr
    · rename_i o ds o' es e1 e2
      split at hr
      · rename_i hc
        simp only [Bool.and_eq_true, decide_eq_true_eq] at hc
        cases hr
        obtain ⟨a, ts, f1, f2, f3, f4⟩ := rdN (sat_ex x2 s1) e1 (nw_isw hc.1.1) (by simp)
        obtain ⟨c, us, g1, g2, g3, g4⟩ := rdN s2 e2 (nw_isw hc.1.2) (by simp)
        subst f1 g1
        have x3 := x1.trans x2
        refine ⟨a, c, _, _, rfl, rfl, f3, g3, sizeLine_le (by rw [List.length_map, List.length_map, len_er f2, len_er g2]; exact hc.2), fun p hn => ?_⟩
        rw [← List.map_append]
        have c1 : BorL H env ts := b1.sub (fun b => by rw [T.co]; omega) (fun b => by rw [T.cu]; omega)
        have c2 : BorL H env us := (b2.back x1).sub (fun b => by rw [T.co]; omega) (fun b => by rw [T.cu]; omega)
        have c3 : BorL H env (ts ++ us) := fun z => by
          rw [coL_append, cuL_append]
          refine ⟨fun q => ?_, fun q => ?_⟩
          · by_cases w : 0 < coL z ts
            · exact (c1 z).1 w
            · exact (c2 z).1 (by omega)
          · by_cases w : 0 < cuL z ts
            · exact (c1 z).2 w
            · exact (c2 z).2 (by omega)
        have f7 : erL (ts ++ us) = ds ++ es := by rw [erL_append, f2, g2]
        obtain ⟨x5, s5, o5⟩ := new_node (k := .lst .o) rfl x3 s (satL_append.mpr ⟨f4, g4⟩) (c3.own (by rw [f7]; exact hp)) hn
        exact k (.n (.lst .o) p (ts ++ us)) _ (by rw [T.er, f7]) (x3.trans x5) s5 o5
      · cases hr
    · cases hr
  · cases hm
theorem sp_cat (ha : SB X a ma) (hb : SB X b mb) : SP X (.BinOp a .Add b pos) (mCat ma mb) := PE.weak (pe_op op_cat ha hb) fun σ H Q h => cat_rd h
def fRep (x y : D) : Option (List D) := match x, y with
  | .n (.lst o) ds, .s (.int n) => if (nw o && decide (-(2 ^ 63) ≤ n ∧ n < 2 ^ 63 ∧ ds.length * n.toNat ≤ 16777216)) = true then some (List.replicate n.toNat ds).flatten else none
  | _, _ => none
@[simp] theorem fRep_c0 {ds : List D} {o : Fl} {n : Int} : fRep (.n (.lst o) ds) (.s (.int n)) = if (nw o && decide (-(2 ^ 63) ≤ n ∧ n < 2 ^ 63 ∧ ds.length * n.toNat ≤ 16777216)) = true then some (List.replicate n.toNat ds).flatten else none := rfl
@[simp] def mRep (ma mb : PM) : PM := fun env => (ma env).bind fun x => (mb env).bind fun y => (fRep x y).bind fun rs => if pureL rs = true then some (.n (.lst .o) rs) else none
theorem sp_rep (ha : SB X a ma) (hb : SB X b mb) : SP X (.BinOp a .Mult b pos) (mRep ma mb) := PE.weak (pe_op op_rep ha hb) fun σ H Q ⟨env, d, hm, r, s, k⟩ => by
  obtain ⟨x, hx, hm⟩ := bind_some hm
  obtain ⟨y, hy, hm⟩ := bind_some hm
  obtain ⟨rs, hr, hm⟩ := bind_some hm
  split at hm
  · rename_i hp
    cases hm
    refine ⟨env, x, hx, r, s, fun t H1 e1 x1 s1 b1 => ⟨env, y, hy, r, s.ex x1, fun u H2 e2 x2 s2 b2 => ?_⟩⟩
    subst e1 e2
    unfold fRep at hr
    split at hr
    · rename_i o ds n e1 e2
      split at hr
      · rename_i hc
        simp only [Bool.and_eq_true, decide_eq_true_eq] at hc
        cases hr
        obtain ⟨a, ts, f1, f2, f3, f4⟩ := rdN (sat_ex x2 s1) e1 (nw_isw hc.1) (by simp)
        subst f1
        have x3 := x1.trans x2
        rw [er_int e2]
        refine ⟨a, n, _, rfl, rfl, f3, hc.2.1, hc.2.2.1, sizeLine_le (by rw [List.length_map, len_er f2]; exact hc.2.2.2), fun p hn => ?_⟩
        have ev : (List.replicate n.toNat (vals ts)).flatten = vals (List.replicate n.toNat ts).flatten := by
          rw [vals, vals, List.map_flatten, List.map_replicate]
        show Q (.ref p) (upd H2 p (.lst (List.replicate n.toNat (vals ts)).flatten))
        rw [ev]
        have c1 : BorL H env ts := b1.sub (fun b => by rw [T.co]; omega) (fun b => by rw [T.cu]; omega)
        have hsub : ∀ u ∈ (List.replicate n.toNat ts).flatten, u ∈ ts := fun u hu => by
          obtain ⟨l, hl, hu⟩ := List.mem_flatten.mp hu
          rw [List.eq_of_mem_replicate hl] at hu
          exact hu
        have f7 : erL (List.replicate n.toNat ts).flatten = (List.replicate n.toNat ds).flatten := by
          rw [erL_map, List.map_flatten, List.map_replicate, ← erL_map, f2]
        obtain ⟨x5, s5, o5⟩ := new_node (k := .lst .o) rfl x3 s (satL_iff.mpr fun u hu => satL_iff.mp f4 u (hsub u hu)) ((c1.subset hsub).own (by rw [f7]; exact hp)) hn
        exact k (.n (.lst .o) p _) _ (by rw [T.er, f7]) (x3.trans x5) s5 o5
      · cases hr
    · cases hr
  · cases hm
def rgD (a b : Int) : List D := (List.range (b - a).toNat).map fun (i : Nat) => D.s (.int (a + (i : Int)))
def trRg (K : PySem.W.Frag) (m : Env → Option (Int × Int)) : L2.St → Hp → (Int → Int → Hp → Prop) → Prop := fun σ H Q => ∃ env r, m (erE env) = some r ∧ Rel σ env ∧ SatE K H env ∧ ∀ H', Ex H H' → Q r.1 r.2 H'
@[simp] def rg1 (m : PM) : Env → Option (Int × Int) := fun env => ((m env).bind toI).map fun n => (0, n)
@[simp] def rg2 (m n : PM) : Env → Option (Int × Int) := fun env => ((m env).bind toI).bind fun i => ((n env).bind toI).map fun j => (i, j)
instance {a b : Int} : Decidable (RgOk a b) := by unfold RgOk; infer_instance
@[simp] def mRg (r : Env → Option (Int × Int)) : PM := fun env => (r env).bind fun x => if (decide (RgOk x.1 x.2)) = true then some (.n (.lst .o) (rgD x.1 x.2)) else none
end
section
variable {X : Cx} {m ma mb : PM} {ml : LM} {e a b : Expr} {es : List Expr} {pos p : Pos}
def SRg (X : Cx) (e : Expr) (m : Env → Option (Int × Int)) : Prop := PRg X e (trRg X.K m)
theorem srg_1 (hm : X.mg "range" = none) (ha : SB X a ma) (hg : Gl X "range" := by rfl) (na : starEach [a] X.env = (false, eval a X.env) :: starEach [] X.env := by rfl) : SRg X (.Call (.Name "range" p) [a] [] pos) (rg1 ma) := fun pins s σ H Q I h => by
  obtain ⟨env, x, hm', r, hs, k⟩ := h
  obtain ⟨n, hn, rfl⟩ := map_some hm'
  obtain ⟨d, hd, hn⟩ := bind_some hn
  refine prg_1 hg hm ha na pins s σ H Q I ⟨env, d, hd, r, hs, fun t H1 e1 x1 s1 b1 => ?_⟩
  subst e1
  rw [er_int (toI_some hn)]
  exact ⟨n, rfl, k H1 x1⟩
theorem rgV_vals (a b : Int) : rgV a b = vals ((List.range (b - a).toNat).map fun (i : Nat) => T.s (.int (a + (i : Int)))) := by
  rw [vals, List.map_map]
  rfl
theorem sp_listRg {mr : Env → Option (Int × Int)} (hc : X.calm = true) (hm : X.mg "list" = none) (h : SRg X e mr) (hg : Gl X "list" := by rfl) (hs : starEach [e] X.env = (false, eval e X.env) :: starEach [] X.env := by rfl) : SP X (.Call (.Name "list" p) [e] [] pos) (mRg mr) := PE.weak (pe_listRg hc hg hm h hs) fun σ H Q ⟨env, d, hm, r, s, k⟩ => by
  obtain ⟨x, hx, hm⟩ := bind_some hm
  split at hm
  · rename_i hok
    cases hm
    refine ⟨env, x, hx, r, s, fun H1 x1 => ⟨of_decide_eq_true hok, fun q hq => ?_⟩⟩
    rw [rgV_vals]
    have hown : OwnL H env ((List.range (x.2 - x.1).toNat).map fun (i : Nat) => T.s (.int (x.1 + (i : Int)))) := by
      have : BorL H env ((List.range (x.2 - x.1).toNat).map fun (i : Nat) => T.s (.int (x.1 + (i : Int)))) := by
        generalize List.range (x.2 - x.1).toNat = l
        induction l with
        | nil => exact ownL_nil.bor
        | cons z l ih =>
        intro a
        have := ih a
        rw [List.map_cons, coL, cuL, T.co, T.cu, Nat.zero_add, Nat.zero_add]
        exact this
      refine this.own ?_
      generalize List.range (x.2 - x.1).toNat = l
      induction l with
      | nil => rfl
      | cons z l ih => rw [List.map_cons, erL, pureL, ih]; rfl
    obtain ⟨x2, s2, o2⟩ := new_node (k := .lst .o) (us := (List.range (x.2 - x.1).toNat).map fun (i : Nat) => T.s (.int (x.1 + (i : Int)))) rfl x1 s (satL_iff.mpr fun u hu => by
      obtain ⟨i, _, rfl⟩ := List.mem_map.mp hu
      trivial) hown hq
    refine k (.n (.lst .o) q _) _ ?_ (x1.trans x2) s2 o2
    rw [T.er, erL_map, List.map_map]
    rfl
  · cases hm
end
end Ow

namespace Ow
open PySem L2


inductive Tg where
  | nm (j : Nat)
  | tp (gs : List Tg)
mutual
def gOf (K : PySem.W.Frag) : Tg → TG
  | .nm j => gName j
  | .tp gs => gTup K gs.length (gsOf K gs)
def gsOf (K : PySem.W.Frag) : List Tg → TGs
  | [] => gNil
  | g :: gs => gCons (gOf K g) (gsOf K gs)
end
mutual
def bD : Tg → D → Env → Option Env
  | .nm j, d, env => some (env.set j (some d))
  | .tp gs, .n .tup ds, env => if ds.length = gs.length then bDs gs ds env else none
  | .tp _, _, _ => none
def bDs : List Tg → List D → Env → Option Env
  | [], [], env => some env
  | g :: gs, d :: ds, env => (bD g d env).bind fun env' => bDs gs ds env'
  | _, _, _ => none
end
mutual
@[simp] def Tg.sl : Tg → List Nat
  | .nm j => [j]
  | .tp gs => slL gs
@[simp] def slL : List Tg → List Nat
  | [] => []
  | g :: gs => g.sl ++ slL gs
end
theorem bD_tp {gs : List Tg} {d : D} {env e' : Env} (h : bD (.tp gs) d env = some e') : ∃ ds, d = .n .tup ds ∧ ds.length = gs.length ∧ bDs gs ds env = some e' := by
  match d, h with
  | .n .tup ds, h =>
    rw [bD] at h
    split at h
    · exact ⟨ds, rfl, by assumption, h⟩
    · cases h
  | .s _, h => simp [bD] at h
  | .n (.lst _) _, h => simp [bD] at h
  | .n (.dic _ _) _, h => simp [bD] at h
  | .n (.dct _ _) _, h => simp [bD] at h
structure Bnd (K : PySem.W.Frag) (H : Hp) (σ : L2.St) (env : TEnv) (c u : Addr → Nat) (sl : List Nat) (e' : Env) (σ' : L2.St) (env' : TEnv) : Prop where
  er : erE env' = e'
  rel : Rel σ' env'
  len : σ'.length = σ.length
  out : ∀ i, i ∉ sl → σ'[i]? = σ[i]? ∧ env'[i]? = env[i]?
  co : ∀ a, coE a env' ≤ c a + coE a env
  cu : ∀ a, cuE a env' ≤ u a + cuE a env
  sat : ∀ t, some t ∈ env' → some t ∈ env ∨ t.sat K H
section
variable {K : PySem.W.Frag} {H : Hp}
theorem set_co {env : TEnv} {j : Nat} {t : T} {a : Addr} : coE a (env.set j (some t)) ≤ t.co a + coE a env := by
  cases h : env[j]? with
  | none =>
    rw [List.getElem?_eq_none_iff] at h
    rw [List.set_eq_of_length_le h]; omega
  | some x =>
    have := coE_set (a := a) (some t) h
    have e : oT (T.co a) (some t) = t.co a := rfl
    omega
theorem set_cu {env : TEnv} {j : Nat} {t : T} {a : Addr} : cuE a (env.set j (some t)) ≤ t.cu a + cuE a env := by
  cases h : env[j]? with
  | none =>
    rw [List.getElem?_eq_none_iff] at h
    rw [List.set_eq_of_length_le h]; omega
  | some x =>
    have := cuE_set (a := a) (some t) h
    have e : oT (T.cu a) (some t) = t.cu a := rfl
    omega
mutual
theorem g_run : ∀ (g : Tg) (t : T) (σ : L2.St) (env : TEnv) (e' : Env) (Q : L2.St → Hp → Prop), Rel σ env → t.sat K H → bD g t.er (erE env) = some e' →
    (∀ σ' env', Bnd K H σ env (fun a => t.co a) (fun a => t.cu a) g.sl e' σ' env' → Q σ' H) → gOf K g t.val σ H Q
  | .nm j, t, σ, env, e', Q, r, s, h, k => by
    rw [bD] at h
    cases h
    rw [gOf]
    refine k (σ.set j (some t.val)) (env.set j (some t)) ⟨erE_set, r.set, List.length_set, fun i hi => ?_, fun a => set_co, fun a => set_cu, fun u hu => ?_⟩
    · have e : j ≠ i := fun z => hi (by rw [Tg.sl, z]; simp)
      rw [List.getElem?_set, if_neg e, List.getElem?_set, if_neg e]
      exact ⟨rfl, rfl⟩
    · rcases List.mem_or_eq_of_mem_set hu with q | q
      · exact .inl q
      · cases q
        exact .inr s
  | .tp gs, t, σ, env, e', Q, r, s, h, k => by
    obtain ⟨ds, he, hl, h⟩ := bD_tp h
    obtain ⟨a, ts, f1, f2, f3, f4, f5, f6⟩ := rdT s he
    rw [gOf, f1]
    rw [← f2] at h hl
    refine ⟨a, vals ts, rfl, f3, by rw [List.length_map, ← erL_length, hl], gs_run gs ts σ env e' Q r f4 h fun σ' env' b => ?_⟩
    exact k σ' env' ⟨b.er, b.rel, b.len, b.out, fun z => Nat.le_trans (b.co z) (Nat.add_le_add_right (f5 z) _), fun z => Nat.le_trans (b.cu z) (Nat.add_le_add_right (f6 z) _), b.sat⟩
  termination_by g => sizeOf g
  decreasing_by all_goals (simp_wf <;> omega)
theorem gs_run : ∀ (gs : List Tg) (ts : List T) (σ : L2.St) (env : TEnv) (e' : Env) (Q : L2.St → Hp → Prop), Rel σ env → satL K H ts → bDs gs (erL ts) (erE env) = some e' →
    (∀ σ' env', Bnd K H σ env (fun a => coL a ts) (fun a => cuL a ts) (slL gs) e' σ' env' → Q σ' H) → gsOf K gs (vals ts) σ H Q
  | [], [], σ, env, e', Q, r, s, h, k => by
    rw [erL, bDs] at h
    cases h
    rw [gsOf]
    exact ⟨rfl, k σ env ⟨rfl, r, rfl, fun _ _ => ⟨rfl, rfl⟩, fun a => by rw [coL]; omega, fun a => by rw [cuL]; omega, fun t ht => .inl ht⟩⟩
  | [], t :: ts, σ, env, e', Q, r, s, h, k => by simp [erL, bDs] at h
  | g :: gs, [], σ, env, e', Q, r, s, h, k => by simp [erL, bDs] at h
  | g :: gs, t :: ts, σ, env, e', Q, r, s, h, k => by
    rw [erL, bDs] at h
    obtain ⟨e1, h1, h2⟩ := bind_some h
    rw [gsOf]
    refine ⟨t.val, vals ts, rfl, g_run g t σ env e1 _ r s.1 h1 fun σ1 env1 b1 => ?_⟩
    refine gs_run gs ts σ1 env1 e' Q b1.rel s.2 (by rw [b1.er]; exact h2) fun σ2 env2 b2 => ?_
    refine k σ2 env2 ⟨b2.er, b2.rel, b2.len.trans b1.len, fun i hi => ?_, fun a => ?_, fun a => ?_, fun u hu => ?_⟩
    · rw [slL, List.mem_append] at hi
      have x1 := b1.out i (fun z => hi (.inl z))
      have x2 := b2.out i (fun z => hi (.inr z))
      exact ⟨x2.1.trans x1.1, x2.2.trans x1.2⟩
    · have x1 := b1.co a
      have x2 := b2.co a
      rw [coL]; omega
    · have x1 := b1.cu a
      have x2 := b2.cu a
      rw [cuL]; omega
    · rcases b2.sat u hu with q | q
      · exact b1.sat u q
      · exact .inr q
  termination_by gs => sizeOf gs
  decreasing_by all_goals (simp_wf <;> omega)
end
end
def SG (X : Cx) (tg : Expr) (g : Tg) : Prop := PG X tg (gOf X.K g)
def SGs (X : Cx) (ts : List Expr) (gs : List Tg) : Prop := PGs X ts (gsOf X.K gs)
section
variable {X : Cx} {pos : Pos} {e : Expr} {es : List Expr}
theorem sg_name {x : Str} (j : Nat) (hN : X.N.Nodup) (hi : X.N[j]? = some x := by rfl) (hx : Loc X.env.scope x := by first | exact .inl rfl | exact .inr rfl) (hf : X.fn x = true ∨ X.env.scope.names.lookup x = some .local := by first | exact .inl rfl | exact .inr rfl | assumption) :
    SG X (.Name x pos) (.nm j) := by
  unfold SG
  rw [gOf]
  exact pg_name hN hi hx hf
theorem sg_tup {k : Nat} {gs : List Tg} (hc : X.calm = true) (h : SGs X es gs) (hn : (assignEach es X.env).length = gs.length := by rfl) (hst : (assignEach es X.env).findIdx? (·.1) = none := by rfl) : SG X (.Tuple es k pos) (.tp gs) := by
  unfold SG
  rw [gOf]
  exact pg_tup hc h hn hst
theorem sgs_nil : SGs X [] [] := by
  unfold SGs
  rw [gsOf]
  exact pgs_nil
theorem sgs_cons {g : Tg} {gs : List Tg} (h1 : SG X e g) (h2 : SGs X es gs) (hs : (assignEach (e :: es) X.env).map (·.2) = assign e X.env :: (assignEach es X.env).map (·.2) := by rfl) : SGs X (e :: es) (g :: gs) := by
  unfold SGs
  rw [gsOf]
  exact pgs_cons h1 h2 hs
end


structure Wk (K : PySem.W.Frag) (J : It) (src : List T) (ds : List D) : Prop where
  stop : ∀ i H, satL K H src → ds.length ≤ i → J.stop i H
  go : ∀ i H, satL K H src → i < ds.length → J.go i H
  yld : ∀ i H x H', satL K H src → J.yld i H x H' → ∀ d, ds[i]? = some d → ∃ t : T, t.val = x ∧ t.er = d ∧ Ex H H' ∧ t.sat K H' ∧ (∀ a, 0 < t.co a → 0 < coL a src) ∧ (∀ a, 0 < t.cu a → 0 < cuL a src ∨ H a = none)
def trI (K : PySem.W.Frag) (m : LM) : TI := fun σ H R => ∃ env ds, m (erE env) = some ds ∧ Rel σ env ∧ SatE K H env ∧ ∀ J src H1, Ex H H1 → satL K H1 src → BorL H env src → Wk K J src ds → R J H1
def trJ (K : PySem.W.Frag) (m : LM) : TI := fun σ H R => ∃ env ds, m (erE env) = some ds ∧ Rel σ env ∧ SatE K H env ∧ ∀ J src H1, Ex H H1 → satL K H1 src → OwnL H env src → Wk K J src ds → R J H1
def SI (X : Cx) (tg e : Expr) (m : LM) : Prop := PI X tg e (trI X.K m)
def SJ (X : Cx) (tg e : Expr) (m : LM) : Prop := PI X tg e (trJ X.K m)
theorem PI.weak {X : Cx} {tg e : Expr} {t u : TI} (h : PI X tg e t) (w : ∀ σ H Q, u σ H Q → t σ H Q) : PI X tg e u := ⟨fun pins s σ H Q I z => h.run pins s σ H Q I (w σ H Q z)⟩
def asL : D → Option (List D)
  | .n (.lst _) ds => some ds
  | _ => none
@[simp] theorem asL_c0 {ds : List D} {o : Fl} : asL (.n (.lst o) ds) = some ds := rfl
def asT : D → Option (List D)
  | .n .tup ds => some ds
  | .n .ktp ds => some ds
  | _ => none
@[simp] theorem asT_c0 {ds : List D} : asT (.n .tup ds) = some ds := rfl
theorem asL_some {d : D} {ds : List D} (h : asL d = some ds) : ∃ o, d = .n (.lst o) ds := by
  unfold asL at h
  split at h
  · cases h; exact ⟨_, rfl⟩
  · cases h
section
variable {K : PySem.W.Frag}
theorem er_at {ts : List T} {ds : List D} {i : Nat} {d : D} (e : erL ts = ds) (h : ds[i]? = some d) : ∃ t, ts[i]? = some t ∧ t.er = d := by
  rw [← e, erL_map, List.getElem?_map] at h
  obtain ⟨t, h1, h2⟩ := map_some h
  exact ⟨t, h1, h2⟩
def T.kids : T → List T
  | .s _ => []
  | .n _ _ ts => ts
  | .w _ _ _ ts => ts
theorem rdLk {t : T} {H : Hp} {o : Fl} {ds : List D} (hs : t.sat K H) (he : t.er = .n (.lst o) ds) : ∃ a, t.val = .ref a ∧ erL t.kids = ds ∧ SqL K H a (vals t.kids) ∧ satL K H t.kids ∧ (∀ b, coL b t.kids ≤ t.co b) ∧ (∀ b, cuL b t.kids ≤ t.cu b) := by
  cases t with
  | s v => rw [T.er] at he; cases he
  | n k a ts =>
    rw [T.er] at he
    cases he
    exact ⟨a, rfl, rfl, .inl (.inl hs.1.1), hs.2, fun b => by rw [T.co, T.kids]; omega, fun b => by rw [T.cu, T.kids]; omega⟩
  | w z k a ts =>
    rw [T.er] at he
    cases k with
    | lst o' =>
      cases he
      refine ⟨a, rfl, rfl, ?_, hs.2, fun b => by rw [T.co, T.kids]; omega, fun b => by rw [T.cu, T.kids]; omega⟩
      cases z with
      | true => exact sql_up hs.1
      | false => exact .inl (.inr hs.1.2)
    | tup => cases he
    | ktp => cases he
    | dic _ _ => cases he
    | dct _ _ => cases he
theorem rdTk {kd : Kd} {t : T} {H : Hp} {ds : List D} (hs : t.sat K H) (he : t.er = .n kd ds) (hk : kd = .tup ∨ kd = .ktp := by first | exact .inl rfl | exact .inr rfl) : ∃ a, t.val = .ref a ∧ erL t.kids = ds ∧ SqT K H a (vals t.kids) ∧ satL K H t.kids ∧ (∀ b, coL b t.kids ≤ t.co b) ∧ (∀ b, cuL b t.kids ≤ t.cu b) := by
  cases t with
  | s v => rw [T.er] at he; cases he
  | n k a ts =>
    rw [T.er] at he
    cases he
    have hh : H a = some (.tup (vals ts)) := by
      rcases hk with rfl | rfl
      · exact hs.1.1
      · exact hs.1.1
    exact ⟨a, rfl, rfl, .inl (.inl hh), hs.2, fun b => by rw [T.co, T.kids]; omega, fun b => by rw [T.cu, T.kids]; omega⟩
  | w z k a ts =>
    rw [T.er] at he
    cases k with
    | tup =>
      cases he
      refine ⟨a, rfl, rfl, ?_, hs.2, fun b => by rw [T.co, T.kids]; omega, fun b => by rw [T.cu, T.kids]; omega⟩
      cases z with
      | true => exact hs.1.elim
      | false => exact .inl (.inr hs.1.2)
    | ktp =>
      cases he
      refine ⟨a, rfl, rfl, ?_, hs.2, fun b => by rw [T.co, T.kids]; omega, fun b => by rw [T.cu, T.kids]; omega⟩
      cases z with
      | true => exact sqt_up hs.1.1
      | false => exact absurd rfl hs.1.1
    | lst _ => cases he; rcases hk with z | z <;> cases z
    | dic _ _ => cases he; rcases hk with z | z <;> cases z
    | dct _ _ => cases he; rcases hk with z | z <;> cases z
theorem sat_at {H : Hp} {ts : List T} {i : Nat} {t : T} (h : satL K H ts) (g : ts[i]? = some t) : t.sat K H := satL_iff.mp h t (List.mem_of_getElem? g)
theorem vals_at {ts : List T} {i : Nat} {t : T} (g : ts[i]? = some t) : (vals ts)[i]? = some t.val := by rw [vals, List.getElem?_map, g]; rfl
theorem co1 {t : T} {a : Addr} : coL a [t] = t.co a := by rw [coL, coL, Nat.add_zero]
theorem cu1 {t : T} {a : Addr} : cuL a [t] = t.cu a := by rw [cuL, cuL, Nat.add_zero]
theorem wk_list {t : T} {H0 : Hp} {o : Fl} {ds : List D} (hs0 : t.sat K H0) (e : t.er = .n (.lst o) ds) : ∃ a, t.val = .ref a ∧ SqL K H0 a (vals t.kids) ∧ Wk K (Itl K a) [t] ds := by
  obtain ⟨a, f1, f2, f3, _, f5, f6⟩ := rdLk hs0 e
  have key : ∀ H, satL K H [t] → SqL K H a (vals t.kids) ∧ satL K H t.kids := fun H hs => by
    obtain ⟨a', g1, g2, g3, g4, _⟩ := rdLk hs.1 e
    rw [f1] at g1
    cases g1
    exact ⟨g3, g4⟩
  have hl : ds.length = (vals t.kids).length := by rw [List.length_map, len_er f2]
  refine ⟨a, f1, f3, fun i H hs hi => ⟨_, (key H hs).1, by rw [← hl]; exact hi⟩, fun i H hs hi => ?_, fun i H x H' hs y d hd => ?_⟩
  · obtain ⟨u, hu, _⟩ := er_at f2 (List.getElem?_eq_getElem hi)
    exact ⟨_, u.val, (key H hs).1, vals_at hu⟩
  · obtain ⟨rfl, y⟩ := y
    obtain ⟨u, hu, he⟩ := er_at f2 hd
    have q := y _ (key _ hs).1
    rw [vals_at hu] at q
    cases q
    have hm := List.mem_of_getElem? hu
    refine ⟨u, rfl, he, Evl.Ex.refl _, sat_at (key _ hs).2 hu, fun b hb => ?_, fun b hb => .inl ?_⟩
    · rw [co1]; exact Nat.lt_of_lt_of_le hb (Nat.le_trans (coL_mem hm) (f5 b))
    · rw [cu1]; exact Nat.lt_of_lt_of_le hb (Nat.le_trans (cuL_mem hm) (f6 b))
def rgDn (lo : Int) (n : Nat) : List D := (List.range n).map fun (i : Nat) => D.s (.int (lo + (i : Int)))
theorem wk_range {lo : Int} {n : Nat} : Wk K (Itr lo n) [] (rgDn lo n) := by
  have hl : (rgDn lo n).length = n := by rw [rgDn, List.length_map, List.length_range]
  refine ⟨fun i H _ hi => by rw [hl] at hi; exact hi, fun i H _ hi => by rw [hl] at hi; exact hi, fun i H x H' _ y d hd => ?_⟩
  obtain ⟨rfl, rfl⟩ := y
  rw [rgDn, List.getElem?_map] at hd
  obtain ⟨j, h1, rfl⟩ := map_some hd
  have hj : j = i := by
    obtain ⟨hi, e⟩ := List.getElem?_eq_some_iff.mp h1
    rw [List.getElem_range] at e
    exact e.symm
  subst hj
  exact ⟨.s (.int (lo + (j : Int))), rfl, rfl, Evl.Ex.refl _, trivial, fun b hb => by rw [T.co] at hb; omega, fun b hb => by rw [T.cu] at hb; omega⟩
theorem pair_new {H : Hp} {p : Addr} {t u : T} (hp : H p = none) (s1 : t.sat K H) (s2 : u.sat K H) : Ex H (upd H p (.tup [t.val, u.val])) ∧ (T.n .tup p [t, u]).sat K (upd H p (.tup [t.val, u.val])) := by
  have e : Ex H (upd H p (.tup [t.val, u.val])) := Evl.Ex.new hp
  exact ⟨e, ⟨upd_same, rfl⟩, sat_ex e s1, sat_ex e s2, trivial⟩
def enD : Nat → List D → List D
  | _, [] => []
  | i, d :: ds => .n .tup [.s (.int (i : Int)), d] :: enD (i + 1) ds
theorem enD_at : ∀ {ds : List D} {k i : Nat} {d : D}, (enD k ds)[i]? = some d → ∃ c, ds[i]? = some c ∧ d = .n .tup [.s (.int ((k + i : Nat) : Int)), c]
  | [], _, _, _, h => by simp [enD] at h
  | c :: ds, k, 0, d, h => by
    rw [enD] at h
    exact ⟨c, rfl, (Option.some.inj h).symm⟩
  | c :: ds, k, i + 1, d, h => by
    rw [enD, List.getElem?_cons_succ] at h
    obtain ⟨c', h1, h2⟩ := enD_at h
    refine ⟨c', h1, ?_⟩
    rw [h2, show k + 1 + i = k + (i + 1) by omega]
theorem enD_len : ∀ {ds : List D} {k : Nat}, (enD k ds).length = ds.length
  | [], _ => rfl
  | d :: ds, k => by rw [enD, List.length_cons, enD_len, List.length_cons]
theorem wk_enum {t : T} {H0 : Hp} {o : Fl} {ds : List D} (hs0 : t.sat K H0) (e : t.er = .n (.lst o) ds) : ∃ a, t.val = .ref a ∧ SqL K H0 a (vals t.kids) ∧ Wk K (Ite K a) [t] (enD 0 ds) := by
  obtain ⟨a, f1, f2, f3, _, f5, f6⟩ := rdLk hs0 e
  have key : ∀ H, satL K H [t] → SqL K H a (vals t.kids) ∧ satL K H t.kids := fun H hs => by
    obtain ⟨a', g1, g2, g3, g4, _⟩ := rdLk hs.1 e
    rw [f1] at g1
    cases g1
    exact ⟨g3, g4⟩
  have hl : ds.length = (vals t.kids).length := by rw [List.length_map, len_er f2]
  refine ⟨a, f1, f3, fun i H hs hi => ⟨_, (key H hs).1, by rw [← hl]; rw [enD_len] at hi; exact hi⟩, fun i H hs hi => ?_, fun i H x H' hs y d hd => ?_⟩
  · rw [enD_len] at hi
    obtain ⟨u, hu, _⟩ := er_at f2 (List.getElem?_eq_getElem hi)
    exact ⟨_, u.val, (key H hs).1, vals_at hu⟩
  · obtain ⟨p, x1, rfl, hp, rfl, z1⟩ := y
    obtain ⟨c, hc, rfl⟩ := enD_at hd
    obtain ⟨u, hu, he⟩ := er_at f2 hc
    have q := z1 _ (key _ hs).1
    rw [vals_at hu] at q
    cases q
    obtain ⟨x3, s3⟩ := pair_new (K := K) (t := .s (.int ((i : Nat) : Int))) hp trivial (sat_at (key _ hs).2 hu)
    have m1 := List.mem_of_getElem? hu
    refine ⟨.n .tup p [.s (.int ((i : Nat) : Int)), u], rfl, ?_, x3, s3, fun c hc => ?_, fun c hc => ?_⟩
    · rw [T.er, erL, erL, erL, he, T.er, Nat.zero_add]
      rfl
    · have n1 := Nat.le_trans (coL_mem (a := c) m1) (f5 c)
      simp only [T.co, coL, Kd.own, Bool.false_eq_true, false_and, if_false] at hc ⊢
      omega
    · have n1 := Nat.le_trans (cuL_mem (a := c) m1) (f6 c)
      by_cases q : p = c
      · subst q
        exact .inr hp
      · simp only [T.cu, cuL, q, and_false, if_false] at hc ⊢
        exact .inl (by omega)
end
end Ow

namespace Ow
open PySem L2

section
variable {X : Cx} {tg e a b : Expr} {es : List Expr} {m ma mb : PM} {ml : LM} {pos p tpos : Pos}
theorem bor1 {H : Hp} {env : TEnv} {t : T} (h : Bor H env t) : BorL H env [t] := fun a => by rw [co1, cu1]; exact h a
theorem own1 {H : Hp} {env : TEnv} {t : T} (h : Own H env t) : OwnL H env [t] := fun a => by rw [co1, cu1]; exact h a
@[simp] def wL (m : PM) : LM := fun env => (m env).bind asL
@[simp] def wT (m : PM) : LM := fun env => (m env).bind asT
theorem si_list (h : SB X e m) : SI X tg e (wL m) := PI.weak (pi_list h) fun σ H R ⟨env, ds, hm, r, s, k⟩ => by
  obtain ⟨d, hd, h1⟩ := bind_some hm
  obtain ⟨o, rfl⟩ := asL_some h1
  refine ⟨env, _, hd, r, s, fun t H1 e1 x1 s1 b1 => ?_⟩
  obtain ⟨a, f1, f2, w⟩ := wk_list s1 e1
  exact ⟨a, f1, ⟨_, f2⟩, k _ [t] H1 x1 ⟨s1, trivial⟩ (bor1 b1) w⟩
theorem sj_list (h : SP X e m) : SJ X tg e (wL m) := PI.weak (pi_list h) fun σ H R ⟨env, ds, hm, r, s, k⟩ => by
  obtain ⟨d, hd, h1⟩ := bind_some hm
  obtain ⟨o, rfl⟩ := asL_some h1
  refine ⟨env, _, hd, r, s, fun t H1 e1 x1 s1 b1 => ?_⟩
  obtain ⟨a, f1, f2, w⟩ := wk_list s1 e1
  exact ⟨a, f1, ⟨_, f2⟩, k _ [t] H1 x1 ⟨s1, trivial⟩ (own1 b1) w⟩
@[simp] def wR (m : Env → Option (Int × Int)) : LM := fun env => (m env).bind fun r => if (decide (RgOk r.1 r.2)) = true then some (rgDn r.1 (r.2 - r.1).toNat) else none
@[simp] def a1 (m : PM) : LM := lCons m lNil
@[simp] def a2 (m n : PM) : LM := lCons m (lCons n lNil)
theorem i1_of {ts : List T} {d : D} {i : Int} (h : erL ts = [d]) (hi : toI d = some i) : vals ts = [.int i] := by
  obtain ⟨t, rfl, e⟩ := one_er h
  rw [toI_some hi] at e
  rw [er_int e]; rfl
theorem i2_of {ts : List T} {d c : D} {i j : Int} (h : erL ts = [d, c]) (hi : toI d = some i) (hj : toI c = some j) : vals ts = [.int i, .int j] := by
  obtain ⟨t, u, rfl, e, e'⟩ := two_er h
  rw [toI_some hi] at e
  rw [toI_some hj] at e'
  rw [er_int e, er_int e']; rfl
theorem wk_weak_range {K : PySem.W.Frag} {lo hi : Int} {n : Nat} (h : n = (hi - lo).toNat) : Wk K (Itr lo n) [] (rgDn lo (hi - lo).toNat) := by
  rw [← h]; exact wk_range
theorem range1_rd {K : PySem.W.Frag} {σ : L2.St} {H : Hp} {R : It → Hp → Prop} {own : Bool} (env : TEnv) (ds : List D) (hm : wR (rg1 ma) (erE env) = some ds) (r : Rel σ env) (s : SatE K H env)
    (k : ∀ J H1, Ex H H1 → Wk K J [] ds → R J H1) : iRng1 (trBA K (lCons ma lNil)) σ H R := by
  obtain ⟨x, hx, hm⟩ := bind_some hm
  obtain ⟨n, hn, rfl⟩ := map_some hx
  obtain ⟨d, hd, hn⟩ := bind_some hn
  split at hm
  · rename_i hok
    have hok := of_decide_eq_true hok
    cases hm
    refine ⟨env, [d], ?_, r, s, fun ts H1 e1 x1 s1 b1 => ⟨n, i1_of e1 hn, hok.2.2.1, hok.2.2.2.1, k _ H1 x1 (wk_weak_range (by simp))⟩⟩
    rw [lCons, hd]; rfl
  · cases hm
theorem si_range1 (hm : X.mg "range" = none) (ha : SB X a ma) (hg : Gl X "range" := by rfl) (hp : starEach [a] X.env = (false, eval a X.env) :: starEach [] X.env := by rfl) (hs : starEach [a] X.env = [(false, eval a X.env)] := by rfl) : SI X tg (.Call (.Name "range" p) [a] [] pos) (wR (rg1 ma)) :=
  PI.weak (pi_range1 hg hm (sba_cons ha sba_nil hp) hs) fun σ H R ⟨env, ds, hm, r, s, k⟩ => range1_rd (own := true) env ds hm r s fun J H1 x1 w => k J [] H1 x1 trivial ownL_nil.bor w
theorem sj_range1 (hm : X.mg "range" = none) (ha : SB X a ma) (hg : Gl X "range" := by rfl) (hp : starEach [a] X.env = (false, eval a X.env) :: starEach [] X.env := by rfl) (hs : starEach [a] X.env = [(false, eval a X.env)] := by rfl) : SJ X tg (.Call (.Name "range" p) [a] [] pos) (wR (rg1 ma)) :=
  PI.weak (pi_range1 hg hm (sba_cons ha sba_nil hp) hs) fun σ H R ⟨env, ds, hm, r, s, k⟩ => range1_rd (own := true) env ds hm r s fun J H1 x1 w => k J [] H1 x1 trivial ownL_nil w
theorem range2_rd {K : PySem.W.Frag} {σ : L2.St} {H : Hp} {R : It → Hp → Prop} (env : TEnv) (ds : List D) (hm : wR (rg2 ma mb) (erE env) = some ds) (r : Rel σ env) (s : SatE K H env)
    (k : ∀ J H1, Ex H H1 → Wk K J [] ds → R J H1) : iRng2 (trBA K (lCons ma (lCons mb lNil))) σ H R := by
  obtain ⟨x, hx, hm⟩ := bind_some hm
  obtain ⟨i, hi, hx⟩ := bind_some hx
  obtain ⟨j, hj, rfl⟩ := map_some hx
  obtain ⟨d, hd, hi⟩ := bind_some hi
  obtain ⟨c, hc, hj⟩ := bind_some hj
  split at hm
  · rename_i hok
    have hok := of_decide_eq_true hok
    cases hm
    refine ⟨env, [d, c], ?_, r, s, fun ts H1 e1 x1 s1 b1 => ⟨i, j, i2_of e1 hi hj, ⟨hok.1, hok.2.1, hok.2.2.1, hok.2.2.2.1⟩, k _ H1 x1 wk_range⟩⟩
    rw [lCons, hd, lCons, hc]; rfl
  · cases hm
theorem sj_range2 (hm : X.mg "range" = none) (ha : SB X a ma) (hb : SB X b mb) (hg : Gl X "range" := by rfl) (hp : starEach [a, b] X.env = (false, eval a X.env) :: starEach [b] X.env := by rfl) (hp2 : starEach [b] X.env = (false, eval b X.env) :: starEach [] X.env := by rfl)
    (hs : starEach [a, b] X.env = [(false, eval a X.env), (false, eval b X.env)] := by rfl) (hs2 : starEach [b] X.env = [(false, eval b X.env)] := by rfl) : SJ X tg (.Call (.Name "range" p) [a, b] [] pos) (wR (rg2 ma mb)) :=
  PI.weak (pi_range2 hg hm (sba_cons ha (sba_cons hb sba_nil hp2) hp) hs hs2) fun σ H R ⟨env, ds, hm, r, s, k⟩ => range2_rd env ds hm r s fun J H1 x1 w => k J [] H1 x1 trivial ownL_nil w
@[simp] def wZ (m n : PM) : LM := fun env => (m env).bind fun x => (n env).bind fun y => (asL x).bind fun ds => (asL y).map fun es => List.zipWith (fun x y => D.n .tup [x, y]) ds es
@[simp] def wE (m : PM) : LM := fun env => (m env).bind fun x => (asL x).map (enD 0)
theorem si_enum {elts : List Expr} {kk : Nat} (hm : X.mg "enumerate" = none) (ha : SB X a ma) (hg : Gl X "enumerate" := by rfl) (hp : starEach [a] X.env = (false, eval a X.env) :: starEach [] X.env := by rfl) (hs : starEach [a] X.env = [(false, eval a X.env)] := by rfl) :
    SI X (.Tuple elts kk tpos) (.Call (.Name "enumerate" p) [a] [] pos) (wE ma) :=
  PI.weak (pi_enum hg hm (sba_cons ha sba_nil hp) hs) fun σ H R ⟨env, ds, hm, r, s, k⟩ => by
    obtain ⟨x, hx, hm⟩ := bind_some hm
    obtain ⟨xs, h1, rfl⟩ := map_some hm
    obtain ⟨o, rfl⟩ := asL_some h1
    refine ⟨env, [_], by rw [lCons, hx]; rfl, r, s, fun ts H1 e1 x1 s1 b1 => ?_⟩
    obtain ⟨t, rfl, et⟩ := one_er e1
    obtain ⟨a, f1, f2, w⟩ := wk_enum s1.1 et
    exact ⟨a, _, by rw [vals, List.map_cons, f1]; rfl, f2, k _ [t] H1 x1 s1 b1 w⟩
theorem sj_enum {elts : List Expr} {kk : Nat} (hm : X.mg "enumerate" = none) (ha : SP X a ma) (hg : Gl X "enumerate" := by rfl) (hp : starEach [a] X.env = (false, eval a X.env) :: starEach [] X.env := by rfl) (hs : starEach [a] X.env = [(false, eval a X.env)] := by rfl) :
    SJ X (.Tuple elts kk tpos) (.Call (.Name "enumerate" p) [a] [] pos) (wE ma) :=
  PI.weak (pi_enum hg hm (spa_cons ha spa_nil hp) hs) fun σ H R ⟨env, ds, hm, r, s, k⟩ => by
    obtain ⟨x, hx, hm⟩ := bind_some hm
    obtain ⟨xs, h1, rfl⟩ := map_some hm
    obtain ⟨o, rfl⟩ := asL_some h1
    refine ⟨env, [_], by rw [lCons, hx]; rfl, r, s, fun ts H1 e1 x1 s1 b1 => ?_⟩
    obtain ⟨t, rfl, et⟩ := one_er e1
    obtain ⟨a, f1, f2, w⟩ := wk_enum s1.1 et
    exact ⟨a, _, by rw [vals, List.map_cons, f1]; rfl, f2, k _ [t] H1 x1 s1 b1 w⟩
end


@[simp] def wipeD (env : Env) : List Nat → Env
  | [] => env
  | v :: vs => (wipeD env vs).set v none
def wipeT (env : TEnv) : List Nat → TEnv
  | [] => env
  | v :: vs => (wipeT env vs).set v none
def lcD (g : Tg) (mt : BM) (me : PM) (e0 : Env) : List D → Option (List D)
  | [] => some []
  | d :: ds => (bD g d e0).bind fun e1 => (mt e1).bind fun b => if b = true then (me e1).bind fun r => (lcD g mt me e0 ds).map (r :: ·) else lcD g mt me e0 ds
@[simp] def mLc (mi : LM) (g : Tg) (mt : BM) (me : PM) (vs : List Nat) : PM := fun env => (mi env).bind fun ds => if ds.length ≤ 16777216 then (lcD g mt me (wipeD env vs) ds).map fun rs => .n (.lst .o) rs else none
@[simp] def bYes : BM := fun _ => some true
section
variable {K : PySem.W.Frag} {H H1 H' : Hp} {σ : L2.St} {env : TEnv}
theorem wipe_er : ∀ vs : List Nat, erE (wipeT env vs) = wipeD (erE env) vs
  | [] => rfl
  | v :: vs => by rw [wipeT, erE_set, wipe_er vs]; rfl
theorem wipe_rel (r : Rel σ env) : ∀ vs : List Nat, Rel (wipe σ vs) (wipeT env vs)
  | [] => r
  | v :: vs => by
    have ih := wipe_rel r vs
    refine ⟨by rw [wipeT, wipe, List.length_set, List.length_set, ih.1], fun j u h => ?_⟩
    rw [wipeT, List.getElem?_set] at h
    rw [wipe, List.getElem?_set]
    by_cases e : v = j
    · subst e
      rw [if_pos rfl] at h
      split at h <;> cases h
    · rw [if_neg e] at h ⊢
      exact ih.2 j u h
theorem wipe_sat (s : SatE K H env) : ∀ vs : List Nat, SatE K H (wipeT env vs)
  | [] => s
  | v :: vs => SatE.set (wipe_sat s vs) fun t h => by cases h
theorem none_cu {j : Nat} {a : Addr} : cuE a (env.set j none) ≤ cuE a env := by
  cases h : env[j]? with
  | none =>
    rw [List.getElem?_eq_none_iff] at h
    rw [List.set_eq_of_length_le h]; omega
  | some x =>
    have := cuE_set (a := a) none h
    have e : oT (T.cu a) none = 0 := rfl
    omega
theorem wipe_cu {a : Addr} : ∀ vs : List Nat, cuE a (wipeT env vs) ≤ cuE a env
  | [] => Nat.le_refl _
  | v :: vs => Nat.le_trans none_cu (wipe_cu vs)
theorem wipe_at {σ : L2.St} {i : Nat} : ∀ {vs : List Nat}, i ∈ vs → i < σ.length → (wipe σ vs)[i]? = some none
  | v :: vs, h, hl => by
    rw [wipe, List.getElem?_set]
    by_cases e : v = i
    · rw [if_pos e, if_pos (by rw [wipe_length]; omega)]
    · rw [if_neg e]
      rcases List.mem_cons.mp h with q | q
      · exact absurd q.symm e
      · exact wipe_at q hl
theorem wipe_out {σ : L2.St} {i : Nat} : ∀ {vs : List Nat}, i ∉ vs → (wipe σ vs)[i]? = σ[i]?
  | [], _ => rfl
  | v :: vs, h => by
    rw [wipe, List.getElem?_set, if_neg (fun z => h (by rw [z]; exact List.mem_cons_self ..))]
    exact wipe_out fun z => h (List.mem_cons_of_mem _ z)
theorem wipe_same {σ σ2 : L2.St} {vs sl : List Nat} (hl : σ2.length = (wipe σ vs).length) (ho : ∀ i, i ∉ sl → σ2[i]? = (wipe σ vs)[i]?) (hs : ∀ i ∈ sl, i ∈ vs) : wipe σ2 vs = wipe σ vs := by
  apply List.ext_getElem?
  intro i
  by_cases h : i ∈ vs
  · by_cases l : i < σ.length
    · rw [wipe_at h l, wipe_at h (by rw [hl, wipe_length]; exact l)]
    · rw [List.getElem?_eq_none (by rw [wipe_length, hl, wipe_length]; omega), List.getElem?_eq_none (by rw [wipe_length]; omega)]
  · rw [wipe_out h, ho i fun z => h (hs i z)]
theorem OwnL.snoc {eS : TEnv} {acc : List T} {t : T} (x1 : Ex H H1) (hs : SatE K H eS) (s1 : satL K H1 acc) (o1 : OwnL H eS acc) (s2 : t.sat K H') (o2 : Own H1 eS t) : OwnL H eS (acc ++ [t]) := fun a => by
  have h1 := o1 a
  have h2 := o2 a
  have c1 : 0 < coL a acc → H1 a ≠ none := fun z => coL_some acc s1 z
  have c2 : 0 < cuL a acc → H1 a ≠ none := fun z => cuL_some acc s1 z
  have c3 : 0 < cuE a eS → H a ≠ none := fun z => cuE_some hs z
  have c4 : H1 a = none → H a = none := Evl.fresh_back x1
  rw [coL_append, cuL_append, co1, cu1]
  by_cases q1 : H a = none
  · have n3 : cuE a eS = 0 := by
      rcases Nat.eq_zero_or_pos (cuE a eS) with z | z
      · exact z
      · exact absurd q1 (c3 z)
    by_cases q2 : H1 a = none
    · have n1 : coL a acc = 0 := by
        rcases Nat.eq_zero_or_pos (coL a acc) with z | z
        · exact z
        · exact absurd q2 (c1 z)
      have n2 : cuL a acc = 0 := by
        rcases Nat.eq_zero_or_pos (cuL a acc) with z | z
        · exact z
        · exact absurd q2 (c2 z)
      rw [n1, n2, Nat.zero_add, Nat.zero_add]
      exact ⟨h2.1, fun _ => q1, fun _ => .inr q1⟩
    · have n1 : t.co a = 0 := by
        rcases Nat.eq_zero_or_pos (t.co a) with z | z
        · exact z
        · exact absurd (h2.2.1 z) q2
      have n2 : t.cu a = 0 := by
        rcases Nat.eq_zero_or_pos (t.cu a) with z | z
        · exact z
        · rcases h2.2.2 z with z | z
          · omega
          · exact absurd z q2
      rw [n1, n2, Nat.add_zero, Nat.add_zero]
      exact ⟨h1.1, fun _ => q1, fun _ => .inr q1⟩
  · have n1 : coL a acc = 0 := by
      rcases Nat.eq_zero_or_pos (coL a acc) with z | z
      · exact z
      · exact absurd (h1.2.1 z) q1
    have n2 : t.co a = 0 := by
      rcases Nat.eq_zero_or_pos (t.co a) with z | z
      · exact z
      · exact absurd (c4 (h2.2.1 z)) q1
    rw [n1, n2]
    refine ⟨⟨by omega, .inl rfl⟩, fun z => absurd z (by omega), fun z => ?_⟩
    by_cases q : 0 < cuL a acc
    · exact h1.2.2 q
    · rcases h2.2.2 (by omega) with z | z
      · exact .inl z
      · exact .inr (c4 z)
theorem cuE_app {a : Addr} : ∀ {e1 e2 : TEnv}, cuE a (e1 ++ e2) = cuE a e1 + cuE a e2
  | [], e2 => by rw [List.nil_append, cuE, Nat.zero_add]
  | o :: e1, e2 => by rw [List.cons_append, cuE, cuE, cuE_app (e1 := e1)]; omega
theorem cuE_some_map {a : Addr} : ∀ {ts : List T}, cuE a (ts.map some) = cuL a ts
  | [] => rfl
  | t :: ts => by rw [List.map_cons, cuE, cuL, cuE_some_map (ts := ts)]; rfl
theorem lcD_drop {g : Tg} {mt : BM} {me : PM} {e0 : Env} {ds : List D} {i : Nat} {d : D} {r : List D} (hd : ds[i]? = some d) (h : lcD g mt me e0 (ds.drop i) = some r) :
    ∃ e1 b, bD g d e0 = some e1 ∧ mt e1 = some b ∧ ((b = true ∧ ∃ z r', me e1 = some z ∧ lcD g mt me e0 (ds.drop (i + 1)) = some r' ∧ r = z :: r') ∨ (b = false ∧ lcD g mt me e0 (ds.drop (i + 1)) = some r)) := by
  obtain ⟨hi, e⟩ := List.getElem?_eq_some_iff.mp hd
  rw [List.drop_eq_getElem_cons hi, e, lcD] at h
  obtain ⟨e1, h1, h⟩ := bind_some h
  obtain ⟨b, h2, h⟩ := bind_some h
  refine ⟨e1, b, h1, h2, ?_⟩
  cases b with
  | true =>
    rw [if_pos rfl] at h
    obtain ⟨z, h3, h⟩ := bind_some h
    obtain ⟨r', h4, rfl⟩ := map_some h
    exact .inl ⟨rfl, z, r', h3, h4, rfl⟩
  | false =>
    rw [if_neg Bool.false_ne_true] at h
    exact .inr ⟨rfl, h⟩
structure LcW (K : PySem.W.Frag) (H H1 : Hp) (Dl : Addr) (env eS : TEnv) (src : List T) (g : Tg) (mt : BM) (me : PM) (e0 : Env) (ds rs : List D) (i m : Nat) (H' : Hp) : Prop where
  le : i ≤ ds.length
  ms : m = ds.length - i
  ex : Ex H1 H'
  acc : ∃ acc : List T, H' Dl = some (.lst (vals acc)) ∧ satL K H' acc ∧ OwnL H1 eS acc ∧ coL Dl acc = 0 ∧ cuL Dl acc = 0 ∧ acc.length ≤ i ∧ ∃ r, lcD g mt me e0 (ds.drop i) = some r ∧ rs = erL acc ++ r
end
section
variable {X : Cx} {elt tg iter : Expr} {ifs : List Expr} {scope : Scope} {own : List (Str × Nat)} {pos : Pos} {mi : LM} {g : Tg} {mt : BM} {me : PM}
def STs (X : Cx) (ifs : List Expr) (m : BM) : Prop := PTs X ifs (trT X.K m)
theorem PTs.weak {X : Cx} {ifs : List Expr} {t u : TT} (h : PTs X ifs t) (w : ∀ σ H Q, u σ H Q → t σ H Q) : PTs X ifs u := ⟨fun pins s σ H Q I z => h.run pins s σ H Q I (w σ H Q z)⟩
theorem sts_nil : STs X [] bYes := PTs.weak pts_nil fun σ H Q ⟨env, b, hm, r, s, k⟩ => by
  cases hm
  exact k H (Evl.Ex.refl H)
theorem lc_rd {K : PySem.W.Frag} {σ : L2.St} {H : Hp} {Q : VK} {vs : List Nat} (hsl : ∀ i ∈ g.sl, i ∈ vs) (h : trP K (mLc mi g mt me vs) σ H Q) : tLc (trI K mi) (gOf K g) (trT K mt) (trP K me) vs σ H Q := by
  obtain ⟨env, d, hm, r, s, k⟩ := h
  obtain ⟨ds, hi, hm⟩ := bind_some hm
  split at hm
  case isFalse => cases hm
  rename_i hlen
  obtain ⟨rs, hrs, rfl⟩ := map_some hm
  refine ⟨env, ds, hi, r, s, fun J src H1 x1 ss bs w Dl hD => ?_⟩
  rw [← wipe_er] at hrs
  let eS : TEnv := wipeT env vs ++ src.map some
  have satS : SatE K H1 eS := fun t ht => by
    rcases List.mem_append.mp ht with q | q
    · exact (wipe_sat (s.ex x1) vs) t q
    · obtain ⟨u, hu, e⟩ := List.mem_map.mp q
      cases e
      exact satL_iff.mp ss _ hu
  refine ⟨LcW K H H1 Dl env eS src g mt me (erE (wipeT env vs)) ds rs, ⟨ds.length, ?_⟩, fun i m H2 W => ?_⟩
  · exact ⟨Nat.zero_le _, rfl, Evl.Ex.new hD, [], upd_same, trivial, ownL_nil, rfl, rfl, Nat.le_refl _, rs, hrs, rfl⟩
  obtain ⟨le, ms, ex, acc, hacc, sacc, oacc, n1, n2, lacc, rr, hrr, ers⟩ := W
  have ss2 : satL K H2 src := satL_ex ex ss
  by_cases hi2 : i < ds.length
  · refine .inr ⟨w.go i H2 ss2 hi2, fun H' => ∃ m', m' < m ∧ LcW K H H1 Dl env eS src g mt me (erE (wipeT env vs)) ds rs (i + 1) m' H', fun H' h => h, fun x H3 hy => ?_⟩
    have hd := List.getElem?_eq_getElem hi2
    obtain ⟨t, rfl, et, x3, s3, c3, u3⟩ := w.yld i H2 x H3 ss2 hy _ hd
    obtain ⟨e1, b, hb1, hb2, hb3⟩ := lcD_drop hd hrr
    rw [← et] at hb1
    have sw : SatE K H3 (wipeT env vs) := (wipe_sat ((s.ex x1).ex ex) vs).ex x3
    refine g_run g t (wipe σ vs) (wipeT env vs) e1 _ (wipe_rel r vs) s3 hb1 fun σ2 env2 B => ?_
    refine ⟨wipe_same B.len (fun i hi => (B.out i hi).1) hsl, ?_⟩
    have s2 : SatE K H3 env2 := fun u hu => by
      rcases B.sat u hu with q | q
      · exact sw u q
      · exact q
    have hl3 : H3 Dl = some (.lst (vals acc)) := x3 Dl _ hacc
    refine ⟨env2, b, by rw [B.er]; exact hb2, B.rel, s2, fun H4 x4 => ?_⟩
    have hl4 : H4 Dl = some (.lst (vals acc)) := x4 Dl _ hl3
    have ex4 : Ex H1 H4 := (ex.trans x3).trans x4
    rcases hb3 with ⟨rfl, z, r', hz, hr', rfl⟩ | ⟨rfl, hr'⟩
    · dsimp only
      rw [if_pos rfl]
      refine ⟨env2, z, by rw [B.er]; exact hz, B.rel, s2.ex x4, fun u H5 eu x5 s5 o5 => ?_⟩
      have hl5 : H5 Dl = some (.lst (vals acc)) := x5 Dl _ hl4
      refine ⟨vals acc, hl5, Nat.lt_of_lt_of_le (by rw [List.length_map]; omega) (sizeLine_le hlen), m - 1, by omega, ?_⟩
      have ex5 : Ex H1 H5 := ex4.trans x5
      have ex25 : Ex H2 H5 := (x3.trans x4).trans x5
      have sacc5 : satL K H5 acc := satL_ex ex25 sacc
      have ou : Own H2 eS u := fun a => by
        have h := o5 a
        refine ⟨h.1, fun q => Evl.fresh_back (x3.trans x4) (h.2.1 q), fun q => ?_⟩
        rcases h.2.2 q with q | q
        · have c := B.cu a
          by_cases q2 : 0 < cuE a (wipeT env vs)
          · exact .inl (by show 0 < cuE a (wipeT env vs ++ src.map some); rw [cuE_app]; omega)
          · rcases u3 a (by omega) with z | z
            · exact .inl (by show 0 < cuE a (wipeT env vs ++ src.map some); rw [cuE_app, cuE_some_map]; omega)
            · exact .inr z
        · exact .inr (Evl.fresh_back (x3.trans x4) q)
      have hn : H2 Dl ≠ none := by rw [hacc]; exact fun z => by cases z
      have u1 : u.co Dl = 0 := by
        rcases Nat.eq_zero_or_pos (u.co Dl) with q | q
        · exact q
        · exact absurd ((ou Dl).2.1 q) hn
      have u2 : u.cu Dl = 0 := by
        rcases Nat.eq_zero_or_pos (u.cu Dl) with q | q
        · exact q
        · rcases (ou Dl).2.2 q with q | q
          · exact absurd hD (cuE_some satS q)
          · exact absurd q hn
      have m1 : coL Dl (acc ++ [u]) = 0 := by rw [coL_append, co1, n1, u1]
      have m2 : cuL Dl (acc ++ [u]) = 0 := by rw [cuL_append, cu1, n2, u2]
      refine ⟨hi2, by omega, Evl.Ex.mut ex5 hD, acc ++ [u], ?_, ?_, OwnL.snoc ex satS sacc oacc s5 ou, m1, m2, ?_, r', hr', ?_⟩
      · rw [upd_same]; simp [vals]
      · refine satL_keep (H := H5) _ (fun a o q e => ?_) (satL_append.mpr ⟨sacc5, s5, trivial⟩)
        have ne : a ≠ Dl := fun z => by subst z; omega
        rw [upd_ne ne]
        exact e
      · rw [List.length_append, List.length_singleton]; omega
      · rw [ers, erL_append, erL, erL, eu, List.append_assoc]; rfl
    · dsimp only
      rw [if_neg Bool.false_ne_true]
      exact ⟨m - 1, by omega, hi2, by omega, ex4, acc, hl4, satL_ex (x3.trans x4) sacc, oacc, n1, n2, by omega, rr, hr', ers⟩
  · have hi3 : ds.length ≤ i := Nat.le_of_not_lt hi2
    refine .inl ⟨w.stop i H2 ss2 hi3, ?_⟩
    rw [List.drop_eq_nil_of_le hi3, lcD] at hrr
    cases hrr
    rw [List.append_nil] at ers
    refine k (.n (.lst .o) Dl acc) H2 (by rw [T.er, ← ers]) (x1.trans ex) ⟨⟨hacc, rfl⟩, sacc⟩ fun a => ?_
    have h := oacc a
    have c4 : H1 a = none → H a = none := Evl.fresh_back x1
    rw [T.co, T.cu]
    by_cases q : Dl = a
    · subst q
      rw [n1, n2]
      refine ⟨by simp [Kd.own], fun _ => c4 hD, fun q => absurd q (by simp [Kd.own])⟩
    · rw [if_neg (fun z => q z.2), if_neg (fun z => q z.2), Nat.zero_add, Nat.zero_add]
      refine ⟨h.1, fun z => c4 (h.2.1 z), fun z => ?_⟩
      rcases h.2.2 z with z | z
      · have z : 0 < cuE a (wipeT env vs ++ src.map some) := z
        rw [cuE_app, cuE_some_map] at z
        have := wipe_cu (env := env) (a := a) vs
        by_cases y : 0 < cuL a src
        · exact (bs a).2 y
        · exact .inl (by omega)
      · exact .inr (c4 z)
theorem sp_lc (hc : X.calm = true) (hN : X.N.Nodup) (hi : SI X tg iter mi) (ok : blkC X.N X.env.scope scope own = true)
    (hg : ∀ (s : Shared) (H : Hp) (C : Addr) (cl : List (Str × Addr)) (fp : List Addr), SG (X.blk s H scope (compEnvC scope cl C X.env) fp) tg g) (ht : ∀ (s : Shared) (H : Hp) (C : Addr) (cl : List (Str × Addr)) (fp : List Addr), STs (X.blk s H scope (compEnvC scope cl C X.env) fp) ifs mt)
    (he : ∀ (s : Shared) (H : Hp) (C : Addr) (cl : List (Str × Addr)) (fp : List Addr), SP (X.blk s H scope (compEnvC scope cl C X.env) fp) elt me) (hsl : ∀ i ∈ g.sl, i ∈ own.map (·.2)) (hs : ∀ x, foldedSetIterable iter X.env x = pure x := by intro _; rfl) :
    SP X (.ListComp elt [⟨tg, iter, ifs, 0⟩] scope pos) (mLc mi g mt me (own.map (·.2))) :=
  PE.weak (pe_lc (own := own) (g := gOf X.K g) (tt := trT X.K mt) (te := trP X.K me) hc hN hi (blkOk_by ok) hg ht he hs) fun σ H Q h => lc_rd hsl h


end
mutual
def T.frz : T → T
  | .s v => .s v
  | .n k a ts => .n k.frz a (frzL ts)
  | .w z k a ts => .w z k a (frzL ts)
def frzL : List T → List T
  | [] => []
  | t :: ts => t.frz :: frzL ts
end
mutual
@[simp] def D.frz : D → D
  | .s v => .s v
  | .n k ds => .n k.frz (frzD ds)
@[simp] def frzD : List D → List D
  | [] => []
  | d :: ds => d.frz :: frzD ds
end
theorem frz_val (t : T) : t.frz.val = t.val := by cases t <;> simp [T.frz, T.val]
theorem frzL_vals : ∀ ts : List T, vals (frzL ts) = vals ts
  | [] => rfl
  | t :: ts => by rw [frzL, vals, List.map_cons, frz_val]; exact congrArg _ (frzL_vals ts)
theorem kfrz_ho (k : Kd) (vs : List V) : k.frz.ho vs = k.ho vs := by cases k <;> rfl
theorem kfrz_own (k : Kd) : k.frz.own = false := by
  cases k with
  | lst o => cases o <;> rfl
  | tup => rfl
  | ktp => rfl
  | dic o ks => cases o <;> rfl
  | dct o ks => cases o <;> rfl
theorem kfrz_isw {k : Kd} (h : k.isw = false) : k.frz.isw = false := by
  cases k with
  | lst o => cases o <;> first | rfl | cases h
  | tup => rfl
  | ktp => cases h
  | dic o ks => cases o <;> first | rfl | cases h
  | dct o ks => cases o <;> first | rfl | cases h
theorem kwri_frz (k : Kd) : k.wri.frz = k.wri := by cases k <;> rfl
section
variable {K : PySem.W.Frag} {H : Hp} {a : Addr}
mutual
theorem frz_er : ∀ t : T, t.frz.er = t.er.frz
  | .s v => by rw [T.frz, T.er, D.frz]
  | .n k a ts => by rw [T.frz, T.er, T.er, D.frz, frzL_er ts]
  | .w z k a ts => by rw [T.frz, T.er, T.er, D.frz, frzL_er ts, kwri_frz]
theorem frzL_er : ∀ ts : List T, erL (frzL ts) = frzD (erL ts)
  | [] => rfl
  | t :: ts => by rw [frzL, erL, erL, frzD, frz_er t, frzL_er ts]
end
mutual
theorem frz_co : ∀ t : T, t.frz.co a = 0
  | .s v => rfl
  | .n k b ts => by rw [T.frz, T.co, frzL_co ts, kfrz_own]; simp
  | .w z k b ts => by rw [T.frz, T.co, frzL_co ts]
theorem frzL_co : ∀ ts : List T, coL a (frzL ts) = 0
  | [] => rfl
  | t :: ts => by rw [frzL, coL, frz_co t, frzL_co ts]
end
mutual
theorem frz_cu : ∀ t : T, t.frz.cu a = t.co a + t.cu a
  | .s v => rfl
  | .n k b ts => by
    rw [T.frz, T.cu, T.co, T.cu, frzL_cu ts, kfrz_own]
    cases k.own <;> by_cases q : b = a <;> simp [q] <;> omega
  | .w z k b ts => by rw [T.frz, T.cu, T.co, T.cu, frzL_cu ts]; omega
theorem frzL_cu : ∀ ts : List T, cuL a (frzL ts) = coL a ts + cuL a ts
  | [] => rfl
  | t :: ts => by rw [frzL, cuL, coL, cuL, frz_cu t, frzL_cu ts]; omega
end
mutual
theorem frz_sat : ∀ t : T, t.sat K H → t.frz.sat K H
  | .s v, _ => trivial
  | .n k b ts, h => by
    rw [T.frz]
    refine ⟨⟨?_, kfrz_isw h.1.2⟩, frzL_sat ts h.2⟩
    rw [kfrz_ho, frzL_vals]
    exact h.1.1
  | .w z k b ts, h => by
    rw [T.frz]
    refine ⟨?_, frzL_sat ts h.2⟩
    rw [frzL_vals]
    exact h.1
theorem frzL_sat : ∀ ts : List T, satL K H ts → satL K H (frzL ts)
  | [], _ => trivial
  | t :: ts, h => ⟨frz_sat t h.1, frzL_sat ts h.2⟩
end
end
@[simp] def Kd.nF : Kd → Bool
  | .tup => true
  | .ktp => true
  | k => k.own
mutual
@[simp] def D.noF : D → Bool
  | .s _ => true
  | .n k ds => k.nF && noFL ds
@[simp] def noFL : List D → Bool
  | [] => true
  | d :: ds => d.noF && noFL ds
end
def isTupO : HO → Bool
  | .tup _ => true
  | .frz _ (.tup _) => true
  | _ => false
section
variable {K : PySem.W.Frag} {H : Hp} {a : Addr}
mutual
theorem noF_cu : ∀ t : T, t.er.noF = true → t.sat K H → 0 < t.cu a → ∃ o, H a = some o ∧ isTupO o = true
  | .s v, _, _, h => by rw [T.cu] at h; omega
  | .n k b ts, hn, hs, h => by
    rw [T.er, D.noF, Bool.and_eq_true] at hn
    rw [T.cu] at h
    by_cases q : k.own = false ∧ b = a
    · obtain ⟨q1, q2⟩ := q
      subst q2
      have h1 := hs.1.1
      cases k with
      | tup => exact ⟨_, h1, rfl⟩
      | ktp => exact absurd hs.1.2 (by simp [Kd.isw])
      | lst o => exact absurd (q1.symm.trans hn.1) Bool.false_ne_true
      | dic o ks => exact absurd (q1.symm.trans hn.1) Bool.false_ne_true
      | dct o ks => exact absurd (q1.symm.trans hn.1) Bool.false_ne_true
    · rw [if_neg q] at h
      exact noFL_cu ts hn.2 hs.2 (by omega)
  | .w z k b ts, hn, hs, h => by
    rw [T.er, D.noF, Bool.and_eq_true] at hn
    rw [T.cu] at h
    by_cases q : z = false ∧ b = a
    · obtain ⟨q1, q2⟩ := q
      subst q1 q2
      obtain ⟨nk, o, h1⟩ := hs.1
      cases k with
      | tup => exact ⟨_, h1, rfl⟩
      | ktp => exact absurd rfl nk
      | lst o => exact absurd hn.1 (by simp [Kd.wri, Kd.nF, Kd.own])
      | dic o ks => exact absurd hn.1 (by simp [Kd.wri, Kd.nF, Kd.own])
      | dct o ks => exact absurd hn.1 (by simp [Kd.wri, Kd.nF, Kd.own])
    · rw [if_neg q] at h
      exact noFL_cu ts hn.2 hs.2 (by omega)
theorem noFL_cu : ∀ ts : List T, noFL (erL ts) = true → satL K H ts → 0 < cuL a ts → ∃ o, H a = some o ∧ isTupO o = true
  | [], _, _, h => by rw [cuL] at h; omega
  | t :: ts, hn, hs, h => by
    rw [erL, noFL, Bool.and_eq_true] at hn
    rw [cuL] at h
    by_cases q : 0 < t.cu a
    · exact noF_cu t hn.1 hs.1 q
    · exact noFL_cu ts hn.2 hs.2 (by omega)
end
mutual
theorem co_no : ∀ t : T, t.sat K H → 0 < t.co a → ∃ o, H a = some o ∧ isTupO o = false
  | .s v, _, h => by rw [T.co] at h; omega
  | .n k b ts, hs, h => by
    rw [T.co] at h
    by_cases q : k.own = true ∧ b = a
    · obtain ⟨q1, q2⟩ := q
      subst q2
      have h1 := hs.1.1
      cases k with
      | tup => cases q1
      | ktp => cases q1
      | lst o => exact ⟨_, h1, rfl⟩
      | dic o ks => exact ⟨_, h1, rfl⟩
      | dct o ks => exact ⟨_, h1, rfl⟩
    · rw [if_neg q] at h
      exact coL_no ts hs.2 (by omega)
  | .w z k b ts, hs, h => by
    rw [T.co] at h
    exact coL_no ts hs.2 h
theorem coL_no : ∀ ts : List T, satL K H ts → 0 < coL a ts → ∃ o, H a = some o ∧ isTupO o = false
  | [], _, h => by rw [coL] at h; omega
  | t :: ts, hs, h => by
    rw [coL] at h
    by_cases q : 0 < t.co a
    · exact co_no t hs.1 q
    · exact coL_no ts hs.2 (by omega)
end
theorem coE_no : ∀ {env : TEnv}, SatE K H env → 0 < coE a env → ∃ o, H a = some o ∧ isTupO o = false
  | [], _, h => by rw [coE] at h; omega
  | none :: r, hs, h => by
    rw [coE, oT] at h
    exact coE_no (env := r) (fun t ht => hs t (List.mem_cons_of_mem _ ht)) (by omega)
  | some t :: r, hs, h => by
    rw [coE, oT] at h
    by_cases q : 0 < t.co a
    · exact co_no t (hs t (List.mem_cons_self ..)) q
    · exact coE_no (env := r) (fun t ht => hs t (List.mem_cons_of_mem _ ht)) (by omega)
end
def OwnA (H : Hp) (ts : List T) (t : T) : Prop := ∀ a, (t.co a ≤ 1 ∧ (t.co a = 0 ∨ t.cu a = 0)) ∧ (0 < t.co a → H a = none) ∧ (0 < t.cu a → 0 < coL a ts ∨ 0 < cuL a ts ∨ H a = none)
abbrev FM := List D → Option D
def spP (K : PySem.W.Frag) (n : Nat) (f : FM) : Sp := fun vs H Q _ => ∃ ts d, vs = vals ts ∧ ts.length = n ∧ satL K H ts ∧ f (frzD (erL ts)) = some d ∧ ∀ t H', t.er = d → Ex H H' → t.sat K H' → OwnA H ts t → Q t.val H'
@[simp] def mFn (f : FM) (ml : LM) : PM := fun env => (ml env).bind fun ds => (f (frzD ds)).bind fun d => if (d.noF || pureL ds) = true then some d else none
section
variable {X : Cx} {e : Expr} {es : List Expr} {ml : LM} {pos p : Pos}
theorem sp_call {k n : Nat} {x : Str} {f : Addr} {fd : FuncData} {ps : List Str} {fm : FM} {CX : CXT} {E : XK} (F : FnOk X.prog X.w X.K X.mg X.base CX k f fd ps (spP X.K n fm)) (hl : n = es.length + 1) (hr : Room k X.A) (hm : X.mg x = some (.ref f)) (hk : PySem.W.keepIn X.K (.ref f) = true)
    (hb : Binds X.K fd ps []) (hx : Passes CX X E) (ha : SBA X (e :: es) ml) (hln : ∀ env ds, ml env = some ds → ds.length = n) (hg : Gl X x := by rfl) (hdb : (x == ("__debug__" : Str)) = false := by decide) (he : starEach (e :: es) X.env = (false, eval e X.env) :: starEach es X.env := by rfl) (hpl : (backTo pos (starEach es X.env)).any (·.1) = false := by rfl) :
    SP X (.Call (.Name x p) (e :: es) [] pos) (mFn fm ml) := PE.weak (pe_call F hr hg hm hk hb .nil hx ha hdb he hpl) fun σ H Q ⟨env, d, hm, r, s, k⟩ => by
  obtain ⟨ds, h1, hm⟩ := bind_some hm
  obtain ⟨d', h2, hm⟩ := bind_some hm
  split at hm
  case isFalse => cases hm
  rename_i hc
  cases hm
  refine ⟨env, ds, h1, r, s, fun ts H1 e1 x1 s1 b1 => ?_⟩
  refine ⟨ts, d, by rw [List.append_nil], by rw [len_er e1]; exact hln _ _ h1, s1, by rw [e1]; exact h2, fun t H2 e2 x2 s2 o2 => k t H2 e2 (x1.trans x2) s2 fun a => ?_⟩
  have o := o2 a
  refine ⟨o.1, fun z => Evl.fresh_back x1 (o.2.1 z), fun z => ?_⟩
  rcases o.2.2 z with q | q | q
  · rw [Bool.or_eq_true] at hc
    rcases hc with hc | hc
    · -- a tuple of the answer is no list of ours
      rw [← e2] at hc
      obtain ⟨u, hu, hv⟩ := noF_cu t hc s2 z
      obtain ⟨u', hu', hv'⟩ := coL_no ts (satL_ex x2 s1) q
      rw [hu] at hu'
      cases hu'
      rw [hv] at hv'
      cases hv'
    · rw [← e1] at hc
      rw [pureL_co ts hc] at q
      omega
  · exact (b1 a).2 q
  · exact .inr (Evl.fresh_back x1 q)
end
@[simp] def wLF (m : PM) : LM := fun env => (m env).bind fun d => asL d.frz
section
variable {X : Cx} {tg e : Expr} {m : PM}
end
end Ow

namespace Ow
open PySem L2


def WfF (F : List T) (env : TEnv) : Prop := Wf (fun a => coL a F + coE a env) (fun a => cuL a F + cuE a env)
def StpF (H : Hp) (F : List T) (env : TEnv) (H' : Hp) (F' : List T) (env' : TEnv) : Prop := Stp H (fun a => coL a F + coE a env) (fun a => cuL a F + cuE a env) H' (fun a => coL a F' + coE a env') (fun a => cuL a F' + cuE a env')
structure Cf (K : PySem.W.Frag) (H0 : Hp) (env0 : TEnv) (σ : L2.St) (H : Hp) (F : List T) (env : TEnv) : Prop where
  rel : Rel σ env
  satF : satL K H F
  satE : SatE K H env
  wf : WfF F env
  stp : StpF H0 [] env0 H F env
section
variable {K : PySem.W.Frag} {H0 H H' : Hp} {env0 env env' : TEnv} {σ σ' : L2.St} {F G : List T} {t : T}
theorem Cf.start (r : Rel σ env) (s : SatE K H env) (w : WfF [] env) : Cf K H env σ H [] env := ⟨r, trivial, s, w, Stp.refl⟩
theorem Cf.step (c : Cf K H0 env0 σ H F env) (c' : Cf K H env σ' H' G env') : Cf K H0 env0 σ' H' (G ++ F) env' := by
  have keepF : ∀ a o, 0 < coL a F + cuL a F → H a = some o → H' a = some o := fun a o h e => c'.stp.1 a o e (by
    have := c.wf a
    simp only [coL] at this ⊢
    omega)
  have someF : ∀ a, 0 < coL a F + cuL a F → H a ≠ none := fun a h => by
    by_cases q : 0 < coL a F
    · exact coL_some F c.satF q
    · exact cuL_some F c.satF (by omega)
  refine ⟨c'.rel, satL_append.mpr ⟨c'.satF, satL_keep F keepF c.satF⟩, c'.satE, fun a => ?_, ?_⟩
  · have w := c.wf a
    have w' := c'.wf a
    have s := c'.stp.2.2 a
    have sf := someF a
    simp only [coL, cuL, Nat.zero_add, coL_append, cuL_append] at w w' s ⊢
    by_cases z : H a = none
    · have n1 : coL a F = 0 := by
        rcases Nat.eq_zero_or_pos (coL a F) with q | q
        · exact q
        · exact absurd z (sf (by omega))
      have n2 : cuL a F = 0 := by
        rcases Nat.eq_zero_or_pos (cuL a F) with q | q
        · exact q
        · exact absurd z (sf (by omega))
      omega
    · have s1 := s.1
      have s2 := s.2
      simp only [z, or_false] at s1 s2
      omega
  · refine Stp.trans c.stp ⟨fun a o h hc => c'.stp.1 a o h (by simp only [coL] at hc ⊢; omega), c'.stp.2.1, fun a => ?_⟩
    have s := c'.stp.2.2 a
    simp only [coL, cuL, Nat.zero_add, coL_append, cuL_append] at s ⊢
    refine ⟨fun h => ?_, fun h => ?_⟩
    · by_cases q : 0 < coL a F
      · exact .inl (by omega)
      · rcases s.1 (by omega) with z | z
        · exact .inl (by omega)
        · exact .inr z
    · by_cases q : 0 < cuL a F
      · exact .inr (.inl (by omega))
      · rcases s.2 (by omega) with z | z | z
        · exact .inl (by omega)
        · exact .inr (.inl (by omega))
        · exact .inr (.inr z)
theorem Cf.base (c : Cf K H0 env0 σ H F env) : WfF [] env := fun a => by
  have w := c.wf a
  simp only [coL, cuL, Nat.zero_add] at w ⊢
  omega
theorem Cf.pure (r : Rel σ env) (s : SatE K H env) (w : WfF [] env) (x : Ex H H') (s1 : t.sat K H') (o : Own H env t) : Cf K H env σ H' [t] env := by
  refine ⟨r, ⟨s1, trivial⟩, s.ex x, fun a => ?_, ⟨fun a o h _ => x a o h, fun a h => Evl.fresh_back x h, fun a => ?_⟩⟩
  · have h := o a
    have w := w a
    have c1 : 0 < coE a env → H a ≠ none := coE_some s
    have c2 : 0 < cuE a env → H a ≠ none := cuE_some s
    simp only [coL, cuL, Nat.zero_add, Nat.add_zero] at w ⊢
    by_cases q : 0 < t.co a
    · have z := h.2.1 q
      have n1 : coE a env = 0 := by
        rcases Nat.eq_zero_or_pos (coE a env) with q | q
        · exact q
        · exact absurd z (c1 q)
      have n2 : cuE a env = 0 := by
        rcases Nat.eq_zero_or_pos (cuE a env) with q | q
        · exact q
        · exact absurd z (c2 q)
      omega
    · by_cases q2 : 0 < t.cu a
      · rcases h.2.2 q2 with z | z
        · omega
        · have n1 : coE a env = 0 := by
            rcases Nat.eq_zero_or_pos (coE a env) with q | q
            · exact q
            · exact absurd z (c1 q)
          omega
      · omega
  · have h := o a
    simp only [coL, cuL, Nat.zero_add, Nat.add_zero]
    refine ⟨fun q => ?_, fun q => ?_⟩
    · by_cases q2 : 0 < t.co a
      · exact .inr (h.2.1 q2)
      · exact .inl (by omega)
    · by_cases q2 : 0 < t.cu a
      · rcases h.2.2 q2 with z | z
        · exact .inr (.inl z)
        · exact .inr (.inr z)
      · exact .inr (.inl (by omega))
theorem Cf.ex (c : Cf K H0 env0 σ H F env) (x : Ex H H') : Cf K H0 env0 σ H' F env :=
  ⟨c.rel, satL_ex x c.satF, c.satE.ex x, c.wf, Stp.trans c.stp ⟨fun a o h _ => x a o h, fun a h => Evl.fresh_back x h, fun a => ⟨fun q => .inl q, fun q => .inr (.inl q)⟩⟩⟩
theorem Cf.less {F' : List T} {env' : TEnv} (c : Cf K H0 env0 σ H F env) (r : Rel σ' env') (sF : satL K H F') (sE : SatE K H env') (h1 : ∀ a, coL a F' + coE a env' ≤ coL a F + coE a env) (h2 : ∀ a, cuL a F' + cuE a env' ≤ cuL a F + cuE a env) : Cf K H0 env0 σ' H F' env' := by
  refine ⟨r, sF, sE, fun a => ?_, Stp.trans c.stp ⟨fun a o h _ => h, fun a h => h, fun a => ⟨fun q => .inl ?_, fun q => .inr (.inl ?_)⟩⟩⟩
  · have w := c.wf a
    have := h1 a
    have := h2 a
    simp only at w ⊢
    omega
  · have := h1 a
    simp only at q ⊢
    omega
  · have := h2 a
    simp only at q ⊢
    omega
end
def trE (K : PySem.W.Frag) (U : List Nat) (m : EM) : TE := fun σ H Q => ∃ env d e', m (erE env) = some (d, e') ∧ Rel σ env ∧ SatE K H env ∧ WfF [] env ∧
  ∀ t env' H', t.er = d → erE env' = e' → Cf K H env σ H' [t] env' → (∀ i ∈ U, env'[i]? = env[i]?) → Q t.val H'
abbrev TM := Env → Option (Bool × Env)
def trET (K : PySem.W.Frag) (m : TM) : TT := fun σ H Q => ∃ env b e', m (erE env) = some (b, e') ∧ Rel σ env ∧ SatE K H env ∧ WfF [] env ∧
  ∀ env' H', erE env' = e' → Cf K H env σ H' [] env' → Q b H'
def SE (X : Cx) (U : List Nat) (e : Expr) (m : EM) : Prop := PE X e (trE X.K U m)
def SET (X : Cx) (e : Expr) (m : TM) : Prop := PT X e (trET X.K m)
@[simp] def lift (m : PM) : EM := fun env => (m env).map fun d => (d, env)
@[simp] def liftT (m : BM) : TM := fun env => (m env).map fun d => (d, env)
inductive O where
  | nx | bk | ct
  | rt (d : D)
abbrev SM := Env → Option (O × Env)
def XWish (X : Cx) : WX := fun cls d σ H => ∀ u s', XE X (fun c' d' σ' H' => c' = cls ∧ d' = d ∧ σ' = σ ∧ H' = H) u s' → X.xe u s'
@[simp] def D.isx : D → Bool
  | .s (.ty _) => true
  | _ => false
def outs (X : Cx) (De : Ends) (o : O) (F : List T) (σ : L2.St) (H : Hp) : Prop := match o with
  | .nx => F = [] → De.nx σ H
  | .bk => F = [] → De.bk σ H
  | .ct => F = [] → De.ct σ H
  | .rt d => (∀ t, F = [t] → t.er = d → De.rt t.val H) ∧ ∀ (n : String) (C : Addr), d = .s (.ty n) → F = [] → X.mg n = some (.ref C) → XWish X (.ref C) none σ H
def trS (X : Cx) (P : List Nat) (m : SM) : TS := fun De σ H => ∃ env o e', m (erE env) = some (o, e') ∧ Rel σ env ∧ SatE X.K H env ∧ WfF [] env ∧
  ∀ F σ' env' H', erE env' = e' → Cf X.K H env σ' H' F env' → (∀ i ∈ P, σ'[i]? = σ[i]?) → outs X De o F σ' H'
def SS (X : Cx) (P : List Nat) (st : Stmt) (m : SM) : Prop := PS X st (trS X P m)
def SSs (X : Cx) (P : List Nat) (st : List Stmt) (m : SM) : Prop := PSs X st (trS X P m)
theorem PS.weak {X : Cx} {st : Stmt} {t u : TS} (h : PS X st t) (w : ∀ D σ H, u D σ H → t D σ H) : PS X st u := ⟨fun pins s σ H D I z => h.run pins s σ H D I (w D σ H z)⟩
theorem PSs.weak {X : Cx} {st : List Stmt} {t u : TS} (h : PSs X st t) (w : ∀ D σ H, u D σ H → t D σ H) : PSs X st u := ⟨fun pins s σ H D I z => h.run pins s σ H D I (w D σ H z)⟩
section
variable {K : PySem.W.Frag} {H0 H H' : Hp} {env0 env env' : TEnv} {σ σ' : L2.St} {F : List T} {U : List Nat} {m : PM} {me : EM} {d : D} {e' : Env} {Q : VK}
theorem goE (c : Cf K H0 env0 σ H F env) (hm : me (erE env) = some (d, e')) (k : ∀ t env' H', t.er = d → erE env' = e' → Cf K H0 env0 σ H' (t :: F) env' → (∀ i ∈ U, env'[i]? = env[i]?) → Q t.val H') : trE K U me σ H Q :=
  ⟨env, d, e', hm, c.rel, c.satE, c.base, fun t env' H' e1 e2 c' u => k t env' H' e1 e2 (c.step c') u⟩
theorem goP (c : Cf K H0 env0 σ H F env) (hm : m (erE env) = some d) (k : ∀ t H', t.er = d → Ex H H' → Cf K H0 env0 σ H' (t :: F) env → Q t.val H') : trP K m σ H Q :=
  ⟨env, d, hm, c.rel, c.satE, fun t H' e1 x s o => k t H' e1 x (c.step (Cf.pure c.rel c.satE c.base x s o))⟩
theorem goB (c : Cf K H0 env0 σ H F env) (hm : m (erE env) = some d) (k : ∀ t H', t.er = d → Ex H H' → t.sat K H' → Bor H env t → Cf K H0 env0 σ H' F env → Q t.val H') : trB K m σ H Q :=
  ⟨env, d, hm, c.rel, c.satE, fun t H' e1 x s o => k t H' e1 x s o (c.ex x)⟩
theorem goT {mb : BM} {b : Bool} {Q : Bool → Hp → Prop} (c : Cf K H0 env0 σ H F env) (hm : mb (erE env) = some b) (k : ∀ H', Cf K H0 env0 σ H' F env → Q b H') : trT K mb σ H Q :=
  ⟨env, b, hm, c.rel, c.satE, fun H' x => k H' (c.ex x)⟩
theorem goET {mb : TM} {b : Bool} {Q : Bool → Hp → Prop} (c : Cf K H0 env0 σ H F env) (hm : mb (erE env) = some (b, e')) (k : ∀ env' H', erE env' = e' → Cf K H0 env0 σ H' F env' → Q b H') : trET K mb σ H Q :=
  ⟨env, b, e', hm, c.rel, c.satE, c.base, fun env' H' e1 c' => k env' H' e1 (c.step c')⟩
end
section
variable {X : Cx} {m ma mb : PM} {me m1 m2 : EM} {e a b : Expr} {pos : Pos} {U P : List Nat}
theorem se_p (h : SP X e m) : SE X U e (lift m) := PE.weak h fun σ H Q ⟨env, d, e', hm, r, s, w, k⟩ => by
  obtain ⟨x, hx, e1⟩ := map_some hm
  cases e1
  exact goP (Cf.start r s w) hx fun t H' e1 x c => k t env H' e1 rfl c fun _ _ => rfl
theorem set_t {mt : BM} (h : ST X e mt) : SET X e (liftT mt) := PT.weak h fun σ H Q ⟨env, d, e', hm, r, s, w, k⟩ => by
  obtain ⟨x, hx, e1⟩ := map_some hm
  cases e1
  exact goT (Cf.start r s w) hx fun H' c => k env H' rfl c
@[simp] def eB (m : EM) : TM := fun env => (m env).bind fun x => (toB x.1).map fun b => (b, x.2)
@[simp] def eOp2 (f : D → D → Option V) (ma mb : EM) : EM := fun env => (ma env).bind fun x => (mb x.2).bind fun y => (f x.1 y.1).bind fun v => (sv v).map fun d => (d, y.2)
theorem eop_rd {K : PySem.W.Frag} {σ : L2.St} {H : Hp} {Q : VK} {r : R2} {f : D → D → Option V} (ho : Op2 K r f) (h : trE K U (eOp2 f m1 m2) σ H Q) : tOp r (trE K U m1) (trE K U m2) σ H Q := by
  obtain ⟨env, d, e', hm, hr, s, w, k⟩ := h
  obtain ⟨x, hx, hm⟩ := bind_some hm
  obtain ⟨y, hy, hm⟩ := bind_some hm
  obtain ⟨v, hv, hm⟩ := bind_some hm
  obtain ⟨dv, hs, e1⟩ := map_some hm
  obtain ⟨s1, rfl⟩ := sv_some hs
  cases e1
  refine goE (d := x.1) (e' := x.2) (Cf.start hr s w) hx fun t env1 H1 e1 e2 c1 u1 => ?_
  refine goE (d := y.1) (e' := y.2) c1 (by rw [e2]; exact hy) fun u env2 H2 e3 e4 c2 u2 => ?_
  refine ho t u v H2 Q c2.satF.2.1 c2.satF.1 (by rw [e1, e3]; exact hv) ?_
  refine k (.s v) env2 H2 (by rw [T.er, hid_scl s1]) e4 (c2.less c2.rel ⟨trivial, trivial⟩ c2.satE (fun a => by simp [coL, T.co]; try omega) (fun a => by simp [cuL, T.cu]; try omega)) fun i hi => (u2 i hi).trans (u1 i hi)
theorem se_op {op : Operator} {r : R2} {f : D → D → Option V} (ho : OpR X (binaryOp op) r) (hf : Op2 X.K r f) (ha : SE X U a m1) (hb : SE X U b m2) : SE X U (.BinOp a op b pos) (eOp2 f m1 m2) :=
  PE.weak (pe_op ho ha hb) fun σ H Q h => eop_rd hf h
theorem se_add (ha : SE X U a m1) (hb : SE X U b m2) : SE X U (.BinOp a .Add b pos) (eOp2 fAdd m1 m2) := se_op op_add op2_I0 ha hb
theorem se_mul (ha : SE X U a m1) (hb : SE X U b m2) : SE X U (.BinOp a .Mult b pos) (eOp2 fMul m1 m2) := se_op op_mulB (op2_I fun _ _ h => of_decide_eq_true h) ha hb
@[simp] def eItem (ma mb : EM) : EM := fun env => (ma env).bind fun x => (mb x.2).bind fun y => (fItem x.1 y.1).bind fun d => if d.pure = true then some (d, y.2) else none

@[simp] def sNx : SM := fun env => some (.nx, env)
@[simp] def sSeq (m n : SM) : SM := fun env => (m env).bind fun x => match x.1 with
  | .nx => n x.2
  | o => some (o, x.2)
@[simp] def sDrop (m : EM) : SM := fun env => (m env).map fun x => (.nx, x.2)
@[simp] def sSet (i : Nat) (m : EM) : SM := fun env => (m env).map fun x => (.nx, x.2.set i (some x.1))
@[simp] def sRet (m : EM) : SM := fun env => (m env).map fun x => (.rt x.1, x.2)
@[simp] def sRetN : SM := fun env => some (.rt (.s .non), env)
@[simp] def sBk : SM := fun env => some (.bk, env)
@[simp] def sCt : SM := fun env => some (.ct, env)
@[simp] def sIf (c : TM) (m n : SM) : SM := fun env => (c env).bind fun x => if x.1 = true then m x.2 else n x.2
section
variable {st : Stmt} {rest : List Stmt} {mS nS : SM}
theorem sss_nil : SSs X P [] sNx := PSs.weak pss_nil fun De σ H ⟨env, o, e', hm, r, s, w, k⟩ => by
  cases hm
  exact k [] σ env H rfl (Cf.start r s w) (fun _ _ => rfl) rfl
theorem sss_one (h : SS X P st mS) : SSs X P [st] mS := pss_one h
theorem sss_cons (h : SS X P st mS) (hs : SSs X P rest nS) : SSs X P (st :: rest) (sSeq mS nS) := PSs.weak (pss_cons h hs) fun De σ H ⟨env, o, e', hm, r, s, w, k⟩ => by
  obtain ⟨x, hx, hm⟩ := bind_some hm
  refine ⟨env, x.1, x.2, hx, r, s, w, fun F σ1 env1 H1 e1 c1 p1 => ?_⟩
  obtain ⟨xo, xe⟩ := x
  cases xo with
  | nx =>
    intro hF
    subst hF
    refine ⟨env1, o, e', by rw [e1]; exact hm, c1.rel, c1.satE, c1.base, fun F2 σ2 env2 H2 e2 c2 p2 => ?_⟩
    have c3 := c1.step c2
    rw [List.append_nil] at c3
    exact k F2 σ2 env2 H2 e2 c3 fun i hi => (p2 i hi).trans (p1 i hi)
  | bk => cases hm; exact k F σ1 env1 H1 e1 c1 p1
  | ct => cases hm; exact k F σ1 env1 H1 e1 c1 p1
  | rt d => cases hm; exact k F σ1 env1 H1 e1 c1 p1
end
end
end Ow

namespace Ow
open PySem L2

section
variable {K : PySem.W.Frag} {H0 H H' : Hp} {env0 env env' : TEnv} {σ σ' : L2.St} {F G : List T} {t : T}
theorem Cf.pureL {ts : List T} (r : Rel σ env) (s : SatE K H env) (w : WfF [] env) (x : Ex H H') (s1 : satL K H' ts) (o : OwnL H env ts) : Cf K H env σ H' ts env := by
  refine ⟨r, s1, s.ex x, fun a => ?_, ⟨fun a o h _ => x a o h, fun a h => Evl.fresh_back x h, fun a => ?_⟩⟩
  · have h := o a
    have w := w a
    have c1 : 0 < coE a env → H a ≠ none := coE_some s
    have c2 : 0 < cuE a env → H a ≠ none := cuE_some s
    simp only [coL, cuL, Nat.zero_add, Nat.add_zero] at w ⊢
    by_cases q : 0 < coL a ts
    · have z := h.2.1 q
      have n1 : coE a env = 0 := by
        rcases Nat.eq_zero_or_pos (coE a env) with q | q
        · exact q
        · exact absurd z (c1 q)
      have n2 : cuE a env = 0 := by
        rcases Nat.eq_zero_or_pos (cuE a env) with q | q
        · exact q
        · exact absurd z (c2 q)
      omega
    · by_cases q2 : 0 < cuL a ts
      · rcases h.2.2 q2 with z | z
        · omega
        · have n1 : coE a env = 0 := by
            rcases Nat.eq_zero_or_pos (coE a env) with q | q
            · exact q
            · exact absurd z (c1 q)
          omega
      · omega
  · have h := o a
    simp only [coL, cuL, Nat.zero_add, Nat.add_zero]
    refine ⟨fun q => ?_, fun q => ?_⟩
    · by_cases q2 : 0 < coL a ts
      · exact .inr (h.2.1 q2)
      · exact .inl (by omega)
    · by_cases q2 : 0 < cuL a ts
      · rcases h.2.2 q2 with z | z
        · exact .inr (.inl z)
        · exact .inr (.inr z)
      · exact .inr (.inl (by omega))
theorem Cf.bind {sl : List Nat} {e' : Env} (c : Cf K H0 env0 σ H F env) (x : Ex H H') (ho : ∀ a, t.co a = 0) (hu : ∀ a, 0 < t.cu a → 0 < cuL a F ∨ 0 < cuE a env ∨ H a = none) (s : t.sat K H')
    (B : Bnd K H' σ env (fun a => t.co a) (fun a => t.cu a) sl e' σ' env') : Cf K H0 env0 σ' H' F env' := by
  have sE : SatE K H' env' := fun u hu => by
    rcases B.sat u hu with q | q
    · exact sat_ex x (c.satE u q)
    · exact q
  refine ⟨B.rel, satL_ex x c.satF, sE, fun a => ?_, Stp.trans c.stp ⟨fun a o h _ => x a o h, fun a h => Evl.fresh_back x h, fun a => ?_⟩⟩
  · have w := c.wf a
    have b1 := B.co a
    have b2 := B.cu a
    have z := ho a
    simp only at w b1 b2 ⊢
    rw [z] at b1
    by_cases q : 0 < coL a F + coE a env'
    · have nn : H a ≠ none := by
        by_cases q2 : 0 < coL a F
        · exact coL_some F c.satF q2
        · exact coE_some c.satE (by omega)
      have : t.cu a = 0 := by
        rcases Nat.eq_zero_or_pos (t.cu a) with y | y
        · exact y
        · rcases hu a y with y | y | y
          · omega
          · omega
          · exact absurd y nn
      omega
    · omega
  · have b1 := B.co a
    have b2 := B.cu a
    have z := ho a
    simp only at b1 b2 ⊢
    rw [z] at b1
    refine ⟨fun q => .inl (by omega), fun q => ?_⟩
    by_cases q2 : 0 < t.cu a
    · rcases hu a q2 with y | y | y
      · exact .inr (.inl (by omega))
      · exact .inr (.inl (by omega))
      · exact .inr (.inr y)
    · exact .inr (.inl (by omega))
theorem Cf.toNil (c : Cf K H0 env0 σ H F env) : Cf K H0 env0 σ H [] env := c.less c.rel trivial c.satE (fun a => by simp only [coL]; omega) (fun a => by simp only [cuL]; omega)
theorem Cf.dropB (c : Cf K H0 env0 σ H (G ++ F) env) : Cf K H0 env0 σ H G env := c.less c.rel (satL_append.mp c.satF).1 c.satE (fun a => by rw [coL_append]; omega) (fun a => by rw [cuL_append]; omega)
end
section
variable {X : Cx} {m ma mb : PM} {me m1 m2 : EM} {e a b tg iter : Expr} {pos p : Pos} {U P : List Nat} {st : Stmt} {rest body orelse : List Stmt} {mS nS : SM}
theorem ss_expr (h : SE X [] e me) (hs : swapsWith e none pos.line X.env = pure false := by rfl) : SS X P (.Expr e pos) (sDrop me) := PS.weak (ps_expr h hs) fun De σ H ⟨env, o, e', hm, r, s, w, k⟩ => by
  obtain ⟨x, hx, e1⟩ := map_some hm
  cases e1
  exact goE (d := x.1) (e' := x.2) (Cf.start r s w) hx fun t env1 H1 e1 e2 c1 _ => k [] σ env1 H1 e2 c1.toNil (fun _ _ => rfl) rfl
theorem set_pin {σ : L2.St} {i : Nat} {v : Option V} {P : List Nat} (h : i ∉ P) : ∀ j ∈ P, (σ.set i v)[j]? = σ[j]? := fun j hj => by
  rw [List.getElem?_set, if_neg (fun z => h (by rw [z]; exact hj))]
theorem asg_rd {De : Ends} {σ : L2.St} {H : Hp} {i : Nat} (hP : i ∉ P) (h : trS X P (sSet i me) De σ H) : tAsg (trE X.K [] me) (gName i) De σ H := by
  obtain ⟨env, o, e', hm, r, s, w, k⟩ := h
  obtain ⟨x, hx, e1⟩ := map_some hm
  cases e1
  refine goE (d := x.1) (e' := x.2) (Cf.start r s w) hx fun t env1 H1 e1 e2 c1 _ => ?_
  refine k [] (σ.set i (some t.val)) (env1.set i (some t)) H1 (by rw [erE_set, e2, ← e1]; rfl) (c1.less c1.rel.set trivial (c1.satE.set fun u hu => by cases hu; exact c1.satF.1) (fun a => ?_) fun a => ?_) (set_pin hP) rfl
  · have := set_co (env := env1) (j := i) (t := t) (a := a)
    simp only [coL]; omega
  · have := set_cu (env := env1) (j := i) (t := t) (a := a)
    simp only [cuL]; omega
theorem ss_set {x : Str} {pos' : Pos} (i : Nat) (hN : X.N.Nodup) (hP : i ∉ P) (h : SE X [] e me) (hi : X.N[i]? = some x := by rfl) (hx : Loc X.env.scope x := by first | exact .inl rfl | exact .inr rfl) (hs : swapsWith e (some (.Name x pos')) pos.line X.env = pure false := by rfl)
    (hf : X.fn x = true ∨ X.env.scope.names.lookup x = some .local := by first | exact .inl rfl | exact .inr rfl | assumption) : SS X P (.Assign [.Name x pos'] e pos) (sSet i me) :=
  PS.weak (ps_set (i := i) hN hi hx h hs hf) fun De σ H h => asg_rd hP h
theorem ss_setLc {elt : Expr} {ifs : List Expr} {scope : Scope} {own : List (Str × Nat)} {mi : LM} {g : Tg} {mt : BM} {ml : PM} {y : Str} {py spos : Pos} (i : Nat) (hP : i ∉ P) (hc : X.calm = true) (hN : X.N.Nodup) (hi : SI X tg iter mi) (ok : blkC X.N X.env.scope scope own = true)
    (hg : ∀ (s : Shared) (H : Hp) (C : Addr) (cl : List (Str × Addr)) (fp : List Addr), SG (X.blk s H scope (compEnvC scope cl C X.env) fp) tg g) (ht : ∀ (s : Shared) (H : Hp) (C : Addr) (cl : List (Str × Addr)) (fp : List Addr), STs (X.blk s H scope (compEnvC scope cl C X.env) fp) ifs mt)
    (he : ∀ (s : Shared) (H : Hp) (C : Addr) (cl : List (Str × Addr)) (fp : List Addr), SP (X.blk s H scope (compEnvC scope cl C X.env) fp) elt ml) (hsl : ∀ i ∈ g.sl, i ∈ own.map (·.2))
    (hsw : swapsWith (.ListComp elt [⟨tg, iter, ifs, 0⟩] scope pos) (some (.Name y py)) spos.line X.env = pure true) (hy : X.N[i]? = some y := by rfl) (hyl : X.env.scope.names.lookup y = some .local := by rfl) (hs : ∀ x, foldedSetIterable iter X.env x = pure x := by intro _; rfl) :
    SS X P (.Assign [.Name y py] (.ListComp elt [⟨tg, iter, ifs, 0⟩] scope pos) spos) (sSet i (lift (mLc mi g mt ml (own.map (·.2))))) :=
  PS.weak (ps_setLc (own := own) (g := gOf X.K g) (tt := trT X.K mt) (te := trP X.K ml) hc hN hy hyl hsw hi (blkOk_by ok) hg ht he hs) fun De σ H h => by
    have q := asg_rd (X := X) hP h
    obtain ⟨env, d, e', hm, r, s, w, k⟩ := q
    obtain ⟨x, hx, e1⟩ := map_some hm
    cases e1
    exact lc_rd hsl (goP (Cf.start r s w) hx fun t H' e1 x c => k t env H' e1 rfl c fun _ _ => rfl)
theorem ss_ret (h : SE X [] e me) : SS X P (.Return (some e) pos) (sRet me) := PS.weak (ps_ret h) fun De σ H ⟨env, o, e', hm, r, s, w, k⟩ => by
  obtain ⟨x, hx, e1⟩ := map_some hm
  cases e1
  exact goE (d := x.1) (e' := x.2) (Cf.start r s w) hx fun t env1 H1 e1 e2 c1 _ => (k [t] σ env1 H1 e2 c1 (fun _ _ => rfl)).1 t rfl e1
theorem ss_if {c : Expr} {mc : TM} (hc : SET X c mc) (h1 : SSs X P body mS) (h2 : SSs X P orelse nS) : SS X P (.If c body orelse pos) (sIf mc mS nS) := PS.weak (ps_if hc h1 h2) fun De σ H ⟨env, o, e', hm, r, s, w, k⟩ => by
  obtain ⟨x, hx, hm⟩ := bind_some hm
  refine goET (b := x.1) (e' := x.2) (Cf.start r s w) hx fun env1 H1 e1 c1 => ?_
  have fin : ∀ {n : SM}, n x.2 = some (o, e') → trS X P n De σ H1 := fun {n} hn => ⟨env1, o, e', by rw [e1]; exact hn, c1.rel, c1.satE, c1.base, fun F σ2 env2 H2 e2 c2 p2 => k F σ2 env2 H2 e2 (by
    have := c1.step c2
    rw [List.append_nil] at this
    exact this) p2⟩
  cases hb : x.1 with
  | true =>
    rw [hb, if_pos rfl] at hm
    rw [if_pos rfl]
    exact fin hm
  | false =>
    rw [hb, if_neg Bool.false_ne_true] at hm
    rw [if_neg Bool.false_ne_true]
    exact fin hm
@[simp] def sAsg (g : Tg) (m : PM) : SM := fun env => (m env).bind fun d => if d.pure = true then (bD g d env).map fun e' => (.nx, e') else none
def sAug (i : Nat) (f : Int → Int → Int) (m : PM) : SM := fun env => (m env).bind fun y => match env[i]?.join, y with
  | some (.s (.int a)), .s (.int b) => some (.nx, env.set i (some (.s (.int (f a b)))))
  | _, _ => none

def forD (g : Tg) (mb : SM) : List D → SM
  | [], env => some (.nx, env)
  | d :: ds, env => (bD g d env).bind fun e1 => (mb e1).bind fun x => match x.1 with
    | .nx => forD g mb ds x.2
    | .ct => forD g mb ds x.2
    | .bk => some (.nx, x.2)
    | .rt r => some (.rt r, x.2)
@[simp] def sFor (mi : LM) (g : Tg) (mb : SM) : SM := fun env => (mi env).bind fun ds => if pureL ds = true then forD g mb ds env else none
theorem pureL_at : ∀ {ds : List D} {i : Nat} {d : D}, pureL ds = true → ds[i]? = some d → d.pure = true
  | [], _, _, _, h => by simp at h
  | x :: ds, 0, d, hp, h => by
    rw [pureL, Bool.and_eq_true] at hp
    cases h
    exact hp.1
  | x :: ds, i + 1, d, hp, h => by
    rw [pureL, Bool.and_eq_true] at hp
    exact pureL_at hp.2 (by simpa using h)
theorem ss_for {mi : LM} {g : Tg} (hc : X.calm = true) (hp : PassesOwn (model X.prog X.w) X.A X.env X.xe) (hi : SJ X tg iter mi) (hg : SG X tg g) (hb : SSs X P body mS) (hP : ∀ i ∈ g.sl, i ∉ P) (hs : ∀ x, foldedSetIterable iter X.env x = pure x := by intro _; rfl) :
    SS X P (.For tg iter body [] pos) (sFor mi g mS) := PS.weak (ps_for hp hc hi hg hb hs) fun De σ H ⟨env, o, e', hm, r, s, w, k⟩ => by
  obtain ⟨ds, hds, hm⟩ := bind_some hm
  split at hm
  case isFalse => cases hm
  rename_i hpu
  refine ⟨env, ds, hds, r, s, fun J src H1 x1 ss os wk => ?_⟩
  refine ⟨fun i mm σi Hi => i ≤ ds.length ∧ mm = ds.length - i ∧ ∃ envi, forD g mS (ds.drop i) (erE envi) = some (o, e') ∧ Cf X.K H env σi Hi src envi ∧ ∀ j ∈ P, σi[j]? = σ[j]?,
    ⟨ds.length, Nat.zero_le _, rfl, env, hm, Cf.pureL r s w x1 ss os, fun _ _ => rfl⟩, fun i mm σi Hi W => ?_⟩
  obtain ⟨le, ms, envi, hf, c, pi⟩ := W
  by_cases hlt : i < ds.length
  · refine .inr ⟨wk.go i Hi c.satF hlt, fun σ' H' => ∃ m', m' < mm ∧ (i + 1 ≤ ds.length ∧ m' = ds.length - (i + 1) ∧ ∃ envi, forD g mS (ds.drop (i + 1)) (erE envi) = some (o, e') ∧ Cf X.K H env σ' H' src envi ∧ ∀ j ∈ P, σ'[j]? = σ[j]?), fun σ' H' h => h, fun x H3 hy => ?_⟩
    have hd := List.getElem?_eq_getElem hlt
    obtain ⟨t, rfl, et, x3, s3, c3, u3⟩ := wk.yld i Hi x H3 c.satF hy _ hd
    rw [List.drop_eq_getElem_cons hlt, forD] at hf
    obtain ⟨e1, hb1, hf⟩ := bind_some hf
    obtain ⟨y, hb2, hf⟩ := bind_some hf
    rw [← et] at hb1
    have pt : t.er.pure = true := by rw [et]; exact pureL_at hpu hd
    refine g_run g t σi envi e1 _ c.rel s3 hb1 fun σ2 env2 B => ?_
    have c2 : Cf X.K H env σ2 H3 src env2 := Cf.bind c x3 (fun a => pure_co t pt) (fun a q => (u3 a q).elim .inl fun z => .inr (.inr z)) s3 B
    refine ⟨env2, y.1, y.2, by rw [B.er]; exact hb2, c2.rel, c2.satE, c2.base, fun F σ3 env3 H4 e3 c4 p4 => ?_⟩
    have c5 := c2.step c4
    have p5 : ∀ j ∈ P, σ3[j]? = σ[j]? := fun j hj => (p4 j hj).trans ((B.out j fun z => hP j z hj).1.trans (pi j hj))
    obtain ⟨yo, ye⟩ := y
    cases yo with
    | nx =>
      intro hF
      subst hF
      exact ⟨mm - 1, by omega, hlt, by omega, env3, by rw [e3]; exact hf, c5, p5⟩
    | ct =>
      intro hF
      subst hF
      exact ⟨mm - 1, by omega, hlt, by omega, env3, by rw [e3]; exact hf, c5, p5⟩
    | bk =>
      intro hF
      subst hF
      cases hf
      exact k [] σ3 env3 H4 e3 c5.toNil p5 rfl
    | rt d =>
      cases hf
      exact k F σ3 env3 H4 e3 c5.dropB p5
  · have hi3 : ds.length ≤ i := Nat.le_of_not_lt hlt
    refine .inl ⟨wk.stop i Hi c.satF hi3, ?_⟩
    rw [List.drop_eq_nil_of_le hi3, forD] at hf
    cases hf
    exact k [] σi envi Hi rfl c.toNil pi rfl
def whD (mc : TM) (mb : SM) : Nat → SM
  | 0, _ => none
  | n + 1, env => (mc env).bind fun x => if x.1 = true then (mb x.2).bind fun y => match y.1 with
      | .nx => whD mc mb n y.2
      | .ct => whD mc mb n y.2
      | .bk => some (.nx, y.2)
      | .rt r => some (.rt r, y.2)
    else some (.nx, x.2)
theorem ss_while {c : Expr} {mc : TM} (n : Nat) (hp : PassesOwn (model X.prog X.w) X.A X.env X.xe) (hc : SET X c mc) (hb : SSs X P body mS) : SS X P (.While c body [] pos) (whD mc mS n) := PS.weak (ps_while hp hc hb) fun De σ H ⟨env, o, e', hm, r, s, w, k⟩ => by
  refine ⟨fun mm σi Hi => ∃ envi, whD mc mS mm (erE envi) = some (o, e') ∧ Cf X.K H env σi Hi [] envi ∧ ∀ j ∈ P, σi[j]? = σ[j]?, ⟨n, env, hm, Cf.start r s w, fun _ _ => rfl⟩, fun mm σi Hi W => ?_⟩
  obtain ⟨envi, hf, ci, pi⟩ := W
  cases mm with
  | zero => cases hf
  | succ mm =>
    rw [whD] at hf
    obtain ⟨x, hx, hf⟩ := bind_some hf
    refine goET (b := x.1) (e' := x.2) ci hx fun env1 H1 e1 c1 => ?_
    obtain ⟨xb, xe⟩ := x
    cases xb with
    | true =>
      dsimp only at hf ⊢
      rw [if_pos rfl] at hf ⊢
      obtain ⟨y, hy, hf⟩ := bind_some hf
      refine ⟨fun σ' H' => ∃ m', m' < mm + 1 ∧ ∃ envi, whD mc mS m' (erE envi) = some (o, e') ∧ Cf X.K H env σ' H' [] envi ∧ ∀ j ∈ P, σ'[j]? = σ[j]?, fun σ' H' h => h, ?_⟩
      refine ⟨env1, y.1, y.2, by rw [e1]; exact hy, c1.rel, c1.satE, c1.base, fun F σ3 env3 H4 e3 c4 p4 => ?_⟩
      have c5 := c1.step c4
      rw [List.append_nil] at c5
      have p5 : ∀ j ∈ P, σ3[j]? = σ[j]? := fun j hj => (p4 j hj).trans (pi j hj)
      obtain ⟨yo, ye⟩ := y
      cases yo with
      | nx =>
        intro hF
        subst hF
        exact ⟨mm, by omega, env3, by rw [e3]; exact hf, c5, p5⟩
      | ct =>
        intro hF
        subst hF
        exact ⟨mm, by omega, env3, by rw [e3]; exact hf, c5, p5⟩
      | bk =>
        intro hF
        subst hF
        cases hf
        exact k [] σ3 env3 H4 e3 c5 p5 rfl
      | rt d =>
        cases hf
        exact k F σ3 env3 H4 e3 c5 p5
    | false =>
      dsimp only at hf ⊢
      rw [if_neg Bool.false_ne_true] at hf ⊢
      cases hf
      exact k [] σi env1 H1 e1 c1 pi rfl


@[simp] def frzAt (i : Nat) (env : Env) : Env := match env[i]?.join with
  | some d => env.set i (some d.frz)
  | none => env
theorem sss_weakE (h : SSs X P rest mS) {nS : SM} (w : ∀ (De : Ends) σ H, trS X P nS De σ H → trS X P mS De σ H) : SSs X P rest nS := PSs.weak h fun De σ H z => w De σ H z
theorem sss_frz (i : Nat) (h : SSs X P rest mS) : SSs X P rest (fun env => mS (frzAt i env)) := sss_weakE h fun De σ H ⟨env, o, e', hm, r, s, w, k⟩ => by
  unfold frzAt at hm
  dsimp only at hm
  split at hm
  · rename_i d hd
    obtain ⟨t, h1, h2⟩ := join_get hd
    have h1' : env[i]? = some (some t) := h1
    have l1 : ∀ a, coE a (env.set i (some t.frz)) + t.co a = coE a env := fun a => by
      have := coE_set (a := a) (some t.frz) h1'
      simp only [oT, frz_co] at this
      omega
    have l2 : ∀ a, cuE a (env.set i (some t.frz)) = t.co a + cuE a env := fun a => by
      have := cuE_set (a := a) (some t.frz) h1'
      simp only [oT, frz_cu] at this
      omega
    have l3 : ∀ a, t.co a ≤ coE a env := fun a => coE_get h1'
    refine ⟨env.set i (some t.frz), o, e', ?_, r.swap h1' (frz_val t), s.set fun u hu => by cases hu; exact frz_sat t (s.get h1'), fun a => ?_, fun F σ' env' H' e1 c1 p1 => ?_⟩
    · rw [erE_set]
      show mS ((erE env).set i (some t.frz.er)) = _
      rw [frz_er, h2]
      exact hm
    · have := w a
      have := l1 a
      have := l2 a
      have := l3 a
      simp only [coL, cuL, Nat.zero_add] at *
      omega
    · refine k F σ' env' H' e1 ⟨c1.rel, c1.satF, c1.satE, c1.wf, ?_⟩ p1
      refine Stp.trans (H1 := H) (c1 := fun a => coL a [] + coE a (env.set i (some t.frz))) (u1 := fun a => cuL a [] + cuE a (env.set i (some t.frz))) ⟨fun a o h _ => h, fun a h => h, fun a => ?_⟩ c1.stp
      have := l1 a
      have := l2 a
      have := l3 a
      simp only [coL, cuL, Nat.zero_add]
      exact ⟨fun q => .inl (by omega), fun q => if z : 0 < t.co a then .inl (by omega) else .inr (.inl (by omega))⟩
  · exact ⟨env, o, e', hm, r, s, w, k⟩
end
end Ow

namespace Ow
open PySem L2


@[simp] def initD (n : Nat) (ds : List D) : Env := ds.map some ++ List.replicate (n - ds.length) none
@[simp] def runP (n : Nat) (mS : SM) : FM := fun ds => (mS (initD n ds)).bind fun x => match x.1 with
  | .rt d => if d.isx = true then none else some d
  | .nx => some (.s .non)
  | _ => none
theorem start_eq {N : List Str} {vs : List V} (h : vs.length ≤ N.length) : L2.start N vs = vs.map some ++ List.replicate (N.length - vs.length) none := by
  unfold L2.start
  rfl
section
variable {K : PySem.W.Frag} {H H' : Hp} {a : Addr}
def initT (n : Nat) (ts : List T) : TEnv := ts.map some ++ List.replicate (n - ts.length) none
theorem init_er (n : Nat) (ts : List T) : erE (initT n ts) = initD n (erL ts) := by
  rw [erE, initT, initD, List.map_append, List.map_replicate, erL_length, erL_map, List.map_map, List.map_map]
  rfl
theorem init_co (n : Nat) (ts : List T) : coE a (initT n ts) = coL a ts := by
  rw [initT]
  induction ts with
  | nil =>
    rw [List.map_nil, List.nil_append, coL]
    generalize n - ([] : List T).length = k
    induction k with
    | zero => rfl
    | succ k ih => rw [List.replicate_succ, coE, ih]; rfl
  | cons t ts ih =>
    have : ∀ k, coE a (ts.map some ++ List.replicate k none) = coL a ts := fun k => by
      clear ih
      induction ts with
      | nil =>
        rw [List.map_nil, List.nil_append, coL]
        induction k with
        | zero => rfl
        | succ k ih => rw [List.replicate_succ, coE, ih]; rfl
      | cons u us ih2 => rw [List.map_cons, List.cons_append, coE, coL, ih2]; rfl
    rw [List.map_cons, List.cons_append, coE, coL, this]; rfl
theorem init_cu (n : Nat) (ts : List T) : cuE a (initT n ts) = cuL a ts := by
  have : ∀ k, cuE a (ts.map some ++ List.replicate k none) = cuL a ts := fun k => by
    induction ts with
    | nil =>
      rw [List.map_nil, List.nil_append, cuL]
      induction k with
      | zero => rfl
      | succ k ih => rw [List.replicate_succ, cuE, ih]; rfl
    | cons u us ih2 => rw [List.map_cons, List.cons_append, cuE, cuL, ih2]; rfl
  rw [initT, this]
theorem init_sat {n : Nat} {ts : List T} (h : satL K H ts) : SatE K H (initT n ts) := fun t ht => by
  rcases List.mem_append.mp ht with q | q
  · obtain ⟨u, hu, e⟩ := List.mem_map.mp q
    cases e
    exact satL_iff.mp h _ hu
  · exact absurd (List.eq_of_mem_replicate q) (by simp)
theorem init_rel {N : List Str} {ts : List T} (h : ts.length ≤ N.length) : Rel (L2.start N (vals ts)) (initT N.length ts) := by
  rw [start_eq (by rw [List.length_map]; exact h), initT]
  refine ⟨by simp, fun i t ht => ?_⟩
  by_cases q : i < ts.length
  · rw [List.getElem?_append_left (by rw [List.length_map]; exact q), List.getElem?_map] at ht
    rw [List.getElem?_append_left (by rw [List.length_map, List.length_map]; exact q), List.getElem?_map, List.getElem?_map]
    obtain ⟨u, hu, e⟩ := map_some ht
    cases e
    rw [hu]; rfl
  · rw [List.getElem?_append_right (by rw [List.length_map]; omega)] at ht
    exact absurd (List.eq_of_mem_replicate (List.mem_of_getElem? ht)) (by simp)
end
section
variable {P : Program} {w : World} {K : PySem.W.Frag} {mg : Str → Option Value} {base : Heap}
theorem fn_pure {x qual : Str} {st : Stmt} {f : Addr} {fd : FuncData} {N ps : List Str} {k : Nat} {mS : SM} (F : Fun K x qual st f fd) (S : FnScope N ps (defScope st)) (hl : ps.length ≤ N.length)
    (hbody : ∀ (cdv : Value) (A : Around) (outer : List PySem.Env) (s : Shared) (H : Hp) (E : XK), Room k (A.deeper (PyProof.Rows.envOfC qual (defScope st) s.heap.objs.size f cdv)) → SSs (cxOf CX0 P w K mg base N qual (defScope st) f cdv A outer s H E).nox [] (defBody st) mS) :
    FnOk P w K mg base CX0 (k + 1) f fd ps (spP K ps.length (runP N.length mS)) := by
  refine F.ok S (fun vs H Q E ⟨ts, d, e1, e2, _⟩ => by rw [e1, List.length_map, e2]) fun cdv A outer s H vs Q E hr ⟨ts, d, e1, e2, s1, hf, kk⟩ => ⟨_, hbody cdv A outer s H E hr, ?_⟩
  subst e1
  obtain ⟨x, hx, hm⟩ := bind_some hf
  rw [← frzL_er] at hx
  have hv : vals ts = vals (frzL ts) := (frzL_vals ts).symm
  have hlen : (frzL ts).length = ts.length := by
    have := congrArg List.length hv
    simpa using this.symm
  rw [hv]
  have nc : ∀ a, coE a (initT N.length (frzL ts)) = 0 := fun a => by rw [init_co, frzL_co]
  refine ⟨initT N.length (frzL ts), x.1, x.2, by rw [init_er]; exact hx, init_rel (by rw [hlen, e2]; exact hl), init_sat (frzL_sat ts s1), fun a => ?_, fun F σ' env' H' e3 c _ => ?_⟩
  · simp only [coL, cuL, Nat.zero_add, nc]
    simp
  · have hx2 : Ex H H' := fun a o h => c.stp.1 a o h (by simp only [coL, nc])
    have fin : ∀ t : T, F = [t] → t.er = d → Q t.val H' := fun t hF et => by
      subst hF
      refine kk t H' et hx2 c.satF.1 fun a => ?_
      have w1 := c.wf a
      have s2 := c.stp.2.2 a
      simp only [coL, cuL, Nat.zero_add, Nat.add_zero, nc, init_cu, frzL_cu] at w1 s2
      refine ⟨by omega, fun q => ?_, fun q => ?_⟩
      · rcases s2.1 (by omega) with z | z
        · exact absurd z (Nat.lt_irrefl _)
        · exact z
      · rcases s2.2 (by omega) with z | z | z
        · exact absurd z (Nat.lt_irrefl _)
        · by_cases q2 : 0 < coL a ts
          · exact .inl q2
          · exact .inr (.inl (by omega))
        · exact .inr (.inr z)
    obtain ⟨xo, xe⟩ := x
    cases xo with
    | nx =>
      intro hF
      cases hm
      subst hF
      exact kk (.s .non) H' rfl hx2 trivial fun a => ⟨⟨Nat.zero_le _, .inl rfl⟩, fun q => absurd q (by simp [T.co]), fun q => absurd q (by simp [T.cu])⟩
    | bk => cases hm
    | ct => cases hm
    | rt d' =>
      dsimp only at hm
      split at hm
      case isTrue => cases hm
      rename_i hx3
      cases hm
      exact ⟨fin, fun n C hC _ _ => by subst hC; exact absurd rfl hx3⟩
end
end Ow

namespace Ow
open PySem L2


@[simp] def pickD : List Nat → Env → Option (List D)
  | [], _ => some []
  | i :: is, env => (env[i]?.join).bind fun d => (pickD is (env.set i none)).map (d :: ·)
@[simp] def runM (n : Nat) (mu : List Nat) (mS : SM) : List D → Option (D × List D) := fun ds => (mS (initD n ds)).bind fun x => match x.1 with
  | .rt d => if d.isx = true then none else (pickD mu x.2).map fun os => (d, os)
  | .nx => (pickD mu x.2).map fun os => (.s .non, os)
  | _ => none
abbrev FMu := List D → Option (D × List D)
def spM (K : PySem.W.Frag) (n : Nat) (mu : List Nat) (f : FMu) : Sp := fun vs H Q _ => ∃ ts d os, vs = vals ts ∧ ts.length = n ∧ satL K H ts ∧ Wf (fun a => coL a ts) (fun a => cuL a ts) ∧ f (erL ts) = some (d, os) ∧
  ∀ (t : T) (us : List T) H', t.er = d → erL us = os → (∀ j i : Nat, mu[j]? = some i → ∀ v, vs[i]? = some v → (vals us)[j]? = some v) → t.sat K H' → satL K H' us → Wf (fun a => t.co a + coL a us) (fun a => t.cu a + cuL a us) →
    Stp H (fun a => coL a ts) (fun a => cuL a ts) H' (fun a => t.co a + coL a us) (fun a => t.cu a + cuL a us) → Q t.val H'
section
variable {K : PySem.W.Frag} {H H' : Hp}
theorem pick_run : ∀ {mu : List Nat} {env : TEnv} {os : List D}, SatE K H env → pickD mu (erE env) = some os →
    ∃ us, erL us = os ∧ satL K H us ∧ (∀ a, coL a us ≤ coE a env) ∧ (∀ a, cuL a us ≤ cuE a env) ∧ ∀ j i : Nat, mu[j]? = some i → ∃ t, us[j]? = some t ∧ env[i]? = some (some t)
  | [], env, os, s, h => by
    rw [pickD] at h
    cases h
    exact ⟨[], rfl, trivial, fun a => Nat.zero_le _, fun a => Nat.zero_le _, fun j i hj => by simp at hj⟩
  | i :: is, env, os, s, h => by
    rw [pickD] at h
    obtain ⟨d, h1, h⟩ := bind_some h
    obtain ⟨os', h2, rfl⟩ := map_some h
    obtain ⟨t, e1, e2⟩ := join_get h1
    rw [show (erE env).set i none = erE (env.set i none) from (erE_set (o := none)).symm] at h2
    obtain ⟨us, g1, g2, g3, g4, g5⟩ := pick_run (mu := is) (s.set fun u hu => by cases hu) h2
    refine ⟨t :: us, by rw [erL, e2, g1], ⟨s.get e1, g2⟩, fun a => ?_, fun a => ?_, fun j k hj => ?_⟩
    · have := coE_set (a := a) none e1
      have := g3 a
      simp only [oT] at *
      rw [coL]; omega
    · have := cuE_set (a := a) none e1
      have := g4 a
      simp only [oT] at *
      rw [cuL]; omega
    · cases j with
      | zero =>
        simp at hj
        subst hj
        exact ⟨t, rfl, e1⟩
      | succ j =>
        simp at hj
        obtain ⟨u, hu, hk⟩ := g5 j k hj
        refine ⟨u, by simpa using hu, ?_⟩
        rw [List.getElem?_set] at hk
        split at hk
        · split at hk <;> cases hk
        · exact hk
end
section
variable {P : Program} {w : World} {K : PySem.W.Frag} {mg : Str → Option Value} {base : Heap}
theorem fn_mut {x qual : Str} {st : Stmt} {f : Addr} {fd : FuncData} {N ps : List Str} {k : Nat} {mS : SM} {mu : List Nat} (F : Fun K x qual st f fd) (S : FnScope N ps (defScope st)) (hl : ps.length ≤ N.length) (hmu : ∀ i ∈ mu, i < ps.length)
    (hbody : ∀ (cdv : Value) (A : Around) (outer : List PySem.Env) (s : Shared) (H : Hp) (E : XK), Room k (A.deeper (PyProof.Rows.envOfC qual (defScope st) s.heap.objs.size f cdv)) → SSs (cxOf CX0 P w K mg base N qual (defScope st) f cdv A outer s H E).nox mu (defBody st) mS) :
    FnOk P w K mg base CX0 (k + 1) f fd ps (spM K ps.length mu (runM N.length mu mS)) := by
  refine F.ok S (fun vs H Q E ⟨ts, d, os, e1, e2, _⟩ => by rw [e1, List.length_map, e2]) fun cdv A outer s H vs Q E hr ⟨ts, d, os, e1, e2, s1, wf, hf, kk⟩ => ⟨_, hbody cdv A outer s H E hr, ?_⟩
  subst e1
  obtain ⟨x, hx, hm⟩ := bind_some hf
  have r0 : Rel (L2.start N (vals ts)) (initT N.length ts) := init_rel (by rw [e2]; exact hl)
  refine ⟨initT N.length ts, x.1, x.2, by rw [init_er]; exact hx, r0, init_sat s1, fun a => ?_, fun F σ' env' H' e3 c p => ?_⟩
  · have := wf a
    simp only [coL, cuL, Nat.zero_add, init_co, init_cu] at this ⊢
    exact this
  · have fin : ∀ (t : T) (F' : List T) (os' : List D), (∀ a, t.co a + coE a env' ≤ coL a F + coE a env') → (∀ a, t.cu a + cuE a env' ≤ cuL a F + cuE a env') → t.sat K H' → t.er = d → pickD mu x.2 = some os' → os' = os → Q t.val H' := fun t F' os' n1 n2 st et ho eo => by
      subst eo
      rw [← e3] at ho
      obtain ⟨us, g1, g2, g3, g4, g5⟩ := pick_run c.satE ho
      have c2 := c.less (F' := t :: us) (env' := []) (σ' := []) ⟨rfl, fun i t h => by simp at h⟩ ⟨st, g2⟩ (fun u hu => by cases hu) (fun a => by have := n1 a; have := g3 a; simp only [coL, coE]; omega) (fun a => by have := n2 a; have := g4 a; simp only [cuL, cuE]; omega)
      refine kk t us H' et g1 (fun j i hj v hv => ?_) st g2 (fun a => ?_) ?_
      · obtain ⟨u, hu, hi⟩ := g5 j i hj
        have q := c.rel.2 i u hi
        rw [p i (List.mem_of_getElem? hj)] at q
        have hi2 := hmu i (List.mem_of_getElem? hj)
        rw [vals, List.getElem?_map] at hv
        obtain ⟨tv, htv, rfl⟩ := map_some hv
        have q0 := r0.2 i tv (by rw [initT, List.getElem?_append_left (by rw [List.length_map, e2]; exact hi2), List.getElem?_map, htv]; rfl)
        rw [q0] at q
        have q1 : tv.val = u.val := Option.some.inj (Option.some.inj q)
        rw [vals, List.getElem?_map, hu, q1]; rfl
      · have := c2.wf a
        simp only [coL, cuL, coE, cuE, Nat.add_zero] at this
        exact this
      · have := c2.stp
        simp only [StpF, coL, cuL, coE, cuE, Nat.add_zero, Nat.zero_add, init_co, init_cu] at this
        exact this
    obtain ⟨xo, xe⟩ := x
    cases xo with
    | nx =>
      intro hF
      obtain ⟨os', ho, e4⟩ := map_some hm
      cases e4
      exact fin (.s .non) [] os (fun a => by simp [T.co]) (fun a => by simp [T.cu]) trivial rfl ho rfl
    | bk => cases hm
    | ct => cases hm
    | rt d' =>
      dsimp only at hm
      split at hm
      case isTrue => cases hm
      rename_i hx3
      obtain ⟨os', ho, e4⟩ := map_some hm
      cases e4
      refine ⟨fun t hF et => ?_, fun n C hC _ _ => by subst hC; exact absurd rfl hx3⟩
      subst hF
      exact fin t [] os (fun a => by simp only [coL]; omega) (fun a => by simp only [cuL]; omega) c.satF.1 et ho rfl
end


inductive As where
  | ev (m : EM)
  | tm (m : EM)
  | bor (i : Nat)
  | mv (i : Nat)
@[simp] def evA : List As → Env → Option (List D × Env)
  | [], env => some ([], env)
  | .ev m :: r, env => (m env).bind fun x => (evA r x.2).map fun y => (x.1 :: y.1, y.2)
  | .tm m :: r, env => (m env).bind fun x => (evA r x.2).map fun y => (x.1 :: y.1, y.2)
  | .bor _ :: r, env => evA r env
  | .mv _ :: r, env => evA r env
@[simp] def insA : List As → List D → Env → Option (List D × Env)
  | [], _, env => some ([], env)
  | .ev _ :: r, d :: ds, env => (insA r ds env).map fun y => (d.frz :: y.1, y.2)
  | .ev _ :: _, [], _ => none
  | .tm _ :: r, d :: ds, env => (insA r ds env).map fun y => (d :: y.1, y.2)
  | .tm _ :: _, [], _ => none
  | .bor i :: r, ds, env => (env[i]?.join).bind fun d => (insA r ds env).map fun y => (d.frz :: y.1, y.2)
  | .mv i :: r, ds, env => (env[i]?.join).bind fun d => (insA r ds (env.set i none)).map fun y => (d :: y.1, y.2)
@[simp] def putA : List As → List D → Env → Option Env
  | [], [], env => some env
  | .mv i :: r, o :: os, env => putA r os (env.set i (some o))
  | .tm _ :: r, _ :: os, env => putA r os env
  | .ev _ :: r, os, env => putA r os env
  | .bor _ :: r, os, env => putA r os env
  | _, _, _ => none
@[simp] def muS : List As → List Nat
  | [] => []
  | .mv i :: r => i :: muS r
  | .ev _ :: r => muS r
  | .tm _ :: r => muS r
  | .bor _ :: r => muS r
@[simp] def boS : List As → List Nat
  | [] => []
  | .bor i :: r => i :: boS r
  | .ev _ :: r => boS r
  | .tm _ :: r => boS r
  | .mv _ :: r => boS r
def muP : Nat → List As → List Nat
  | _, [] => []
  | n, .mv _ :: r => n :: muP (n + 1) r
  | n, .ev _ :: r => muP (n + 1) r
  | n, .tm _ :: r => n :: muP (n + 1) r
  | n, .bor _ :: r => muP (n + 1) r
@[simp] def eCallM (f : FMu) (as : List As) : EM := fun env => if ((muS as ++ boS as).all fun i => (env[i]?.join).isSome) = false then none else (evA as env).bind fun x => (insA as x.1 x.2).bind fun y => (f y.1).bind fun z => if (z.1.noF && noFL z.2) = true then (putA as z.2 y.2).map fun e => (z.1, e) else none
def ArgV (σ : L2.St) : List As → List T → List V → Prop
  | [], F, vs => F = [] ∧ vs = []
  | .ev _ :: r, t :: F, vs => ∃ vs', vs = t.val :: vs' ∧ ArgV σ r F vs'
  | .ev _ :: _, [], _ => False
  | .tm _ :: r, t :: F, vs => ∃ vs', vs = t.val :: vs' ∧ ArgV σ r F vs'
  | .tm _ :: _, [], _ => False
  | .bor i :: r, F, vs => ∃ v vs', vs = v :: vs' ∧ σ[i]? = some (some v) ∧ ArgV σ r F vs'
  | .mv i :: r, F, vs => ∃ v vs', vs = v :: vs' ∧ σ[i]? = some (some v) ∧ ArgV σ r F vs'
def trEA (K : PySem.W.Frag) (U : List Nat) (as : List As) : TA := fun σ H Q => ∃ env ds e', evA as (erE env) = some (ds, e') ∧ Rel σ env ∧ SatE K H env ∧ WfF [] env ∧ (∀ i ∈ muS as ++ boS as, ∃ v, σ[i]? = some (some v)) ∧
  ∀ F env' H' vs, erL F = ds → erE env' = e' → Cf K H env σ H' F env' → (∀ i ∈ U, env'[i]? = env[i]?) → ArgV σ as F vs → Q vs H'
def SEA (X : Cx) (U : List Nat) (es : List Expr) (as : List As) : Prop := PA X es (trEA X.K U as)
section
variable {X : Cx} {e : Expr} {es : List Expr} {pos p : Pos} {U : List Nat} {as : List As}
theorem sea_nil : SEA X U [] [] := PA.weak pa_nil fun σ H Q ⟨env, ds, e', hm, r, s, w, hv, k⟩ => by
  cases hm
  exact k [] env H [] rfl rfl (Cf.start r s w) (fun _ _ => rfl) ⟨rfl, rfl⟩
theorem sea_ev {m : EM} (h : SE X U e m) (hr : SEA X U es as) (hs : starEach (e :: es) X.env = (false, eval e X.env) :: starEach es X.env := by rfl) : SEA X U (e :: es) (.ev m :: as) := PA.weak (pa_cons h hr hs) fun σ H Q ⟨env, ds, e', hm, r, s, w, hv, k⟩ => by
  rw [evA] at hm
  obtain ⟨x, hx, hm⟩ := bind_some hm
  obtain ⟨y, hy, e1⟩ := map_some hm
  cases e1
  refine goE (d := x.1) (e' := x.2) (Cf.start r s w) hx fun t env1 H1 e1 e2 c1 u1 => ?_
  refine ⟨env1, y.1, y.2, by rw [e2]; exact hy, c1.rel, c1.satE, c1.base, hv, fun F env2 H2 vs e3 e4 c2 u2 av => ?_⟩
  have c3 := c1.step c2
  have c4 : Cf X.K H env σ H2 (t :: F) env2 := c3.less c3.rel ⟨(satL_append.mp c3.satF).2.1, (satL_append.mp c3.satF).1⟩ c3.satE (fun a => by simp only [coL_append, coL]; omega) (fun a => by simp only [cuL_append, cuL]; omega)
  exact k (t :: F) env2 H2 (t.val :: vs) (by rw [erL, e1, e3]) e4 c4 (fun i hi => (u2 i hi).trans (u1 i hi)) ⟨vs, rfl, av⟩
theorem sea_nm {x : Str} {i : Nat} {mk : Nat → As} (hmk : mk = .bor ∨ mk = .mv) (hr : SEA X U es as) (hN : X.N[i]? = some x := by rfl) (hv : Vis X.env.scope x := by first | exact .inl rfl | exact .inr (.inl rfl) | exact .inr (.inr rfl))
    (hd : (x == ("__debug__" : Str)) = false := by decide) (hcd : (x == ("__classdict__" : Str)) = false := by decide) (hs : starEach (.Name x p :: es) X.env = (false, eval (.Name x p) X.env) :: starEach es X.env := by rfl) : SEA X U (.Name x p :: es) (mk i :: as) :=
  PA.weak (pa_cons (pe_var (i := i) hN hv hd hcd) hr hs) fun σ H Q ⟨env, ds, e', hm, r, s, w, hv, k⟩ => by
    have hm2 : evA as (erE env) = some (ds, e') := by
      rcases hmk with q | q <;> (subst q; rw [evA] at hm; exact hm)
    have hin : i ∈ muS (mk i :: as) ++ boS (mk i :: as) := by
      rcases hmk with q | q <;> (subst q; simp [muS, boS])
    obtain ⟨v, hvi⟩ := hv i hin
    refine ⟨v, hvi, env, ds, e', hm2, r, s, w, fun j hj => hv j ?_, fun F env' H' vs e1 e2 c u av => k F env' H' (v :: vs) e1 e2 c u ?_⟩
    · rcases hmk with q | q <;> (subst q; simp [muS, boS] at hj ⊢; rcases hj with h | h <;> simp [h])
    · rcases hmk with q | q <;> (subst q; exact ⟨v, vs, rfl, hvi, av⟩)
theorem sea_bor {x : Str} (i : Nat) (hr : SEA X U es as) (hN : X.N[i]? = some x := by rfl) (hv : Vis X.env.scope x := by first | exact .inl rfl | exact .inr (.inl rfl) | exact .inr (.inr rfl))
    (hd : (x == ("__debug__" : Str)) = false := by decide) (hcd : (x == ("__classdict__" : Str)) = false := by decide) (hs : starEach (.Name x p :: es) X.env = (false, eval (.Name x p) X.env) :: starEach es X.env := by rfl) : SEA X U (.Name x p :: es) (.bor i :: as) := sea_nm (.inl rfl) hr hN hv hd hcd hs
theorem sea_mut {x : Str} (i : Nat) (hr : SEA X U es as) (hN : X.N[i]? = some x := by rfl) (hv : Vis X.env.scope x := by first | exact .inl rfl | exact .inr (.inl rfl) | exact .inr (.inr rfl))
    (hd : (x == ("__debug__" : Str)) = false := by decide) (hcd : (x == ("__classdict__" : Str)) = false := by decide) (hs : starEach (.Name x p :: es) X.env = (false, eval (.Name x p) X.env) :: starEach es X.env := by rfl) : SEA X U (.Name x p :: es) (.mv i :: as) := sea_nm (.inr rfl) hr hN hv hd hcd hs
end
structure Ins (K : PySem.W.Frag) (σ : L2.St) (H : Hp) (as : List As) (vs : List V) (F : List T) (env : TEnv) (ins : List T) (envR : TEnv) (is : List D) (eR : Env) (evc : Addr → Nat) : Prop where
  er : erL ins = is
  erR : erE envR = eR
  rel : Rel σ envR
  vl : vals ins = vs
  sat : satL K H ins
  satR : SatE K H envR
  co : ∀ a, coL a ins + coE a envR + evc a = coE a env + coL a F
  cuR : ∀ a, cuE a envR ≤ cuE a env
  cu : ∀ a, 0 < cuL a ins → 0 < evc a ∨ 0 < cuL a F ∨ 0 < cuE a env ∨ ∃ j ∈ boS as, ∃ t : T, env[j]? = some (some t) ∧ 0 < t.co a
  out : ∀ i, i ∉ muS as → envR[i]? = env[i]?
  len : envR.length = env.length
section
variable {K : PySem.W.Frag} {H : Hp} {σ : L2.St}
theorem ins_run : ∀ {as : List As} {vs : List V} {F : List T} {env : TEnv} {is : List D} {eR : Env}, Rel σ env → satL K H F → SatE K H env → ArgV σ as F vs → insA as (erL F) (erE env) = some (is, eR) → ∃ ins envR evc, Ins K σ H as vs F env ins envR is eR evc
  | [], vs, F, env, is, eR, r, sF, s, av, h => by
    obtain ⟨rfl, rfl⟩ := av
    rw [insA] at h
    cases h
    exact ⟨[], env, fun _ => 0, rfl, rfl, r, rfl, trivial, s, fun a => by rw [coL]; omega, fun a => Nat.le_refl _, fun a h => absurd h (by rw [cuL]; omega), fun _ _ => rfl, rfl⟩
  | .ev m :: as, vs, [], env, is, eR, r, sF, s, av, h => by cases av
  | .tm m :: as, vs, [], env, is, eR, r, sF, s, av, h => by cases av
  | .ev m :: as, vs, t :: F, env, is, eR, r, sF, s, av, h => by
    obtain ⟨vs', rfl, av⟩ := av
    rw [erL, insA] at h
    obtain ⟨y, hy, e1⟩ := map_some h
    cases e1
    obtain ⟨ins, envR, evc, I⟩ := ins_run r sF.2 s av hy
    refine ⟨t.frz :: ins, envR, fun a => t.co a + evc a, by rw [erL, frz_er, I.er], I.erR, I.rel, by rw [vals, List.map_cons, frz_val]; exact congrArg _ I.vl, ⟨frz_sat t sF.1, I.sat⟩, I.satR, fun a => by have := I.co a; rw [coL, frz_co, coL]; omega, I.cuR, fun a h => ?_, I.out, I.len⟩
    rw [cuL, frz_cu] at h
    rw [cuL]
    by_cases q : 0 < cuL a ins
    · rcases I.cu a q with z | z | z | z
      · exact .inl (by omega)
      · exact .inr (.inl (by omega))
      · exact .inr (.inr (.inl z))
      · exact .inr (.inr (.inr z))
    · by_cases q2 : 0 < t.co a
      · exact .inl (by omega)
      · exact .inr (.inl (by omega))
  | .tm m :: as, vs, t :: F, env, is, eR, r, sF, s, av, h => by
    obtain ⟨vs', rfl, av⟩ := av
    rw [erL, insA] at h
    obtain ⟨y, hy, e1⟩ := map_some h
    cases e1
    obtain ⟨ins, envR, evc, I⟩ := ins_run r sF.2 s av hy
    refine ⟨t :: ins, envR, evc, by rw [erL, I.er], I.erR, I.rel, by rw [vals, List.map_cons]; exact congrArg _ I.vl, ⟨sF.1, I.sat⟩, I.satR, fun a => by have := I.co a; rw [coL, coL]; omega, I.cuR, fun a h => ?_, I.out, I.len⟩
    rw [cuL] at h
    rw [cuL]
    by_cases q : 0 < cuL a ins
    · rcases I.cu a q with z | z | z | z
      · exact .inl z
      · exact .inr (.inl (by omega))
      · exact .inr (.inr (.inl z))
      · exact .inr (.inr (.inr z))
    · exact .inr (.inl (by omega))
  | .bor i :: as, vs, F, env, is, eR, r, sF, s, av, h => by
    obtain ⟨v, vs', rfl, hv, av⟩ := av
    rw [insA] at h
    obtain ⟨d, hd, h⟩ := bind_some h
    obtain ⟨y, hy, e1⟩ := map_some h
    cases e1
    obtain ⟨t, h1, rfl⟩ := join_get hd
    obtain ⟨ins, envR, evc, I⟩ := ins_run r sF s av hy
    have hval : t.val = v := by
      have := r.2 i t h1
      rw [hv] at this
      exact (Option.some.inj (Option.some.inj this)).symm
    refine ⟨t.frz :: ins, envR, evc, by rw [erL, frz_er, I.er], I.erR, I.rel, by rw [vals, List.map_cons, frz_val, hval]; exact congrArg _ I.vl, ⟨frz_sat t (s.get h1), I.sat⟩, I.satR, fun a => by have := I.co a; rw [coL, frz_co]; omega, I.cuR, fun a h => ?_, I.out, I.len⟩
    rw [cuL, frz_cu] at h
    by_cases q : 0 < cuL a ins
    · rcases I.cu a q with z | z | z | ⟨j, hj, z⟩
      · exact .inl z
      · exact .inr (.inl z)
      · exact .inr (.inr (.inl z))
      · exact .inr (.inr (.inr ⟨j, by rw [boS]; exact List.mem_cons_of_mem _ hj, z⟩))
    · by_cases q2 : 0 < t.co a
      · exact .inr (.inr (.inr ⟨i, by rw [boS]; exact List.mem_cons_self .., t, h1, q2⟩))
      · have := cuE_get (a := a) h1
        exact .inr (.inr (.inl (by omega)))
  | .mv i :: as, vs, F, env, is, eR, r, sF, s, av, h => by
    obtain ⟨v, vs', rfl, hv, av⟩ := av
    rw [insA] at h
    obtain ⟨d, hd, h⟩ := bind_some h
    obtain ⟨y, hy, e1⟩ := map_some h
    cases e1
    obtain ⟨t, h1, rfl⟩ := join_get hd
    rw [show (erE env).set i none = erE (env.set i none) from (erE_set (o := none)).symm] at hy
    obtain ⟨ins, envR, evc, I⟩ := ins_run r.drop sF (s.set fun u hu => by cases hu) av hy
    have hval : t.val = v := by
      have := r.2 i t h1
      rw [hv] at this
      exact (Option.some.inj (Option.some.inj this)).symm
    have l1 : ∀ a, coE a (env.set i none) + t.co a = coE a env := fun a => by
      have := coE_set (a := a) none h1
      simp only [oT] at this; omega
    have l2 : ∀ a, cuE a (env.set i none) + t.cu a = cuE a env := fun a => by
      have := cuE_set (a := a) none h1
      simp only [oT] at this; omega
    refine ⟨t :: ins, envR, evc, by rw [erL, I.er], I.erR, I.rel, by rw [vals, List.map_cons, hval]; exact congrArg _ I.vl, ⟨s.get h1, I.sat⟩, I.satR, fun a => ?_, fun a => ?_, fun a h => ?_, fun j hj => ?_, I.len.trans List.length_set⟩
    · have := I.co a
      have := l1 a
      rw [coL]; omega
    · have := I.cuR a
      have := l2 a
      omega
    · rw [cuL] at h
      have := l2 a
      by_cases q : 0 < cuL a ins
      · rcases I.cu a q with z | z | z | ⟨j, hj, u, hu, z⟩
        · exact .inl z
        · exact .inr (.inl z)
        · exact .inr (.inr (.inl (by omega)))
        · refine .inr (.inr (.inr ⟨j, by rw [boS]; exact hj, u, ?_, z⟩))
          rw [List.getElem?_set] at hu
          split at hu
          · split at hu <;> cases hu
          · exact hu
      · exact .inr (.inr (.inl (by omega)))
    · rw [muS] at hj
      rw [I.out j fun z => hj (List.mem_cons_of_mem _ z), List.getElem?_set, if_neg (fun z => hj (by rw [z]; exact List.mem_cons_self ..))]
def muO : List As → List (Option Nat)
  | [] => []
  | .mv i :: r => some i :: muO r
  | .tm _ :: r => none :: muO r
  | .ev _ :: r => muO r
  | .bor _ :: r => muO r
theorem put_run : ∀ (as : List As) {us : List T} {env : TEnv} {e2 : Env}, Rel σ env → SatE K H env → satL K H us → putA as (erL us) (erE env) = some e2 → (∀ (j i : Nat), (muO as)[j]? = some (some i) → ∀ t, us[j]? = some t → σ[i]? = some (some t.val)) →
    ∃ env2, erE env2 = e2 ∧ Rel σ env2 ∧ SatE K H env2 ∧ (∀ a, coE a env2 ≤ coL a us + coE a env) ∧ (∀ a, cuE a env2 ≤ cuL a us + cuE a env) ∧ ∀ i, i ∉ muS as → env2[i]? = env[i]?
  | [], [], env, e2, r, s, su, h, hv => by
    rw [erL, putA] at h
    cases h
    exact ⟨env, rfl, r, s, fun a => by rw [coL]; omega, fun a => by rw [cuL]; omega, fun _ _ => rfl⟩
  | [], u :: us, env, e2, r, s, su, h, hv => by simp [erL, putA] at h
  | .ev m :: as, us, env, e2, r, s, su, h, hv => by
    have h' : putA as (erL us) (erE env) = some e2 := by
      cases us <;> simpa [putA] using h
    exact put_run as r s su h' hv
  | .bor i :: as, us, env, e2, r, s, su, h, hv => by
    have h' : putA as (erL us) (erE env) = some e2 := by
      cases us <;> simpa [putA] using h
    exact put_run as r s su h' hv
  | .tm m :: as, [], env, e2, r, s, su, h, hv => by simp [erL, putA] at h
  | .tm m :: as, u :: us, env, e2, r, s, su, h, hv => by
    rw [erL, putA] at h
    obtain ⟨env2, g1, g2, g3, g4, g5, g6⟩ := put_run as r s su.2 h fun j k hj t ht => hv (j + 1) k (by rw [muO]; simpa using hj) t (by simpa using ht)
    exact ⟨env2, g1, g2, g3, fun a => by have := g4 a; rw [coL]; omega, fun a => by have := g5 a; rw [cuL]; omega, fun j hj => g6 j (by rw [muS] at hj; exact hj)⟩
  | .mv i :: as, [], env, e2, r, s, su, h, hv => by simp [erL, putA] at h
  | .mv i :: as, u :: us, env, e2, r, s, su, h, hv => by
    rw [erL, putA, show (erE env).set i (some u.er) = erE (env.set i (some u)) from (erE_set (o := some u)).symm] at h
    have hu : σ[i]? = some (some u.val) := hv 0 i rfl u rfl
    have r1 : Rel σ (env.set i (some u)) := by
      refine ⟨by rw [List.length_set, r.1], fun j x g => ?_⟩
      rw [List.getElem?_set] at g
      by_cases q : i = j
      · subst q
        rw [if_pos rfl] at g
        split at g
        · cases g; exact hu
        · cases g
      · rw [if_neg q] at g
        exact r.2 j x g
    obtain ⟨env2, g1, g2, g3, g4, g5, g6⟩ := put_run as r1 (s.set fun x hx => by cases hx; exact su.1) su.2 h fun j k hj t ht => hv (j + 1) k (by rw [muO]; simpa using hj) t (by simpa using ht)
    refine ⟨env2, g1, g2, g3, fun a => ?_, fun a => ?_, fun j hj => ?_⟩
    · have := g4 a
      have := set_co (env := env) (j := i) (t := u) (a := a)
      rw [coL]; omega
    · have := g5 a
      have := set_cu (env := env) (j := i) (t := u) (a := a)
      rw [cuL]; omega
    · rw [muS] at hj
      rw [g6 j fun z => hj (List.mem_cons_of_mem _ z), List.getElem?_set, if_neg (fun z => hj (by rw [z]; exact List.mem_cons_self ..))]
  termination_by as => as.length
theorem argv_mu : ∀ {as : List As} {F : List T} {vs : List V} {n j i : Nat}, ArgV σ as F vs → (muO as)[j]? = some (some i) → ∃ q v, (muP n as)[j]? = some (n + q) ∧ vs[q]? = some v ∧ σ[i]? = some (some v)
  | [], F, vs, n, j, i, av, h => by simp [muO] at h
  | .ev m :: as, [], vs, n, j, i, av, h => by cases av
  | .tm m :: as, [], vs, n, j, i, av, h => by cases av
  | .ev m :: as, t :: F, vs, n, j, i, av, h => by
    obtain ⟨vs', rfl, av⟩ := av
    rw [muO] at h
    obtain ⟨q, v, h1, h2, h3⟩ := argv_mu (n := n + 1) av h
    exact ⟨q + 1, v, by rw [muP, h1]; congr 1; omega, by simpa using h2, h3⟩
  | .bor k :: as, F, vs, n, j, i, av, h => by
    obtain ⟨v', vs', rfl, hv, av⟩ := av
    rw [muO] at h
    obtain ⟨q, v, h1, h2, h3⟩ := argv_mu (n := n + 1) av h
    exact ⟨q + 1, v, by rw [muP, h1]; congr 1; omega, by simpa using h2, h3⟩
  | .tm m :: as, t :: F, vs, n, j, i, av, h => by
    obtain ⟨vs', rfl, av⟩ := av
    rw [muO] at h
    cases j with
    | zero => simp at h
    | succ j =>
      obtain ⟨q, v, h1, h2, h3⟩ := argv_mu (n := n + 1) av (by simpa using h)
      refine ⟨q + 1, v, ?_, by simpa using h2, h3⟩
      rw [muP, List.getElem?_cons_succ, h1]
      congr 1
      omega
  | .mv k :: as, F, vs, n, j, i, av, h => by
    obtain ⟨v', vs', rfl, hv, av⟩ := av
    rw [muO] at h
    cases j with
    | zero =>
      simp at h
      subst h
      exact ⟨0, v', by rw [muP]; rfl, rfl, hv⟩
    | succ j =>
      obtain ⟨q, v, h1, h2, h3⟩ := argv_mu (n := n + 1) av (by simpa using h)
      refine ⟨q + 1, v, ?_, by simpa using h2, h3⟩
      rw [muP, List.getElem?_cons_succ, h1]
      congr 1
      omega
end
section
variable {X : Cx} {e : Expr} {es : List Expr} {pos p : Pos} {U : List Nat} {as : List As}
theorem se_callM {k n : Nat} {x : Str} {f : Addr} {fd : FuncData} {ps : List Str} {fm : FMu} {mu : List Nat} {CX : CXT} {E : XK} (F : FnOk X.prog X.w X.K X.mg X.base CX k f fd ps (spM X.K n mu fm)) (hr : Room k X.A) (hm : X.mg x = some (.ref f)) (hk : PySem.W.keepIn X.K (.ref f) = true)
    (hb : Binds X.K fd ps []) (hx : Passes CX X E) (hmu : mu = muP 0 as) (hln : as.length = n) (hdis : ∀ i ∈ muS as, i ∉ boS as ∧ i ∉ U) (ha : SEA X U (e :: es) as) (hg : Gl X x := by rfl) (hdb : (x == ("__debug__" : Str)) = false := by decide) (he : starEach (e :: es) X.env = (false, eval e X.env) :: starEach es X.env := by rfl) (hpl : (backTo pos (starEach es X.env)).any (·.1) = false := by rfl) :
    SE X U (.Call (.Name x p) (e :: es) [] pos) (eCallM fm as) := PE.weak (pe_call F hr hg hm hk hb .nil hx ha hdb he hpl) fun σ H Q ⟨env, d, e', hm, r, s, w, k⟩ => by
  unfold eCallM at hm
  split at hm
  case isTrue => cases hm
  rename_i hall
  rw [Bool.not_eq_false, List.all_eq_true] at hall
  obtain ⟨x1, h1, hm⟩ := bind_some hm
  obtain ⟨y, h2, hm⟩ := bind_some hm
  obtain ⟨z, h3, hm⟩ := bind_some hm
  split at hm
  case isFalse => cases hm
  rename_i hno
  rw [Bool.and_eq_true] at hno
  obtain ⟨e2, h4, e5⟩ := map_some hm
  cases e5
  refine ⟨env, x1.1, x1.2, h1, r, s, w, fun i hi => ?_, fun F env1 H1 vs e1 e2' c1 u1 av => ?_⟩
  · have := hall i hi
    rw [Option.isSome_iff_exists] at this
    obtain ⟨d, hd⟩ := this
    obtain ⟨t, ht, _⟩ := join_get hd
    exact ⟨t.val, r.2 i t ht⟩
  rw [← e1, ← e2'] at h2
  obtain ⟨ins, envR, evc, I⟩ := ins_run c1.rel c1.satF c1.satE av h2
  have bo : ∀ a, (∃ j ∈ boS as, ∃ t : T, env1[j]? = some (some t) ∧ 0 < t.co a) → 0 < coE a envR := fun a ⟨j, hj, t, ht, hc⟩ => by
    have hn : j ∉ muS as := fun q => (hdis j q).1 hj
    rw [← I.out j hn] at ht
    exact Nat.lt_of_lt_of_le hc (coE_get ht)
  have cuI : ∀ a, 0 < cuL a ins → 0 < evc a + cuL a F ∨ 0 < cuE a env1 ∨ 0 < coE a envR := fun a h => by
    rcases I.cu a h with q | q | q | q
    · exact .inl (by omega)
    · exact .inl (by omega)
    · exact .inr (.inl q)
    · exact .inr (.inr (bo a q))
  have hlen : vs.length = as.length := by
    have : ∀ {as : List As} {F : List T} {vs : List V}, ArgV σ as F vs → vs.length = as.length := by
      intro as
      induction as with
      | nil => intro F vs av; rw [av.2]; rfl
      | cons x as ih =>
        intro F vs av
        cases x with
        | ev m =>
          cases F with
          | nil => cases av
          | cons t F => obtain ⟨vs', rfl, av⟩ := av; rw [List.length_cons, List.length_cons, ih av]
        | tm m =>
          cases F with
          | nil => cases av
          | cons t F => obtain ⟨vs', rfl, av⟩ := av; rw [List.length_cons, List.length_cons, ih av]
        | bor i => obtain ⟨v, vs', rfl, _, av⟩ := av; rw [List.length_cons, List.length_cons, ih av]
        | mv i => obtain ⟨v, vs', rfl, _, av⟩ := av; rw [List.length_cons, List.length_cons, ih av]
    exact this av
  refine ⟨ins, z.1, z.2, by rw [List.append_nil, I.vl], by rw [← hln, ← hlen, ← I.vl, List.length_map], I.sat, fun a => ?_, by rw [I.er]; exact h3, fun t us H' et eu hv st su wf' stp => ?_⟩
  · have w1 := c1.wf a
    have i1 := I.co a
    have i2 := cuI a
    simp only at w1 ⊢
    by_cases q : 0 < coL a ins
    · by_cases q2 : 0 < cuL a ins
      · rcases i2 q2 with y | y | y <;> omega
      · omega
    · omega
  rw [List.append_nil] at hv
  have keepR : ∀ a o, 0 < coE a envR + cuE a envR → H1 a = some o → H' a = some o := fun a o h ho => stp.1 a o ho (by
    have w1 := c1.wf a
    have i1 := I.co a
    have i2 := I.cuR a
    simp only at w1 ⊢
    omega)
  have sR : SatE X.K H' envR := satE_keep keepR I.satR
  have someR : ∀ a, 0 < coE a envR + cuE a envR → H1 a ≠ none := fun a h => by
    by_cases q : 0 < coE a envR
    · exact coE_some I.satR q
    · exact cuE_some I.satR (by omega)
  rw [← eu, ← I.erR] at h4
  obtain ⟨env2, g1, g2, g3, g4, g5, g6⟩ := put_run as I.rel sR su h4 fun j i hj u hu => by
    obtain ⟨q, v, p1, p2, p3⟩ := argv_mu (n := 0) av hj
    have := hv j (0 + q) (by rw [hmu]; exact p1) v (by rw [Nat.zero_add]; exact p2)
    rw [vals, List.getElem?_map, hu] at this
    rw [p3]
    cases this
    rfl
  rw [← et, ← eu] at hno
  have tupB : ∀ a, 0 < t.cu a + cuL a us → ∃ o, H' a = some o ∧ isTupO o = true := fun a h => by
    by_cases q : 0 < t.cu a
    · exact noF_cu t hno.1 st q
    · exact noFL_cu us hno.2 su (by omega)
  refine k t env2 H' et g1 ⟨g2, ⟨st, trivial⟩, g3, fun a => ?_, Stp.trans c1.stp ⟨fun a o h hc => stp.1 a o h ?_, stp.2.1, fun a => ?_⟩⟩ fun i hi => ?_
  · have w1 := c1.wf a
    have i1 := I.co a
    have i2 := I.cuR a
    have s1 := (stp.2.2 a).1
    have s2 := (stp.2.2 a).2
    have wf1 := wf' a
    have j1 := g4 a
    have j2 := g5 a
    have ci := cuI a
    simp only [coL, cuL, Nat.add_zero] at w1 s1 s2 wf1 ⊢
    by_cases q : 0 < coE a envR
    · have nn := someR a (by omega)
      simp only [nn, or_false] at s1 s2
      have nb : ¬ 0 < t.cu a + cuL a us := fun h => by
        obtain ⟨o, ho, hb⟩ := tupB a h
        obtain ⟨o', ho', hb'⟩ := coE_no sR q
        rw [ho] at ho'
        cases ho'
        rw [hb] at hb'
        cases hb'
      omega
    · by_cases q2 : 0 < t.co a + coL a us
      · by_cases q3 : 0 < cuE a envR
        · have nn := someR a (by omega)
          simp only [nn, or_false] at s1 s2
          have := s1 q2
          omega
        · omega
      · omega
  · have i1 := I.co a
    simp only at hc ⊢
    omega
  · have i1 := I.co a
    have i2 := I.cuR a
    have s1 := (stp.2.2 a).1
    have s2 := (stp.2.2 a).2
    have j1 := g4 a
    have j2 := g5 a
    have ci := cuI a
    simp only [coL, cuL, Nat.add_zero] at s1 s2 ⊢
    refine ⟨fun h => ?_, fun h => ?_⟩
    · by_cases q : 0 < coE a envR
      · exact .inl (by omega)
      · rcases s1 (by omega) with y | y
        · exact .inl (by omega)
        · exact .inr y
    · by_cases q : 0 < cuE a envR
      · exact .inr (.inl (by omega))
      · rcases s2 (by omega) with y | y | y
        · exact .inl (by omega)
        · rcases ci y with y | y | y
          · by_cases q3 : 0 < evc a
            · exact .inl (by omega)
            · exact .inr (.inl (by omega))
          · exact .inr (.inl (by omega))
          · exact .inl (by omega)
        · exact .inr (.inr y)
  · have hn : i ∉ muS as := fun q => (hdis i q).2 hi
    rw [g6 i hn, I.out i hn, u1 i hi]
end
end Ow

namespace Ow
open PySem L2


def atT : List Nat → T → Option T
  | [], t => some t
  | j :: p, t => (t.kids[j]?).bind fun u => atT p u
def D.kids : D → List D
  | .s _ => []
  | .n _ ds => ds
@[simp] def atD : List Nat → D → Option D
  | [], d => some d
  | j :: p, d => (d.kids[j]?).bind fun u => atD p u
theorem kids_er (t : T) : t.er.kids = erL t.kids := by
  cases t <;> simp [T.er, D.kids, T.kids, erL]
section
variable {K : PySem.W.Frag} {H H' : Hp}
theorem kids_sat {t : T} (h : t.sat K H) : satL K H t.kids := by
  cases t with
  | s v => trivial
  | n k a ts => exact h.2
  | w z k a ts => exact h.2
theorem kids_co {t : T} {a : Addr} : coL a t.kids ≤ t.co a := by
  cases t with
  | s v => exact Nat.zero_le _
  | n k b ts => rw [T.kids, T.co]; omega
  | w z k b ts => rw [T.kids, T.co]; omega
theorem kids_cu {t : T} {a : Addr} : cuL a t.kids ≤ t.cu a := by
  cases t with
  | s v => exact Nat.zero_le _
  | n k b ts => rw [T.kids, T.cu]; omega
  | w z k b ts => rw [T.kids, T.cu]; omega
theorem atD_run : ∀ {p : List Nat} {t : T} {d : D}, t.sat K H → atD p t.er = some d → ∃ u, atT p t = some u ∧ u.er = d ∧ u.sat K H
  | [], t, d, s, h => by
    rw [atD] at h
    cases h
    exact ⟨t, rfl, rfl, s⟩
  | j :: p, t, d, s, h => by
    rw [atD, kids_er] at h
    obtain ⟨c, h1, h⟩ := bind_some h
    obtain ⟨u, hu, rfl⟩ := er_at rfl h1
    obtain ⟨v, g1, g2, g3⟩ := atD_run (sat_at (kids_sat s) hu) h
    exact ⟨v, by rw [atT, hu]; exact g1, g2, g3⟩
theorem atT_snoc : ∀ {p : List Nat} {j : Nat} {t u : T}, atT p t = some u → atT (p ++ [j]) t = u.kids[j]?
  | [], j, t, u, h => by
    rw [atT] at h
    cases h
    rw [List.nil_append, atT]
    cases t.kids[j]? <;> rfl
  | i :: p, j, t, u, h => by
    rw [atT] at h
    obtain ⟨v, h1, h⟩ := bind_some h
    rw [List.cons_append, atT, h1]
    exact atT_snoc h
@[simp] def modD : List Nat → (List D → Option (List D)) → D → Option D
  | [], f, .n (.lst .o) ds => (f ds).map (.n (.lst .o) ·)
  | j :: p, f, .n (.lst .o) ds => (ds[j]?).bind fun x => (modD p f x).map fun y => .n (.lst .o) (ds.set j y)
  | j :: p, f, .n .tup ds => (ds[j]?).bind fun x => (modD p f x).map fun y => .n .tup (ds.set j y)
  | _, _, _ => none
structure Md (K : PySem.W.Frag) (H : Hp) (p : List Nat) (f : List D → Option (List D)) (t : T) (d' : D) (a : Addr) (ts : List T) : Prop where
  at_ : atT p t = some (.n (.lst .o) a ts)
  nd : H a = some (.lst (vals ts))
  sat : satL K H ts
  own : coL a ts + 1 ≤ t.co a
  leo : ∀ b, coL b ts ≤ t.co b
  leu : ∀ b, cuL b ts ≤ t.cu b
  new : ∃ ds', f (erL ts) = some ds' ∧ ∀ ts', erL ts' = ds' → ∃ t' : T, t'.er = d' ∧ t'.val = t.val ∧ (∀ b, t'.co b + coL b ts = t.co b + coL b ts') ∧ (∀ b, t'.cu b + cuL b ts = t.cu b + cuL b ts') ∧
    ∀ H', (∀ b o, b ≠ a → 0 < t.co b + t.cu b → H b = some o → H' b = some o) → t.co a ≤ 1 → t.cu a = 0 → H' a = some (.lst (vals ts')) → satL K H' ts' → t'.sat K H'
theorem coL_set {ts : List T} {j : Nat} {u v : T} {b : Addr} (h : ts[j]? = some u) : coL b (ts.set j v) + u.co b = coL b ts + v.co b := by
  induction ts generalizing j with
  | nil => simp at h
  | cons t ts ih =>
    cases j with
    | zero =>
      simp at h
      subst h
      rw [List.set_cons_zero, coL, coL]; omega
    | succ j =>
      have := ih (j := j) (by simpa using h)
      rw [List.set_cons_succ, coL, coL]; omega
theorem cuL_set {ts : List T} {j : Nat} {u v : T} {b : Addr} (h : ts[j]? = some u) : cuL b (ts.set j v) + u.cu b = cuL b ts + v.cu b := by
  induction ts generalizing j with
  | nil => simp at h
  | cons t ts ih =>
    cases j with
    | zero =>
      simp at h
      subst h
      rw [List.set_cons_zero, cuL, cuL]; omega
    | succ j =>
      have := ih (j := j) (by simpa using h)
      rw [List.set_cons_succ, cuL, cuL]; omega
theorem vals_set {ts : List T} {j : Nat} {u v : T} (h : ts[j]? = some u) (e : v.val = u.val) : vals (ts.set j v) = vals ts := by
  rw [vals, List.map_set, e]
  apply List.ext_getElem?
  intro i
  rw [List.getElem?_set]
  by_cases q : j = i
  · subst q
    rw [if_pos rfl, List.getElem?_map, h]
    split
    · rfl
    · rename_i hl
      rw [List.length_map] at hl
      exact absurd (List.getElem?_eq_some_iff.mp h).1 hl
  · rw [if_neg q]
theorem erL_set {ts : List T} {j : Nat} {v : T} : erL (ts.set j v) = (erL ts).set j v.er := by rw [erL_map, erL_map, List.map_set]
theorem satL_set {ts : List T} {j : Nat} {u v : T} (hu : ts[j]? = some u) (a : Addr) (hv : v.sat K H') (s : satL K H ts) (co1 : coL a ts ≤ 1) (co2 : 1 ≤ u.co a) (cu0 : cuL a ts = 0) (hk : ∀ b o, b ≠ a → 0 < coL b ts + cuL b ts → H b = some o → H' b = some o) : satL K H' (ts.set j v) := by
  induction ts generalizing j with
  | nil => simp at hu
  | cons t ts ih =>
    rw [coL] at co1
    rw [cuL] at cu0
    have hk1 : ∀ b o, b ≠ a → 0 < coL b ts + cuL b ts → H b = some o → H' b = some o := fun b o hb h => hk b o hb (by rw [coL, cuL]; omega)
    cases j with
    | zero =>
      simp at hu
      subst hu
      rw [List.set_cons_zero]
      refine ⟨hv, satL_keep ts (fun b o h e => hk1 b o (fun z => ?_) h e) s.2⟩
      subst z; omega
    | succ j =>
      have hu' : ts[j]? = some u := by simpa using hu
      have := coL_mem (a := a) (List.mem_of_getElem? hu')
      rw [List.set_cons_succ]
      refine ⟨sat_keep t (fun b o h e => hk b o (fun z => ?_) (by rw [coL, cuL]; omega) e) s.1, ih hu' s.2 (by omega) (by omega) hk1⟩
      subst z; omega
def rek : T → List T → T
  | .s v, _ => .s v
  | .n k a _, ts => .n k a ts
  | .w z k a _, ts => .w z k a ts
theorem rek_val {t : T} {ts : List T} : (rek t ts).val = t.val := by cases t <;> rfl
theorem rek_er {t : T} {ts' : List T} {k : Kd} {ds : List D} (h : t.er = .n k ds) : (rek t ts').er = .n k (erL ts') := by
  cases t with
  | s v => rw [T.er] at h; cases h
  | n k' a ts => rw [T.er] at h; cases h; rw [rek, T.er]
  | w z k' a ts => rw [T.er] at h; cases h; rw [rek, T.er]
theorem rek_co {t : T} {ts' : List T} {k : Kd} {ds : List D} {b : Addr} (h : t.er = .n k ds) : (rek t ts').co b + coL b t.kids = t.co b + coL b ts' := by
  cases t with
  | s v => rw [T.er] at h; cases h
  | n k' a ts => rw [rek, T.co, T.co, T.kids]; omega
  | w z k' a ts => rw [rek, T.co, T.co, T.kids]; omega
theorem rek_cu {t : T} {ts' : List T} {k : Kd} {ds : List D} {b : Addr} (h : t.er = .n k ds) : (rek t ts').cu b + cuL b t.kids = t.cu b + cuL b ts' := by
  cases t with
  | s v => rw [T.er] at h; cases h
  | n k' a ts => rw [rek, T.cu, T.cu, T.kids]; omega
  | w z k' a ts => rw [rek, T.cu, T.cu, T.kids]; omega
theorem rek_sat {t : T} {ts' : List T} {a : Addr} (s : t.sat K H) (hv : vals ts' = vals t.kids) (hs : satL K H' ts') (k1 : ∀ b o, b ≠ a → 0 < t.co b + t.cu b → H b = some o → H' b = some o) (c1 : 1 ≤ coL a t.kids) (c2 : t.co a ≤ 1) (c3 : t.cu a = 0) : (rek t ts').sat K H' := by
  cases t with
  | s v => trivial
  | n k b ts =>
    rw [T.kids] at hv c1
    rw [T.co] at c2
    rw [T.cu] at c3
    have hb : b ≠ a := fun z => by
      subst z
      cases e : k.own <;> rw [e] at c2 c3 <;> simp at c2 c3 <;> omega
    refine ⟨⟨?_, s.1.2⟩, hs⟩
    rw [hv]
    exact k1 b _ hb (by rw [T.co, T.cu]; cases k.own <;> simp <;> omega) s.1.1
  | w z k b ts =>
    rw [T.kids] at hv c1
    rw [T.cu] at c3
    refine ⟨?_, hs⟩
    rw [hv]
    cases z with
    | true => have := s.1; cases k <;> exact this
    | false =>
      have hb : b ≠ a := fun y => by
        subst y
        simp at c3
      obtain ⟨nk, o, ho⟩ := s.1
      exact ⟨nk, o, k1 b _ hb (by rw [T.co, T.cu]; simp; omega) ho⟩
theorem mod_run : ∀ {p : List Nat} {f : List D → Option (List D)} {t : T} {d' : D}, t.sat K H → modD p f t.er = some d' → ∃ a ts, Md K H p f t d' a ts
  | [], f, t, d', s, h => by
    cases t with
    | s v => simp [T.er, modD] at h
    | w z k a ts =>
      rw [T.er] at h
      cases k <;> simp [Kd.wri, modD] at h
    | n k a ts =>
      rw [T.er] at h
      cases k with
      | lst o =>
        cases o with
        | o =>
          rw [modD] at h
          obtain ⟨ds', h1, rfl⟩ := map_some h
          refine ⟨a, ts, rfl, s.1.1, s.2, by rw [T.co]; simp [Kd.own]; omega, fun b => by rw [T.co]; omega, fun b => by rw [T.cu]; omega, ds', h1, fun ts' e => ⟨.n (.lst .o) a ts', by rw [T.er, e], rfl, fun b => by rw [T.co, T.co]; omega, fun b => by rw [T.cu, T.cu]; omega, fun H' _ _ _ hn hs => ⟨⟨hn, rfl⟩, hs⟩⟩⟩
        | s => simp [modD] at h
        | w => simp [modD] at h
      | tup => simp [modD] at h
      | ktp => simp [modD] at h
      | dic o ks => simp [modD] at h
      | dct o ks => simp [modD] at h
  | j :: p, f, t, d', s, h => by
    have hk : ∃ k ds, t.er = .n k ds ∧ (k = .lst .o ∨ k = .tup) ∧ ((ds[j]?).bind fun x => (modD p f x).map fun y => D.n k (ds.set j y)) = some d' := by
      cases e : t.er with
      | s v => rw [e] at h; simp [modD] at h
      | n k ds =>
        rw [e] at h
        cases k with
        | lst o =>
          cases o with
          | o => rw [modD] at h; exact ⟨_, _, rfl, .inl rfl, h⟩
          | s => simp [modD] at h
          | w => simp [modD] at h
        | tup => rw [modD] at h; exact ⟨_, _, rfl, .inr rfl, h⟩
        | ktp => simp [modD] at h
        | dic o ks => simp [modD] at h
        | dct o ks => simp [modD] at h
    obtain ⟨k, ds, e1, hkk, h⟩ := hk
    obtain ⟨c, h1, h⟩ := bind_some h
    obtain ⟨y, h2, rfl⟩ := map_some h
    have hkids : erL t.kids = ds := by rw [← kids_er, e1]; rfl
    obtain ⟨u, hu, rfl⟩ := er_at hkids h1
    have su := sat_at (kids_sat s) hu
    have mu := List.mem_of_getElem? hu
    obtain ⟨a, ts, M⟩ := mod_run su h2
    refine ⟨a, ts, by rw [atT, hu]; exact M.at_, M.nd, M.sat, Nat.le_trans M.own (Nat.le_trans (coL_mem mu) kids_co), fun b => Nat.le_trans (M.leo b) (Nat.le_trans (coL_mem mu) kids_co), fun b => Nat.le_trans (M.leu b) (Nat.le_trans (cuL_mem mu) kids_cu), ?_⟩
    obtain ⟨ds', h3, hn⟩ := M.new
    refine ⟨ds', h3, fun ts' ets' => ?_⟩
    obtain ⟨u', g1, g2, g3, g4, g5⟩ := hn ts' ets'
    have n1 : ∀ b, coL b (t.kids.set j u') + u.co b = coL b t.kids + u'.co b := fun b => coL_set hu
    have n2 : ∀ b, cuL b (t.kids.set j u') + u.cu b = cuL b t.kids + u'.cu b := fun b => cuL_set hu
    refine ⟨rek t (t.kids.set j u'), ?_, rek_val, fun b => ?_, fun b => ?_, fun H' k1 k2 k3 k4 k5 => ?_⟩
    · rw [rek_er e1, erL_set, g1, hkids]
    · have := rek_co (b := b) (ts' := t.kids.set j u') e1
      have := n1 b
      have := g3 b
      omega
    · have := rek_cu (b := b) (ts' := t.kids.set j u') e1
      have := n2 b
      have := g4 b
      omega
    · have c1 := Nat.le_trans (coL_mem (a := a) mu) kids_co
      have c2 := M.own
      have c3 : coL a t.kids ≤ t.co a := kids_co
      have c4 : cuL a t.kids ≤ t.cu a := kids_cu
      have c5 : u.co a ≤ coL a t.kids := coL_mem mu
      have c6 : u.cu a ≤ cuL a t.kids := cuL_mem mu
      refine rek_sat s (vals_set hu g2) (satL_set hu a ?_ (kids_sat s) (by omega) (by omega) (by omega) fun b o hb hp => k1 b o hb ?_) k1 (by omega) k2 k3
      · refine g5 H' (fun b o hb hp => k1 b o hb ?_) (by omega) (by omega) k4 k5
        have d1 := Nat.le_trans (coL_mem (a := b) mu) kids_co
        have d2 := Nat.le_trans (cuL_mem (a := b) mu) kids_cu
        omega
      · have d1 : coL b t.kids ≤ t.co b := kids_co
        have d2 : cuL b t.kids ≤ t.cu b := kids_cu
        omega
end
end Ow

namespace Ow
open PySem L2

section
variable {K : PySem.W.Frag} {H0 H H' : Hp} {env0 env : TEnv} {σ : L2.St} {F' G G' : List T} {i : Nat} {p : List Nat} {f : List D → Option (List D)} {t : T} {d' : D} {a : Addr} {ts ts' : List T}
theorem mut_step (c : Cf K H0 env0 σ H (G ++ F') env) (hi : env[i]? = some (some t)) (M : Md K H p f t d' a ts) (hf : f (erL ts) = some (erL ts')) (s1 : satL K H ts') (s2 : satL K H G')
    (n1 : ∀ b, coL b ts' + coL b G' ≤ coL b ts + coL b G) (n2 : ∀ b, 0 < cuL b ts' + cuL b G' → 0 < cuL b (G ++ F') + cuE b env) :
    ∃ env', erE env' = (erE env).set i (some d') ∧ (∀ j, j ≠ i → env'[j]? = env[j]?) ∧ Cf K H0 env0 σ (upd H a (.lst (vals ts'))) (G' ++ F') env' := by
  obtain ⟨ds', h1, hn⟩ := M.new
  rw [hf] at h1
  cases h1
  obtain ⟨t', g1, g2, g3, g4, g5⟩ := hn ts' rfl
  have m1 := M.own
  have wa := c.wf a
  have ei : ∀ b, coE b (env.set i (some t')) + t.co b = coE b env + t'.co b := fun b => by
    have := coE_set (a := b) (some t') hi
    simpa only [oT] using this
  have ui : ∀ b, cuE b (env.set i (some t')) + t.cu b = cuE b env + t'.cu b := fun b => by
    have := cuE_set (a := b) (some t') hi
    simpa only [oT] using this
  have ti : ∀ b, t.co b ≤ coE b env := fun b => coE_get hi
  have tu : ∀ b, t.cu b ≤ cuE b env := fun b => cuE_get hi
  simp only [coL_append, cuL_append] at wa
  have ta := ti a
  have tua := tu a
  have la := M.leo a
  have lua := M.leu a
  have n1a := n1 a
  have n2a := n2 a
  rw [cuL_append] at n2a
  have keep : ∀ b o, b ≠ a → H b = some o → upd H a (.lst (vals ts')) b = some o := fun b o hb h => by rw [upd_ne hb]; exact h
  have nt : ∀ b, 0 < coL b ts' + cuL b ts' → b ≠ a := fun b h z => by subst z; omega
  have sF := satL_append.mp c.satF
  have st' : t'.sat K (upd H a (.lst (vals ts'))) := g5 _ (fun b o hb _ h => keep b o hb h) (by omega) (by omega) upd_same (satL_keep ts' (fun b o h e => keep b o (nt b h) e) s1)
  refine ⟨env.set i (some t'), by rw [erE_set, ← g1]; rfl, fun j hj => by rw [List.getElem?_set, if_neg (fun z => hj z.symm)], c.rel.swap hi g2, satL_append.mpr ⟨satL_keep G' (fun b o h e => keep b o (fun z => by subst z; omega) e) s2, satL_keep F' (fun b o h e => keep b o (fun z => by subst z; omega) e) sF.2⟩, ?_, fun b => ?_, Stp.trans c.stp ⟨fun b o h hc => ?_, fun b h => ?_, fun b => ?_⟩⟩
  · -- the other slots
    intro u hu
    obtain ⟨j, hj⟩ := List.mem_iff_getElem?.mp hu
    rw [List.getElem?_set] at hj
    by_cases q : i = j
    · rw [if_pos q] at hj
      split at hj
      · cases hj; exact st'
      · cases hj
    · rw [if_neg q] at hj
      have e2 : (env.set i none)[j]? = some (some u) := by rw [List.getElem?_set, if_neg q]; exact hj
      refine sat_keep u (fun b o h e => keep b o (fun z => ?_) e) (c.satE u (List.mem_of_getElem? hj))
      subst z
      have w1 := coE_get (a := b) e2
      have w2 := cuE_get (a := b) e2
      have w3 := coE_set (a := b) none hi
      have w4 := cuE_set (a := b) none hi
      simp only [oT] at w3 w4
      omega
  · have w1 := c.wf b
    have := ei b
    have := ui b
    have := ti b
    have := tu b
    have := g3 b
    have := g4 b
    have := n1 b
    have n2b := n2 b
    have := M.leo b
    have := M.leu b
    simp only [coL_append, cuL_append] at w1 n2b ⊢
    by_cases q : 0 < cuL b ts' + cuL b G'
    · have := n2b q
      omega
    · omega
  · refine keep b o (fun z => ?_) h
    subst z
    simp only at hc
    omega
  · by_cases q : b = a
    · subst q
      rw [upd_same] at h
      cases h
    · rw [upd_ne q] at h
      exact h
  · have := ei b
    have := ui b
    have := ti b
    have := tu b
    have := g3 b
    have := g4 b
    have := n1 b
    have n2b := n2 b
    have := M.leo b
    have := M.leu b
    simp only [coL_append, cuL_append] at n2b ⊢
    refine ⟨fun q => .inl (by omega), fun q => .inr (.inl ?_)⟩
    by_cases q : 0 < cuL b ts' + cuL b G'
    · exact n2b q
    · omega
end
def trPl (K : PySem.W.Frag) (i : Nat) (pm : Env → Option (List Nat)) : TE := fun σ H Q => ∃ env p, pm (erE env) = some p ∧ Rel σ env ∧ SatE K H env ∧ ∀ H', Ex H H' → ∀ t u, env[i]? = some (some t) → atT p t = some u → Q u.val H'
def okPl (i : Nat) (pm : Env → Option (List Nat)) : Prop := ∀ env p, pm env = some p → ∃ d c, env[i]?.join = some d ∧ atD p d = some c
structure SPl (X : Cx) (i : Nat) (e : Expr) (pm : Env → Option (List Nat)) : Prop where
  ok : okPl i pm
  pe : PE X e (trPl X.K i pm)
@[simp] def plName (i : Nat) : Env → Option (List Nat) := fun env => (env[i]?.join).map fun _ => []
@[simp] def plItem (i : Nat) (pm : Env → Option (List Nat)) (mb : PM) : Env → Option (List Nat) := fun env => (pm env).bind fun p => (mb env).bind fun y => (toI y).bind fun n => (env[i]?.join).bind fun d => (atD p d).bind fun c => match c with
  | .n (.lst _) ds => (ixN ds.length n).map fun j => p ++ [j]
  | .n .tup ds => (ixN ds.length n).map fun j => p ++ [j]
  | _ => none
theorem atD_snoc : ∀ {p : List Nat} {j : Nat} {d c : D}, atD p d = some c → atD (p ++ [j]) d = c.kids[j]?
  | [], j, d, c, h => by
    rw [atD] at h
    cases h
    rw [List.nil_append, atD]
    cases d.kids[j]? <;> rfl
  | i :: p, j, d, c, h => by
    rw [atD] at h
    obtain ⟨v, h1, h⟩ := bind_some h
    rw [List.cons_append, atD, h1]
    exact atD_snoc h
theorem ixN_lt {n : Nat} {k : Int} {j : Nat} (h : ixN n k = some j) : j < n := (ixN_seq h).2.1
section
variable {X : Cx} {m ma mb : PM} {me m1 m2 : EM} {e a b : Expr} {pos apos cpos : Pos} {U P : List Nat} {i : Nat} {pm : Env → Option (List Nat)}
theorem spl_name {x : Str} (i : Nat) (hN : X.N[i]? = some x := by rfl) (hv : Vis X.env.scope x := by first | exact .inl rfl | exact .inr (.inl rfl) | exact .inr (.inr rfl))
    (hd : (x == ("__debug__" : Str)) = false := by decide) (hcd : (x == ("__classdict__" : Str)) = false := by decide) : SPl X i (.Name x pos) (plName i) where
  ok := fun env p h => by
    obtain ⟨d, h1, rfl⟩ := map_some h
    exact ⟨d, d, h1, rfl⟩
  pe := PE.weak (pe_var (i := i) hN hv hd hcd) fun σ H Q ⟨env, p, hm, r, s, k⟩ => by
    obtain ⟨d, h1, rfl⟩ := map_some hm
    obtain ⟨t, e1, e2⟩ := join_get h1
    exact ⟨t.val, r.2 i t e1, k H (Evl.Ex.refl H) t t e1 rfl⟩
theorem spl_item (ha : SPl X i a pm) (hb : SB X b mb) (hs : PlainIx b := by exact fun _ _ => rfl) : SPl X i (.Subscript a b pos) (plItem i pm mb) where
  ok := fun env q h => by
    obtain ⟨p, h1, h⟩ := bind_some h
    obtain ⟨y, h2, h⟩ := bind_some h
    obtain ⟨n, h3, h⟩ := bind_some h
    obtain ⟨d, h4, h⟩ := bind_some h
    obtain ⟨c, h5, h⟩ := bind_some h
    split at h
    · rename_i o ds
      obtain ⟨j, h6, rfl⟩ := map_some h
      exact ⟨d, _, h4, by rw [atD_snoc h5]; exact List.getElem?_eq_getElem (ixN_lt h6)⟩
    · rename_i ds
      obtain ⟨j, h6, rfl⟩ := map_some h
      exact ⟨d, _, h4, by rw [atD_snoc h5]; exact List.getElem?_eq_getElem (ixN_lt h6)⟩
    · cases h
  pe := PE.weak (pe_ix ix_it ha.pe hb hs) fun σ H Q ⟨env, q, hm, r, s, k⟩ => by
    obtain ⟨p, h1, h⟩ := bind_some hm
    obtain ⟨y, h2, h⟩ := bind_some h
    obtain ⟨n, h3, h⟩ := bind_some h
    obtain ⟨d, h4, h⟩ := bind_some h
    obtain ⟨c, h5, hh⟩ := bind_some h
    clear h
    refine ⟨env, p, h1, r, s, fun H1 x1 t u e1 e2 => ⟨env, y, h2, r, s.ex x1, fun v H2 e3 x2 s2 _ => ?_⟩⟩
    obtain ⟨t', f1, f2⟩ := join_get h4
    rw [e1] at f1
    cases f1
    subst f2
    have st := sat_ex (x1.trans x2) (s.get e1)
    obtain ⟨u', g1, g2, g3⟩ := atD_run st h5
    rw [e2] at g1
    cases g1
    have ev : v.er = .s (.int n) := e3.trans (toI_some h3)
    rw [er_int ev]
    split at hh
    · rename_i o ds
      obtain ⟨j, h6, rfl⟩ := map_some hh
      obtain ⟨a, w1, w2, w3, w4, _⟩ := rdLk g3 g2
      have hj := ixN_lt h6
      rw [← len_er w2] at hj h6
      have hw := List.getElem?_eq_getElem hj
      rw [w1]
      refine .inl (.inl ⟨a, _, n, (u.kids[j]).val, rfl, rfl, w3, ?_, k H2 (x1.trans x2) t _ e1 (by rw [atT_snoc e2]; exact hw)⟩)
      unfold atI
      rw [List.length_map, h6]
      exact vals_at hw
    · rename_i ds
      obtain ⟨j, h6, rfl⟩ := map_some hh
      obtain ⟨a, w1, w2, w3, w4, _⟩ := rdTk g3 g2
      have hj := ixN_lt h6
      rw [← len_er w2] at hj h6
      have hw := List.getElem?_eq_getElem hj
      rw [w1]
      refine .inl (.inr ⟨a, _, n, (u.kids[j]).val, rfl, rfl, w3, ?_, k H2 (x1.trans x2) t _ e1 (by rw [atT_snoc e2]; exact hw)⟩)
      unfold atI
      rw [List.length_map, h6]
      exact vals_at hw
    · cases hh
theorem goPl {K : PySem.W.Frag} {H0 H : Hp} {env0 env : TEnv} {σ : L2.St} {F : List T} {p : List Nat} {Q : VK} (ho : okPl i pm) (c : Cf K H0 env0 σ H F env) (hm : pm (erE env) = some p)
    (k : ∀ t u H', env[i]? = some (some t) → atT p t = some u → Ex H H' → Cf K H0 env0 σ H' F env → Q u.val H') : trPl K i pm σ H Q :=
  ⟨env, p, hm, c.rel, c.satE, fun H' x t u h1 h2 => k t u H' h1 h2 x (c.ex x)⟩
@[simp] def sApp (i : Nat) (pm : Env → Option (List Nat)) (me : EM) : SM := fun env => (pm env).bind fun p => (me env).bind fun x => (env[i]?.join).bind fun d =>
  (modD p (fun ds => if ds.length < 16777216 then some (ds ++ [x.1]) else none) d).map fun d' => (.nx, x.2.set i (some d'))
theorem sizeLine_lt {n : Nat} (h : n < 16777216) : n < sizeLine := by rw [sizeLine_eq]; exact h
theorem if_some' {α : Type} {c : Prop} [Decidable c] {o : Option α} {z : α} (h : (if c then o else none) = some z) : c ∧ o = some z := by
  split at h
  · exact ⟨by assumption, h⟩
  · cases h
theorem if_some {α : Type} {c : Prop} [Decidable c] {x z : α} (h : (if c then some x else none) = some z) : c ∧ x = z := by
  split at h
  · cases h; exact ⟨by assumption, rfl⟩
  · cases h
theorem ss_append (ho : SPl X i a pm) (h : SE X [i] e me) (hbase : attributeBase a "append" X.env (eval a X.env) = eval a X.env := by rfl)
    (hfew : ((backTo cpos (starEach [e] X.env)).all (fun x => !x.1) && (backToKw cpos (keywordEach [] X.env)).all (fun x => x.1.isSome)
      && decide (([e] : List Expr).length + ([] : List Keyword).length + (if ([] : List Keyword).isEmpty then 0 else 1) < 30)) = true := by rfl)
    (hline : (apos.endLine == cpos.line) = true := by rfl) (hs : starEach [e] X.env = (false, eval e X.env) :: starEach [] X.env := by rfl) (hplain : (backTo cpos (starEach [] X.env)).any (·.1) = false := by rfl)
    (hsw : swapsWith (.Call (.Attribute a "append" apos) [e] [] cpos) none pos.line X.env = pure false := by rfl) : SS X P (.Expr (.Call (.Attribute a "append" apos) [e] [] cpos) pos) (sApp i pm me) :=
  PS.weak (ps_expr (pe_bm PySem.F.plainAttrs_list PySem.F.slot_list_append PySem.F.type_list_append mt_append ho.pe (pa_cons h pa_nil hs) hbase hfew hline hs hplain) hsw) fun De σ H ⟨env, o, e', hm, r, s, w, k⟩ => by
    obtain ⟨p, hp, hm⟩ := bind_some hm
    obtain ⟨x, hx, hm⟩ := bind_some hm
    obtain ⟨d, hd, hm⟩ := bind_some hm
    obtain ⟨d', hmd, e1⟩ := map_some hm
    cases e1
    obtain ⟨t, h1, rfl⟩ := join_get hd
    unfold tDrop tBM
    refine goPl ho.ok (Cf.start r s w) hp fun t' u H1 h1' h2 x1 c1 => ?_
    rw [h1] at h1'
    cases h1'
    obtain ⟨a1, ts1, M1⟩ := mod_run (c1.satE.get h1) hmd
    have ha1 := M1.at_
    rw [h2] at ha1
    cases ha1
    refine ⟨.inl ⟨rfl, _, .inl (.inl M1.nd)⟩, ?_⟩
    unfold tCons
    refine goE (d := x.1) (e' := x.2) c1 hx fun v env1 H2 e1 e2 c2 u1 => ?_
    have f3 : env1[i]? = some (some t) := (u1 i (by simp)).trans h1
    obtain ⟨a2, ts, M⟩ := mod_run (c2.satE.get f3) hmd
    have := M.at_
    rw [h2] at this
    cases this
    obtain ⟨ds', g1, _⟩ := M.new
    obtain ⟨g2, rfl⟩ := if_some g1
    refine ⟨a1, _, v.val, rfl, rfl, M.nd, sizeLine_lt (by rw [List.length_map, ← erL_length]; exact g2), ?_⟩
    obtain ⟨env2, w1, _, c3⟩ := mut_step (G := [v]) (F' := []) (G' := []) (ts' := ts1 ++ [v]) c2 f3 M (by rw [g1, erL_append, erL, erL, e1]) (satL_append.mpr ⟨M.sat, c2.satF.1, trivial⟩) trivial (fun b => by simp only [coL_append, coL]; omega)
      (fun b h => by have := M.leu b; have := cuE_get (a := b) f3; simp only [cuL_append, cuL] at h ⊢; omega)
    have ev : vals (ts1 ++ [v]) = vals ts1 ++ [v.val] := by simp [vals]
    rw [ev] at c3
    exact k [] σ env2 _ (by rw [w1, e2]) c3 (fun _ _ => rfl) rfl
@[simp] def ePopAt (i : Nat) (pm : Env → Option (List Nat)) (me : EM) : EM := fun env => (pm env).bind fun p => (me env).bind fun x => (toI x.1).bind fun n => (env[i]?.join).bind fun d => (atD p d).bind fun c => match c with
  | .n (.lst .o) ds => if ds.length ≤ 16777216 then (ixN ds.length n).bind fun j => (ds[j]?).bind fun z => (modD p (fun _ => some (ds.eraseIdx j)) d).map fun d' => (z, x.2.set i (some d')) else none
  | _ => none
theorem coL_erase {ts : List T} {j : Nat} {u : T} {b : Addr} (h : ts[j]? = some u) : coL b (ts.eraseIdx j) + u.co b = coL b ts := by
  induction ts generalizing j with
  | nil => simp at h
  | cons t ts ih =>
    cases j with
    | zero => simp at h; subst h; rw [List.eraseIdx_cons_zero, coL]; omega
    | succ j => have := ih (j := j) (by simpa using h); rw [List.eraseIdx_cons_succ, coL, coL]; omega
theorem cuL_erase {ts : List T} {j : Nat} {u : T} {b : Addr} (h : ts[j]? = some u) : cuL b (ts.eraseIdx j) + u.cu b = cuL b ts := by
  induction ts generalizing j with
  | nil => simp at h
  | cons t ts ih =>
    cases j with
    | zero => simp at h; subst h; rw [List.eraseIdx_cons_zero, cuL]; omega
    | succ j => have := ih (j := j) (by simpa using h); rw [List.eraseIdx_cons_succ, cuL, cuL]; omega
theorem map_eraseIdx {α β : Type} (f : α → β) : ∀ (xs : List α) (j : Nat), (xs.eraseIdx j).map f = (xs.map f).eraseIdx j
  | [], j => by simp
  | x :: xs, 0 => by simp
  | x :: xs, j + 1 => by simp [map_eraseIdx f xs j]
theorem se_popAt (ho : SPl X i a pm) (h : SE X (i :: U) e me) (hU : i ∉ U) (hbase : attributeBase a "pop" X.env (eval a X.env) = eval a X.env := by rfl)
    (hfew : ((backTo cpos (starEach [e] X.env)).all (fun x => !x.1) && (backToKw cpos (keywordEach [] X.env)).all (fun x => x.1.isSome)
      && decide (([e] : List Expr).length + ([] : List Keyword).length + (if ([] : List Keyword).isEmpty then 0 else 1) < 30)) = true := by rfl)
    (hline : (apos.endLine == cpos.line) = true := by rfl) (hs : starEach [e] X.env = (false, eval e X.env) :: starEach [] X.env := by rfl) (hplain : (backTo cpos (starEach [] X.env)).any (·.1) = false := by rfl) :
    SE X U (.Call (.Attribute a "pop" apos) [e] [] cpos) (ePopAt i pm me) :=
  PE.weak (pe_bm PySem.F.plainAttrs_list PySem.F.slot_list_pop PySem.F.type_list_pop mt_popAt ho.pe (pa_cons h pa_nil hs) hbase hfew hline hs hplain) fun σ H Q ⟨env, zd, e', hm, r, s, w, k⟩ => by
    obtain ⟨p, hp, hm⟩ := bind_some hm
    obtain ⟨x, hx, hm⟩ := bind_some hm
    obtain ⟨n, hn, hm⟩ := bind_some hm
    obtain ⟨d, hd, hm⟩ := bind_some hm
    obtain ⟨c, hc, hm⟩ := bind_some hm
    split at hm
    case h_2 => cases hm
    rename_i ds
    obtain ⟨hlen, hm⟩ := if_some' hm
    obtain ⟨j, hj, hm⟩ := bind_some hm
    obtain ⟨z, hz, hm⟩ := bind_some hm
    obtain ⟨d', hmd, e1⟩ := map_some hm
    cases e1
    obtain ⟨t, h1, rfl⟩ := join_get hd
    unfold tBM
    refine goPl ho.ok (Cf.start r s w) hp fun t' u H1 h1' h2 x1 c1 => ?_
    rw [h1] at h1'
    cases h1'
    obtain ⟨a1, ts1, M1⟩ := mod_run (c1.satE.get h1) hmd
    have ha1 := M1.at_
    rw [h2] at ha1
    cases ha1
    refine ⟨.inl ⟨rfl, _, .inl (.inl M1.nd)⟩, ?_⟩
    unfold tCons
    refine goE (d := x.1) (e' := x.2) c1 hx fun v env1 H2 e1 e2 c2 u1 => ?_
    have f3 : env1[i]? = some (some t) := (u1 i (by simp)).trans h1
    obtain ⟨a2, ts, M⟩ := mod_run (c2.satE.get f3) hmd
    have := M.at_
    rw [h2] at this
    cases this
    obtain ⟨u2, q1, q2, q3⟩ := atD_run (c2.satE.get f3) hc
    rw [h2] at q1
    cases q1
    have q4 : erL ts1 = ds := by rw [T.er] at q2; cases q2; rfl
    obtain ⟨zt, hzt, rfl⟩ := er_at q4 hz
    rw [er_int (e1.trans (toI_some hn))]
    obtain ⟨b1, b2, b3, b4⟩ := ixN_seq hj
    have ll : (vals ts1).length = ds.length := by rw [List.length_map, len_er q4]
    refine ⟨a1, vals ts1, n, j, zt.val, rfl, rfl, M.nd, by omega, by omega, by rw [ll]; exact b1, vals_at hzt, ?_⟩
    obtain ⟨env2, w1, w2, c3⟩ := mut_step (G := [v]) (F' := []) (G' := [zt]) (ts' := ts1.eraseIdx j) c2 f3 M (by rw [erL_map, map_eraseIdx, ← erL_map, q4]) (satL_iff.mpr fun y hy => satL_iff.mp M.sat y (List.mem_of_mem_eraseIdx hy)) ⟨sat_at M.sat hzt, trivial⟩
      (fun b => by have := coL_erase (b := b) hzt; simp only [coL]; omega) (fun b hb => by have := cuL_erase (b := b) hzt; have := M.leu b; have := cuE_get (a := b) f3; simp only [cuL, cuL_append] at hb ⊢; omega)
    have ev : vals (ts1.eraseIdx j) = (vals ts1).eraseIdx j := map_eraseIdx _ _ _
    rw [ev] at c3
    exact k zt env2 _ rfl (by rw [w1, e2]) c3 fun y hy => (w2 y fun q => hU (q ▸ hy)).trans (u1 y (List.mem_cons_of_mem _ hy))
@[simp] def sIns (i : Nat) (pm : Env → Option (List Nat)) (mn me : EM) : SM := fun env => (pm env).bind fun p => (mn env).bind fun y => (me y.2).bind fun x => (toI y.1).bind fun n => (env[i]?.join).bind fun d =>
  (modD p (fun ds => if (ds.length < 16777216 ∧ 0 ≤ n ∧ n < 2 ^ 63) then some (ds.take n.toNat ++ [x.1] ++ ds.drop n.toNat) else none) d).map fun d' => (.nx, x.2.set i (some d'))
theorem ss_insert {b : Expr} {mn : EM} (ho : SPl X i a pm) (hb : SE X [i] b mn) (h : SE X [i] e me) (hbase : attributeBase a "insert" X.env (eval a X.env) = eval a X.env := by rfl)
    (hfew : ((backTo cpos (starEach [b, e] X.env)).all (fun x => !x.1) && (backToKw cpos (keywordEach [] X.env)).all (fun x => x.1.isSome)
      && decide (([b, e] : List Expr).length + ([] : List Keyword).length + (if ([] : List Keyword).isEmpty then 0 else 1) < 30)) = true := by rfl)
    (hline : (apos.endLine == cpos.line) = true := by rfl) (hs : starEach [b, e] X.env = (false, eval b X.env) :: starEach [e] X.env := by rfl) (hs2 : starEach [e] X.env = (false, eval e X.env) :: starEach [] X.env := by rfl) (hplain : (backTo cpos (starEach [e] X.env)).any (·.1) = false := by rfl)
    (hsw : swapsWith (.Call (.Attribute a "insert" apos) [b, e] [] cpos) none pos.line X.env = pure false := by rfl) : SS X P (.Expr (.Call (.Attribute a "insert" apos) [b, e] [] cpos) pos) (sIns i pm mn me) :=
  PS.weak (ps_expr (pe_bm PySem.F.plainAttrs_list PySem.F.slot_list_insert PySem.F.type_list_insert L2.mt_insert ho.pe (pa_cons hb (pa_cons h pa_nil hs2) hs) hbase hfew hline hs hplain) hsw) fun De σ H ⟨env, o, e', hm, r, s, w, k⟩ => by
    obtain ⟨p, hp, hm⟩ := bind_some hm
    obtain ⟨y, hy, hm⟩ := bind_some hm
    obtain ⟨x, hx, hm⟩ := bind_some hm
    obtain ⟨n, hn, hm⟩ := bind_some hm
    obtain ⟨d, hd, hm⟩ := bind_some hm
    obtain ⟨d', hmd, e1⟩ := map_some hm
    cases e1
    obtain ⟨t, h1, rfl⟩ := join_get hd
    unfold tDrop tBM
    refine goPl ho.ok (Cf.start r s w) hp fun t' u H1 h1' h2 x1 c1 => ?_
    rw [h1] at h1'
    cases h1'
    obtain ⟨a1, ts1, M1⟩ := mod_run (c1.satE.get h1) hmd
    have ha1 := M1.at_
    rw [h2] at ha1
    cases ha1
    refine ⟨.inl ⟨rfl, _, .inl (.inl M1.nd)⟩, ?_⟩
    unfold tCons
    refine goE (d := y.1) (e' := y.2) c1 hy fun vn env0 H0 en e0 c0 u0 => ?_
    refine goE (d := x.1) (e' := x.2) c0 (by rw [e0]; exact hx) fun v env1 H2 e1 e2 c2 u1 => ?_
    have f3 : env1[i]? = some (some t) := (u1 i (by simp)).trans ((u0 i (by simp)).trans h1)
    obtain ⟨a2, ts, M⟩ := mod_run (c2.satE.get f3) hmd
    have := M.at_
    rw [h2] at this
    cases this
    obtain ⟨ds', g1, _⟩ := M.new
    obtain ⟨⟨g2, g3, g4⟩, rfl⟩ := if_some g1
    have en2 := er_int (en.trans (toI_some hn))
    subst en2
    refine ⟨a1, vals ts1, n, v.val, rfl, rfl, M.nd, sizeLine_lt (by rw [List.length_map, ← erL_length]; exact g2), g3, g4, ?_⟩
    obtain ⟨env2, w1, _, c3⟩ := mut_step (G := [v, .s (.int n)]) (F' := []) (G' := []) (ts' := ts1.take n.toNat ++ [v] ++ ts1.drop n.toNat) c2 f3 M (by rw [g1]; simp [erL_map, e1]) (satL_iff.mpr fun y hy => by
        rcases List.mem_append.mp hy with q | q
        · rcases List.mem_append.mp q with q | q
          · exact satL_iff.mp M.sat y (List.mem_of_mem_take q)
          · rw [List.mem_singleton] at q; subst q; exact c2.satF.1
        · exact satL_iff.mp M.sat y (List.mem_of_mem_drop q)) trivial
      (fun b => by have := coL_append (a := b) (ts := ts1.take n.toNat) (us := ts1.drop n.toNat); rw [List.take_append_drop] at this; simp only [coL_append, coL]; omega)
      (fun b hb => by have := cuL_append (a := b) (ts := ts1.take n.toNat) (us := ts1.drop n.toNat); rw [List.take_append_drop] at this; have := M.leu b; have := cuE_get (a := b) f3; simp only [cuL_append, cuL] at hb ⊢; omega)
    have ev : vals (ts1.take n.toNat ++ [v] ++ ts1.drop n.toNat) = (vals ts1).take n.toNat ++ [v.val] ++ (vals ts1).drop n.toNat := by simp [vals]
    rw [ev] at c3
    exact k [] σ env2 _ (by rw [w1, e2]) c3 (fun _ _ => rfl) rfl
@[simp] def sPut (i : Nat) (pm : Env → Option (List Nat)) (mb : PM) (me : EM) : SM := fun env => (me env).bind fun x => (pm x.2).bind fun p => (mb x.2).bind fun y => (toI y).bind fun n => (x.2[i]?.join).bind fun d =>
  (modD p (fun ds => (ixN ds.length n).map fun j => ds.set j x.1) d).map fun d' => (.nx, x.2.set i (some d'))
theorem ss_put {b : Expr} {spos : Pos} (h : SE X [] e me) (ho : SPl X i a pm) (hb : SB X b mb) (ha : ∀ v, assign (.Subscript a b pos) X.env v = (do
      let ov ← holding [v] (eval a X.env)
      let iv ← holding [v, ov] (eval b X.env)
      standAt pos
      holding [v, ov, iv] (setItem ov iv v)
      release [v, ov, iv] []) := by intro _; rfl) (hs : swapsWithSole [.Subscript a b pos] e spos.line X.env = pure false := by rfl) (hw : swappedStores [.Subscript a b pos] e X.env = pure none := by rfl)
    (h1 : (assignEach [.Subscript a b pos] X.env).map (·.2) = [assign (.Subscript a b pos) X.env] := by rfl) : SS X P (.Assign [.Subscript a b pos] e spos) (sPut i pm mb me) :=
  PS.weak (ps_asg h (pg_sub ho.pe hb set_list ha) hs hw h1) fun De σ H ⟨env, o, e', hm, r, s, w, k⟩ => by
    obtain ⟨x, hx, hm⟩ := bind_some hm
    obtain ⟨p, hp, hm⟩ := bind_some hm
    obtain ⟨y, hy, hm⟩ := bind_some hm
    obtain ⟨n, hn, hm⟩ := bind_some hm
    obtain ⟨d, hd, hm⟩ := bind_some hm
    obtain ⟨d', hmd, e1⟩ := map_some hm
    cases e1
    unfold tAsg gSub
    refine goE (d := x.1) (e' := x.2) (Cf.start r s w) hx fun v env1 H1 e1 e2 c1 u1 => ?_
    rw [← e2] at hd hp hy
    obtain ⟨t, f3, rfl⟩ := join_get hd
    refine goPl ho.ok c1 hp fun t' u H2 h1' h2 x2 c2 => ?_
    rw [f3] at h1'
    cases h1'
    refine goB c2 hy fun v2 H3 e3 x3 s3 _ c3 => ?_
    rw [er_int (e3.trans (toI_some hn))]
    obtain ⟨a1, ts1, M⟩ := mod_run (c3.satE.get f3) hmd
    have := M.at_
    rw [h2] at this
    cases this
    obtain ⟨ds', g1, _⟩ := M.new
    obtain ⟨j, g2, rfl⟩ := map_some g1
    have hj := ixN_lt g2
    rw [erL_length] at hj
    have hu := List.getElem?_eq_getElem hj
    refine ⟨a1, vals ts1, n, j, rfl, rfl, M.nd, by rw [List.length_map, ← erL_length]; exact g2, ?_⟩
    obtain ⟨env2, w1, _, c4⟩ := mut_step (G := [v]) (F' := []) (G' := []) (ts' := ts1.set j v) c3 f3 M (by rw [g1, erL_set, e1]) (satL_iff.mpr fun y hy => by
        rcases List.mem_or_eq_of_mem_set hy with q | q
        · exact satL_iff.mp M.sat y q
        · subst q; exact c3.satF.1) trivial
      (fun b => by have := coL_set (b := b) (v := v) hu; simp only [coL]; omega) (fun b hb => by have := cuL_set (b := b) (v := v) hu; have := M.leu b; have := cuE_get (a := b) f3; simp only [cuL_append, cuL] at hb ⊢; omega)
    have ev : vals (ts1.set j v) = (vals ts1).set j v.val := by rw [vals, List.map_set]
    rw [ev] at c4
    exact k [] σ env2 _ (by rw [w1, e2]) c4 (fun _ _ => rfl) rfl
@[simp] def eMove (i : Nat) : EM := fun env => (env[i]?.join).map fun d => (d, env.set i none)
theorem se_move {x : Str} (i : Nat) (hU : i ∉ U) (hN : X.N[i]? = some x := by rfl) (hv : Vis X.env.scope x := by first | exact .inl rfl | exact .inr (.inl rfl) | exact .inr (.inr rfl))
    (hd : (x == ("__debug__" : Str)) = false := by decide) (hcd : (x == ("__classdict__" : Str)) = false := by decide) : SE X U (.Name x pos) (eMove i) := PE.weak (pe_var (i := i) hN hv hd hcd) fun σ H Q ⟨env, d, e', hm, r, s, w, k⟩ => by
  obtain ⟨d', h1, e1⟩ := map_some hm
  cases e1
  obtain ⟨t, f1, f2⟩ := join_get h1
  refine ⟨t.val, r.2 i t f1, k t (env.set i none) H f2 erE_set ((Cf.start r s w).less r.drop ⟨s.get f1, trivial⟩ (s.set fun u hu => by cases hu) (fun a => ?_) fun a => ?_) fun j hj => ?_⟩
  · have := coE_set (a := a) none f1
    simp only [coL, oT] at this ⊢; omega
  · have := cuE_set (a := a) none f1
    simp only [cuL, oT] at this ⊢; omega
  · rw [List.getElem?_set, if_neg (fun (z : i = j) => hU (by rw [z]; exact hj))]
end
end Ow

namespace Ow
open PySem L2


def tyN : D → Option String
  | .s .non => some "NoneType"
  | .s (.bl _) => some "bool"
  | .s (.int _) => some "int"
  | .s (.str _) => some "str"
  | .n (.lst _) _ => some "list"
  | .n .tup _ => some "tuple"
  | .n (.dic _ _) _ => some "dict"
  | _ => none
@[simp] theorem tyN_c0  : tyN (.s .non) = some "NoneType" := rfl
@[simp] theorem tyN_c1 {b : Bool} : tyN (.s (.bl b)) = some "bool" := rfl
@[simp] theorem tyN_c2 {i : Int} : tyN (.s (.int i)) = some "int" := rfl
@[simp] theorem tyN_c3 {z : PySem.Str} : tyN (.s (.str z)) = some "str" := rfl
@[simp] theorem tyN_c4 {ds : List D} {o : Fl} : tyN (.n (.lst o) ds) = some "list" := rfl
@[simp] theorem tyN_c5 {ds : List D} : tyN (.n .tup ds) = some "tuple" := rfl
theorem ty_of {K : PySem.W.Frag} {H : Hp} {t : T} {n : String} (s : t.sat K H) (h : tyN t.er = some n) : TyX K H t.val (.type n) := by
  cases t with
  | s v =>
    rw [T.er] at h
    unfold hid at h
    cases v with
    | non => cases h; exact .base .non
    | bl b => cases h; exact .base (.bl b)
    | int i => cases h; exact .base (.int i)
    | str x => cases h; exact .base (.str x)
    | byt _ => cases h
    | flt _ => cases h
    | ref _ => cases h
    | ty _ => cases h
  | n k a ts =>
    rw [T.er] at h
    have h1 := s.1.1
    cases k with
    | lst o => cases h; exact .base (.lst h1)
    | tup => cases h; exact .base (.tup h1)
    | ktp => cases h
    | dic o ks => cases h; exact .base (.dK h1)
    | dct o ks => cases h
  | w z k a ts =>
    rw [T.er] at h
    have h1 := s.1
    cases z with
    | true =>
      cases k with
      | lst o =>
        cases h
        rcases h1 with (q | ⟨_, q⟩) | ⟨ob, its, n, e1, e2, _⟩
        · cases q
        · cases q
        · exact .kList e1 e2
      | tup => exact h1.elim
      | ktp => cases h
      | dic o ks => cases h1
      | dct o ks => cases h1
    | false =>
      obtain ⟨nk, ob, h1⟩ := h1
      cases k with
      | lst o => cases h; exact .base (.frz h1)
      | tup => cases h; exact .fTuple h1
      | ktp => cases h
      | dic o ks => cases h; exact .fDict h1
      | dct o ks => cases h
@[simp] def isiD (T : String) (d : D) : Option V := (tyN d).bind fun n => (kitB n T).map .bl
@[simp] def mIsi (T : String) (m : PM) : PM := fun env => (m env).bind fun d => (isiD T d).bind sv
section
variable {X : Cx} {e : Expr} {m : PM} {pos p q : Pos}
theorem sp_isi {x : Str} {n : String} (hm : X.mg "isinstance" = none) (hmT : X.mg x = none) (hb : bootBuiltins x = some (.type n)) (h : SB X e m) (hi : bootBuiltins "isinstance" = some (.builtin "isinstance")) (hg : Gl X "isinstance" := by rfl) (hgT : Gl X x := by rfl) (hn : x ≠ "__name__" := by decide) (hd : (x == ("__debug__" : Str)) = false := by decide)
    (he : starEach [e, .Name x q] X.env = (false, eval e X.env) :: starEach [.Name x q] X.env := by rfl) (he2 : starEach [.Name x q] X.env = (false, eval (.Name x q) X.env) :: starEach [] X.env := by rfl) (hpl : (backTo pos (starEach [.Name x q] X.env)).any (·.1) = false := by rfl) :
    SP X (.Call (.Name "isinstance" p) [e, .Name x q] [] pos) (mIsi n m) := PE.weak (pe_callB call_isi hg hm hi (pa_cons h (pa_cons (pe_bltn (v := .ty n) hgT hmT hb rfl hn hd) pa_nil he2) he) (by decide) (by decide) he hpl) fun σ H Q ⟨env, d, hm, r, s, k⟩ => by
  obtain ⟨c, h1, hm⟩ := bind_some hm
  obtain ⟨v, h2, hm⟩ := bind_some hm
  obtain ⟨h3, rfl⟩ := sv_some hm
  obtain ⟨a, h4, h2⟩ := bind_some h2
  obtain ⟨b, h5, rfl⟩ := map_some h2
  unfold tCB tCons
  refine ⟨env, c, h1, r, s, fun t H1 e1 x1 s1 _ => ?_⟩
  subst e1
  exact ⟨t.val, .ty n, _, .type n, b, rfl, .ty n, ty_of s1 h4, kit_ty h5, k (.s (.bl b)) H1 rfl x1 trivial own_s⟩
end


def forMD (j : Nat) (mb : SM) : List D → List D → Env → Option (List D × Env)
  | done, [], env => some (done, env)
  | done, d :: ds, env => (mb (env.set j (some d))).bind fun x => match x.1 with
    | .nx => (x.2[j]?.join).bind fun d' => forMD j mb (done ++ [d']) ds (x.2.set j none)
    | .ct => (x.2[j]?.join).bind fun d' => forMD j mb (done ++ [d']) ds (x.2.set j none)
    | _ => none
@[simp] def sForM (i j : Nat) (mb : SM) : SM := fun env => (env[i]?.join).bind fun d => match d with
  | .n (.lst .o) ds => (forMD j mb [] ds (env.set i none)).map fun x => (.nx, x.2.set i (some (.n (.lst .o) x.1)))
  | _ => none
section
variable {X : Cx} {pos p : Pos} {P : List Nat} {mb : SM} {body : List Stmt}
theorem skel_sat {K : PySem.W.Frag} {H : Hp} {a : Addr} {vs : List V} (h : H a = some (.lst vs)) : (T.n (.lst .o) a (vs.map T.s)).sat K H := by
  refine ⟨⟨?_, rfl⟩, ?_⟩
  · rw [vals, List.map_map, h]
    congr 1
    show HO.lst vs = HO.lst _
    congr 1
    simp [Function.comp_def, T.val]
  · rw [satL_iff]
    intro t ht
    obtain ⟨v, _, rfl⟩ := List.mem_map.mp ht
    trivial
theorem skel_vals {vs : List V} : vals (vs.map T.s) = vs := by
  induction vs with
  | nil => rfl
  | cons v vs ih => rw [List.map_cons, vals, List.map_cons]; exact congrArg _ ih
theorem skel_co {vs : List V} {a : Addr} : coL a (vs.map T.s) = 0 := by
  induction vs with
  | nil => rfl
  | cons v vs ih => rw [List.map_cons, coL, ih]; rfl
theorem skel_cu {vs : List V} {a : Addr} : cuL a (vs.map T.s) = 0 := by
  induction vs with
  | nil => rfl
  | cons v vs ih => rw [List.map_cons, cuL, ih]; rfl
end
end Ow

namespace Ow
open PySem L2 PyProof.Rows

section
variable {X : Cx} {a b e : Expr} {ma mb m : PM} {pos : Pos}
def fNeg : D → Option V
  | .s (.int i) => some (.int (-i))
  | _ => none
@[simp] theorem fNeg_c0 {i : Int} : fNeg (.s (.int i)) = some (.int (-i)) := rfl
theorem sp_neg (ha : SB X a ma) : SP X (.UnaryOp .USub a pos) (mOp1 fNeg ma) := PE.weak (pe_un un_neg ha) fun σ H Q ⟨env, d, hm, hr, hs, k⟩ => by
  obtain ⟨x, hx, hm⟩ := bind_some hm
  obtain ⟨v, hv, hm⟩ := bind_some hm
  obtain ⟨s1, rfl⟩ := sv_some hm
  refine ⟨env, x, hx, hr, hs, fun t H1 e1 x1 s2 _ => ?_⟩
  subst e1
  unfold fNeg at hv
  split at hv
  · rename_i i e
    cases hv
    rw [er_int e]
    exact ⟨i, rfl, k (.s (.int (-i))) H1 rfl x1 trivial own_s⟩
  · cases hv

variable {m1 m2 : EM} {k : Nat} {P : List Nat}
theorem st_cmp {op : CmpOp} {r : R2} {f : D → D → Option V} (ho : OpR X (compareOp op) r) (hf : Op2 X.K r f) (ha : SB X a ma) (hb : SB X b mb) (hm : behindInMarks op b = false) : ST X (.Compare a [op] [b] pos) (mB (mOp2 f ma mb)) :=
  PT.weak (pt_cmpR ho ha hb hm) fun σ H Q ⟨env, c, hc, hr, hs, k⟩ => by
    obtain ⟨d, hd, hc⟩ := bind_some hc
    have hd2 := toB_some hc
    subst hd2
    exact rd2 (ta := trB X.K ma) (tb := trB X.K mb) (Q := fun x H' => ∃ k, x = .bl k ∧ Q k H') hf ⟨env, .s (.bl c), hd, hr, hs, fun t H' e1 x1 s1 _ => ⟨c, by rw [er_scl e1 rfl]; rfl, k H' x1⟩⟩
theorem set_cmp {op : CmpOp} {r : R2} {f : D → D → Option V} (ho : OpR X (compareOp op) r) (hf : Op2 X.K r f) (ha : SE X [] a m1) (hb : SE X [] b m2) (hm : behindInMarks op b = false) : SET X (.Compare a [op] [b] pos) (eB (eOp2 f m1 m2)) :=
  PT.weak (pt_cmpR ho ha hb hm) fun σ H Q ⟨env, c, e', hc, hr, hs, w, k⟩ => by
    obtain ⟨x, hx, hc⟩ := bind_some hc
    obtain ⟨b', hb', e1⟩ := map_some hc
    cases e1
    exact eop_rd (U := []) (Q := fun x H' => ∃ k, x = .bl k ∧ Q k H') hf ⟨env, x.1, x.2, hx, hr, hs, w, fun t env' H' e1 e2 c' _ => ⟨c, by rw [er_scl (e1.trans (toB_some hb')) rfl]; rfl, k env' H' e2 c'.toNil⟩⟩
theorem st_eq (hr : Room k X.A) (ha : SB X a ma) (hb : SB X b mb) : ST X (.Compare a [.Eq] [b] pos) (mB (mOp2 fEq ma mb)) := st_cmp (op_eqD (hu64 hr)) op2_eq ha hb (nomark _)
theorem st_ne (hr : Room k X.A) (ha : SB X a ma) (hb : SB X b mb) : ST X (.Compare a [.NotEq] [b] pos) (mB (mOp2 fNe ma mb)) := st_cmp (op_neD (hu64 hr)) op2_ne ha hb (nomark _)
theorem st_lt (ha : SB X a ma) (hb : SB X b mb) : ST X (.Compare a [.Lt] [b] pos) (mB (mOp2 fLt ma mb)) := st_cmp op_lt op2_I0 ha hb (nomark _)
theorem st_gt (ha : SB X a ma) (hb : SB X b mb) : ST X (.Compare a [.Gt] [b] pos) (mB (mOp2 fGt ma mb)) := st_cmp op_gt op2_I0 ha hb (nomark _)
theorem st_ge (ha : SB X a ma) (hb : SB X b mb) : ST X (.Compare a [.GtE] [b] pos) (mB (mOp2 fGe ma mb)) := st_cmp op_ge op2_I0 ha hb (nomark _)
theorem set_eq (hr : Room k X.A) (ha : SE X [] a m1) (hb : SE X [] b m2) : SET X (.Compare a [.Eq] [b] pos) (eB (eOp2 fEq m1 m2)) := set_cmp (op_eqD (hu64 hr)) op2_eq ha hb (nomark _)

@[simp] def sAugF (i : Nat) (f : D → D → Option V) (m : PM) : SM := fun env => (m env).bind fun y => (env[i]?.join).bind fun x => (f x y).bind fun v => (sv v).map fun d => (.nx, env.set i (some d))
end
theorem okb {N : List Str} {sc scope : Scope} {own : List (Str × Nat)} (h : blkC N sc scope own = true) : blkC N sc scope own = true := h
theorem lnl : ∀ (env : Env) (ds : List D), lNil env = some ds → ds.length = 0 := fun env ds h => by cases h; rfl
theorem lcl {m : PM} {n : LM} {k : Nat} (h : ∀ (env : Env) (ds : List D), n env = some ds → ds.length = k) : ∀ (env : Env) (ds : List D), lCons m n env = some ds → ds.length = k + 1 := fun env ds e => by
  obtain ⟨x, _, e⟩ := bind_some e
  obtain ⟨ys, hy, rfl⟩ := map_some e
  rw [List.length_cons, h env ys hy]
theorem bt_sum : bootBuiltins "sum" = some (.builtin "sum") := by decide +kernel
theorem bt_len : bootBuiltins "len" = some (.builtin "len") := by decide +kernel
theorem bt_min : bootBuiltins "min" = some (.builtin "min") := by decide +kernel
theorem bt_max : bootBuiltins "max" = some (.builtin "max") := by decide +kernel
theorem bt_all : bootBuiltins "all" = some (.builtin "all") := by decide +kernel
theorem bt_isinstance : bootBuiltins "isinstance" = some (.builtin "isinstance") := by decide +kernel
theorem bt_list : bootBuiltins "list" = some (.type "list") := by decide +kernel
theorem bt_tuple : bootBuiltins "tuple" = some (.type "tuple") := by decide +kernel
theorem bt_int : bootBuiltins "int" = some (.type "int") := by decide +kernel
theorem bt_bool : bootBuiltins "bool" = some (.type "bool") := by decide +kernel
def scriptT (K : PySem.W.Frag) (H : Hp) (a : Addr) (ns : List Int) : Prop := ∃ t : T, t.val = .ref a ∧ t.er = .n (.lst .w) (ns.map fun i => .s (.int i)) ∧ t.sat K H
theorem er_ints (ns : List Int) : erL (ns.map fun i => T.s (.int i)) = ns.map fun i => D.s (.int i) := by
  rw [erL_map, List.map_map]
  rfl
theorem script_t {K : PySem.W.Frag} {H : Hp} {a : Addr} {ns : List Int} (ho : Only H) (h : SqL K H a (ns.map V.int)) : scriptT K H a ns := by
  have hs : ∀ {H}, satL K H (ns.map fun i => T.s (.int i)) := satL_iff.mpr fun t ht => by
    obtain ⟨i, _, rfl⟩ := List.mem_map.mp ht
    trivial
  rcases h with (q | ⟨o, q⟩) | q
  · rcases ho a with z | ⟨o, xs, z⟩
    · rw [z] at q; cases q
    · rw [z] at q; cases q
  · exact ⟨.w false (.lst .w) a (ns.map fun i => T.s (.int i)), rfl, by rw [T.er, er_ints]; rfl, ⟨by simp, o, by rw [vals_ints]; exact q⟩, hs⟩
  · refine ⟨.w true (.lst .w) a (ns.map fun i => T.s (.int i)), rfl, by rw [T.er, er_ints]; rfl, ?_, hs⟩
    show SqL K (fun _ => none) a (vals _)
    rw [vals_ints]
    exact .inr q
def scriptD (ns : List Int) : D := .n (.lst .w) (ns.map fun i => .s (.int i))
def spLaw (K : PySem.W.Frag) (f : FM) : Sp := fun vs H Q E => ∃ (a : Addr) (ns : List Int), vs = [.ref a] ∧ Only H ∧ SqL K H a (ns.map V.int) ∧ f [scriptD ns] = some (.s (.bl true)) ∧ ∀ H', Q (.bl true) H'
theorem frz_ints (ns : List Int) : (ns.map fun i => D.s (.int i)).map D.frz = ns.map fun i => D.s (.int i) := by
  rw [List.map_map]
  congr 1
theorem frzD_map : ∀ ds : List D, frzD ds = ds.map D.frz
  | [] => rfl
  | d :: ds => by rw [frzD, frzD_map ds, List.map_cons]
theorem law_end {P : Program} {w : World} {K : PySem.W.Frag} {mg : Str → Option Value} {base : Heap} {k : Nat} {f : Addr} {fd : FuncData} {x : Str} {fm : FM} (h : FnOk P w K mg base CX0 k f fd [x] (spP K 1 fm)) : FnOk P w K mg base CX0 k f fd [x] (spLaw K fm) := by
  refine ⟨fun vs H Q E ⟨a, ns, e, _⟩ => by rw [e]; rfl, fun A outer s H args us vs Q E hr e0 hb r ⟨a, ns, e, ho, hs, hf, q⟩ => h.run A outer s H args us vs Q E hr e0 hb r ?_⟩
  obtain ⟨t, h1, h2, h3⟩ := script_t ho hs
  refine ⟨[t], .s (.bl true), by rw [e, vals, List.map_cons, h1]; rfl, rfl, ⟨h3, trivial⟩, ?_, fun u H' eu x su _ => ?_⟩
  · rw [erL, erL, frzD, frzD, h2, D.frz, frzD_map, frz_ints]
    exact hf
  · rw [er_scl eu rfl]
    exact q H'
end Ow

namespace Ow
open PySem L2


section
variable {i j : Int}
theorem fI_ok {C : Int → Int → Bool} {g : Int → Int → V} (h : C i j = true) : fI C g (.s (.int i)) (.s (.int j)) = some (g i j) := if_pos h
@[simp] theorem fAdd_int : fAdd (.s (.int i)) (.s (.int j)) = some (.int (i + j)) := rfl
@[simp] theorem fSub_int : fSub (.s (.int i)) (.s (.int j)) = some (.int (i - j)) := rfl
@[simp] theorem fLt_int : fLt (.s (.int i)) (.s (.int j)) = some (.bl (decide (i < j))) := rfl
@[simp] theorem fLe_int : fLe (.s (.int i)) (.s (.int j)) = some (.bl (decide (i ≤ j))) := rfl
@[simp] theorem fGt_int : fGt (.s (.int i)) (.s (.int j)) = some (.bl (decide (j < i))) := rfl
@[simp] theorem fGe_int : fGe (.s (.int i)) (.s (.int j)) = some (.bl (decide (j ≤ i))) := rfl
@[simp] theorem fMul_int (h : CMulB i j) : fMul (.s (.int i)) (.s (.int j)) = some (.int (i * j)) := fI_ok (decide_eq_true h)
@[simp] theorem fMod_int (h : 0 < j) : fMod (.s (.int i)) (.s (.int j)) = some (.int (i % j)) := fI_ok (C := fun _ j => decide (0 < j)) (decide_eq_true h)
theorem fDiv_int (h : 0 < j) (h2 : j.natAbs.log2 < 9000) : fDiv (.s (.int i)) (.s (.int j)) = some (.int (i / j)) := fI_ok (C := fun i j => decide (0 < j ∧ j.natAbs.log2 < 9000)) (decide_eq_true ⟨h, h2⟩)
theorem fPow_int (h : 0 ≤ j ∧ j ≤ 1000000 ∧ i.natAbs < 2 ^ 64) : fPow (.s (.int i)) (.s (.int j)) = some (.int (i ^ j.toNat)) := fI_ok (C := fun i j => decide (0 ≤ j ∧ j ≤ 1000000 ∧ i.natAbs < 2 ^ 64)) (decide_eq_true h)
end
theorem log2_lt {n k : Nat} (hk : 0 < k) (h : n < 2 ^ k) : n.log2 < k := PySem.Flt.log2_lt_of hk h

class Enc (α : Type) where
  en : Fl → α → D
  pd : α → PyData
  dep : Nat
  dat : ∀ o x, (en o x).dat = some (pd x)
  can : ∀ x, (pd x).canLay0 = true
  deep : ∀ x, (pd x).depth ≤ dep
  inj : ∀ x y, PyData.eqv (pd x) (pd y) = true ↔ x = y
  frz : ∀ o x, (en o x).frz = en o.frz x
  noF : ∀ x, (en .o x).noF = true
  pureS : ∀ o x, o ≠ .o → (en o x).pure = true
open Enc
instance : Enc Int where
  en _ i := .s (.int i)
  pd i := .int i
  dep := 0
  dat _ _ := rfl
  can _ := rfl
  deep _ := Nat.le_refl _
  inj x y := by simp [PyData.eqv]
  frz _ _ := rfl
  noF _ := rfl
  pureS _ _ _ := rfl
instance : Enc Bool where
  en _ i := .s (.bl i)
  pd i := .bool i
  dep := 0
  dat _ _ := rfl
  can _ := rfl
  deep _ := Nat.le_refl _
  inj x y := by simp [PyData.eqv]
  frz _ _ := rfl
  noF _ := rfl
  pureS _ _ _ := rfl
theorem datL_map {α : Type} [Enc α] (o : Fl) : ∀ xs : List α, datL (xs.map (en o)) = some (xs.map pd)
  | [] => rfl
  | x :: xs => by rw [List.map_cons, datL, dat, datL_map o xs]; rfl
theorem canL_map {α : Type} [Enc α] : ∀ xs : List α, PyData.canLayAll0 (xs.map pd) = true
  | [] => rfl
  | x :: xs => by rw [List.map_cons, PyData.canLayAll0, can, canL_map xs]; rfl
theorem deepL_map {α : Type} [Enc α] : ∀ xs : List α, PyData.depthAll (xs.map pd) ≤ dep α
  | [] => Nat.zero_le _
  | x :: xs => by rw [List.map_cons, PyData.depthAll]; exact Nat.max_le.mpr ⟨deep x, deepL_map xs⟩
theorem injL_map {α : Type} [Enc α] : ∀ xs ys : List α, PyData.eqvAll (xs.map pd) (ys.map pd) = true ↔ xs = ys
  | [], [] => by simp [PyData.eqvAll]
  | [], y :: ys => by simp [PyData.eqvAll]
  | x :: xs, [] => by simp [PyData.eqvAll]
  | x :: xs, y :: ys => by
    rw [List.map_cons, List.map_cons, PyData.eqvAll, Bool.and_eq_true, inj, injL_map xs ys]
    simp
theorem frzL_map {α : Type} [Enc α] (o : Fl) (xs : List α) : frzD (xs.map (en o)) = xs.map (en o.frz) := by
  rw [frzD_map, List.map_map]
  exact List.map_congr_left fun x _ => frz o x
theorem noFL_map {α : Type} [Enc α] : ∀ xs : List α, noFL (xs.map (en .o)) = true
  | [] => rfl
  | x :: xs => by rw [List.map_cons, noFL, noF, noFL_map xs]; rfl
theorem pureL_map {α : Type} [Enc α] {o : Fl} (h : o ≠ .o) : ∀ xs : List α, pureL (xs.map (en o)) = true
  | [] => rfl
  | x :: xs => by rw [List.map_cons, pureL, pureS o x h, pureL_map h xs]; rfl
instance {α : Type} [Enc α] : Enc (List α) where
  en o xs := .n (.lst o) (xs.map (en o))
  pd xs := .list (xs.map pd)
  dep := dep α + 1
  dat o xs := by rw [D.dat, datL_map]; rfl
  can xs := by rw [PyData.canLay0, canL_map]
  deep xs := by rw [PyData.depth]; exact Nat.add_le_add_right (deepL_map xs) 1
  inj xs ys := by rw [PyData.eqv, injL_map]
  frz o xs := by rw [D.frz, frzL_map]; rfl
  noF xs := by rw [D.noF, noFL_map]; rfl
  pureS o xs h := by
    rw [D.pure, pureL_map h]
    cases o <;> first | rfl | exact absurd rfl h
instance {α β : Type} [Enc α] [Enc β] : Enc (α × β) where
  en o x := .n .tup [en o x.1, en o x.2]
  pd x := .tuple [pd x.1, pd x.2]
  dep := max (dep α) (dep β) + 1
  dat o x := by simp [D.dat, datL, dat]
  can x := by simp [PyData.canLay0, PyData.canLayAll0, can]
  deep x := by
    have := deep x.1
    have := deep x.2
    simp only [PyData.depth, PyData.depthAll]
    omega
  inj x y := by
    simp only [PyData.eqv, PyData.eqvAll, Bool.and_eq_true, inj, Bool.and_true]
    exact Prod.ext_iff.symm
  frz o x := by simp [D.frz, frzD, frz]
  noF x := by simp [D.noF, noFL, noF]
  pureS o x h := by simp [D.pure, pureL, pureS o _ h]
@[simp] theorem en_int (o : Fl) (i : Int) : en o i = D.s (.int i) := rfl
@[simp] theorem en_bool (o : Fl) (i : Bool) : en o i = D.s (.bl i) := rfl
theorem shaped_en {α : Type} [Enc α] (h : dep α ≤ 64) (x : α) : SeqAt.shaped (pd x) = true := by
  unfold SeqAt.shaped
  rw [can, decide_eq_true (Nat.le_trans (deep x) h)]
  rfl
theorem eqB_en {α : Type} [Enc α] [DecidableEq α] (h : dep α ≤ 64) (o o' : Fl) (x y : α) : fEqB (en o x) (en o' y) = some (decide (x = y)) := by
  unfold fEqB
  rw [dat, dat]
  simp only [Option.bind_some]
  rw [shaped_en h, shaped_en h]
  simp only [Bool.and_self, if_true]
  congr 1
  rw [Bool.eq_iff_iff, inj, decide_eq_true_iff]
theorem eq_en {α : Type} [Enc α] [DecidableEq α] (h : dep α ≤ 64) (o o' : Fl) (x y : α) : fEq (en o x) (en o' y) = some (.bl (decide (x = y))) := by
  rw [fEq, eqB_en h]; rfl
theorem ne_en {α : Type} [Enc α] [DecidableEq α] (h : dep α ≤ 64) (o o' : Fl) (x y : α) : fNe (en o x) (en o' y) = some (.bl (!decide (x = y))) := by
  rw [fNe, eqB_en h]; rfl
@[simp] theorem eq_int (i j : Int) : fEq (.s (.int i)) (.s (.int j)) = some (.bl (decide (i = j))) := eq_en (α := Int) (by decide) .s .s i j
@[simp] theorem ne_int (i j : Int) : fNe (.s (.int i)) (.s (.int j)) = some (.bl (!decide (i = j))) := ne_en (α := Int) (by decide) .s .s i j
theorem intsD_map : ∀ xs : List Int, intsD (xs.map fun i => D.s (.int i)) = some xs
  | [] => rfl
  | x :: xs => by rw [List.map_cons, intsD, intsD_map xs]; rfl
theorem boolsD_map : ∀ xs : List Bool, boolsD (xs.map fun i => D.s (.bl i)) = some xs
  | [] => rfl
  | x :: xs => by rw [List.map_cons, boolsD, boolsD_map xs]; rfl


end Ow

namespace Ow
open PySem L2 Enc


section
variable {α : Type} [Enc α]
end
end Ow

namespace Ow
open PySem L2 Enc


theorem bD_nm (j : Nat) (d : D) (e : Env) : bD (.nm j) d e = some (e.set j (some d)) := by rw [bD]

section
variable {α : Type} [Enc α]
end

section
variable {m n : PM} {ml : LM} {e : Env} {d d2 : D}
end
end Ow

namespace Ow
open PySem L2 Enc
section
variable {X : Cx} {P : List Nat} {st : Stmt}
theorem ss_none : SS X P st (fun _ => none) := ⟨fun pins s σ H D I ⟨env, o, e', hm, _⟩ => by cases hm⟩
end

def fIdx (x y : D) : Option V := match x, y with
  | .n (.lst _) ds, .s (.int i) => (intsD ds).bind fun ns => if i ∈ ns then some (.int (ns.idxOf i : Nat)) else none
  | _, _ => none
def mIdx (ma mb : PM) : PM := fun env => (ma env).bind fun x => (mb env).bind fun y => (fIdx x y).bind sv
theorem eqV_ii (i j : Int) : eqV (.int i) (.int j) = decide (i = j) := by
  first | rfl | (simp [eqV]) | (unfold eqV; rfl)
theorem idx_first : ∀ (ns : List Int) (i : Int) (m : Nat) (z : Int), m < ns.idxOf i → ns[m]? = some z → z ≠ i
  | [], _, _, _, h, _ => by simp at h
  | x :: xs, i, m, z, h, hz => by
    rw [List.idxOf_cons] at h
    by_cases e : x = i
    · simp [e] at h
    · have e0 : (x == i) = false := by simp [e]
      rw [e0] at h
      dsimp only [cond_false] at h
      cases m with
      | zero => rw [List.getElem?_cons_zero] at hz; cases hz; exact e
      | succ m =>
        rw [List.getElem?_cons_succ] at hz
        exact idx_first xs i m z (by omega) hz
section
variable {X : Cx} {o e : Expr} {ma mb : PM} {apos cpos : Pos}
theorem sp_index (ho : SB X o ma) (ha : SB X e mb)
    (hbase : attributeBase o "index" X.env (eval o X.env) = eval o X.env := by rfl)
    (hfew : ((backTo cpos (starEach ([e]) X.env)).all (fun x => !x.1) && (backToKw cpos (keywordEach [] X.env)).all (fun x => x.1.isSome)
      && decide (([e] : List Expr).length + ([] : List Keyword).length + (if ([] : List Keyword).isEmpty then 0 else 1) < 30)) = true := by rfl)
    (hline : (apos.endLine == cpos.line) = true := by rfl) (hs : starEach [e] X.env = (false, eval e X.env) :: starEach [] X.env := by rfl) : SP X (.Call (.Attribute o "index" apos) [e] [] cpos) (mIdx ma mb) :=
  PE.weak (pe_bm (T := "list") PySem.F.plainAttrs_list PySem.F.slot_list_index PySem.F.type_list_index mt_index ho (pa_cons ha pa_nil hs) hbase hfew hline hs (by rfl)) fun σ H Q ⟨env, d, hm, r, s, k⟩ => by
    obtain ⟨x, hx, hm⟩ := bind_some hm
    obtain ⟨y, hy, hm⟩ := bind_some hm
    obtain ⟨v, hv, hm⟩ := bind_some hm
    obtain ⟨s1, rfl⟩ := sv_some hm
    refine ⟨env, x, hx, r, s, fun t H1 e1 x1 s1' b1 => ?_⟩
    subst e1
    unfold fIdx at hv
    split at hv
    case h_2 => cases hv
    rename_i oo ds i g1
    obtain ⟨ns, g3, hv⟩ := bind_some hv
    split at hv
    case isFalse => cases hv
    rename_i hi
    cases hv
    obtain ⟨a, ts, f1, f2, f3, f4, f5, f6⟩ := rdL s1' g1
    rw [f1]
    refine ⟨.inl ⟨rfl, _, f3⟩, ?_⟩
    refine ⟨env, _, hy, r, s.ex x1, fun u H2 e2 x2 s2 b2 => ?_⟩
    have hu := er_int e2
    rw [← f2] at g3
    rw [intsD_of g3, vals_ints] at f3
    have hlt : ns.idxOf i < ns.length := List.idxOf_lt_length_of_mem hi
    obtain ⟨a', ts', f1', f2', f3', _⟩ := rdL (sat_ex x2 s1') g1
    rw [f1] at f1'
    cases f1'
    refine ⟨a, ns.map V.int, .int i, ns.idxOf i, .int i, rfl, by rw [hu]; rfl, ?_, rfl, ?_, ?_, ?_, ?_, ?_⟩
    · have : ts' = ns.map fun i => T.s (.int i) := intsD_of (by rw [f2', ← f2]; exact g3)
      rw [this, vals_ints] at f3'
      exact f3'
    · rw [List.all_map, List.all_eq_true]; intro _ _; rfl
    · rw [List.getElem?_map, List.getElem?_eq_getElem hlt, List.getElem_idxOf hlt]; rfl
    · rw [eqV_ii]; exact decide_eq_true rfl
    · intro m z' hm' hz'
      rw [List.getElem?_map] at hz'
      obtain ⟨z, hz, rfl⟩ := map_some hz'
      rw [eqV_ii]
      exact decide_eq_false (idx_first ns i m z hm' hz)
    · exact k (.s (.int (ns.idxOf i : Nat))) H2 rfl (x1.trans x2) trivial own_s
end
end Ow

namespace Ow
open PySem L2 Enc

section
variable {K : PySem.W.Frag} {H0 H H' : Hp} {env0 env : TEnv} {σ : L2.St} {F' G G' : List T} {i : Nat} {t : T} {a : Addr} {ts ts' : List T}
end
def keyD : D → Option Key
  | .s (.int i) => some (.inl i)
  | .s (.str z) => some (.inr z)
  | _ => none
@[simp] theorem keyD_int {i : Int} : keyD (.s (.int i)) = some (.inl i) := rfl
@[simp] theorem keyD_str {z : PySem.Str} : keyD (.s (.str z)) = some (.inr z) := rfl
theorem keyD_some {d : D} {k : Key} (h : keyD d = some k) : d = .s (kV k) := by
  unfold keyD at h
  split at h
  · cases h; rfl
  · cases h; rfl
  · cases h
def sclD : List D → Option (List V)
  | [] => some []
  | .s v :: ds => if scl v = true then (sclD ds).map (v :: ·) else none
  | _ => none
def dicD (o : Fl) (kvs : List (Key × V)) : D := .n (.dic o (kvs.map (·.1))) (kvs.map fun p => .s p.2)
def dicP : D → Option (List (Key × V))
  | .n (.dic o ks) ds => if (nw o && decide (ks.length = ds.length)) = true then (sclD ds).map (ks.zip ·) else none
  | _ => none
theorem sclD_er : ∀ {ts : List T} {vs : List V}, sclD (erL ts) = some vs → ts = vs.map T.s ∧ vs.all scl = true
  | [], vs, h => by cases h; exact ⟨rfl, rfl⟩
  | t :: ts, vs, h => by
    rw [erL] at h
    cases t with
    | s v =>
      rw [T.er, sclD] at h
      split at h
      · rename_i hv
        obtain ⟨us, h1, rfl⟩ := map_some h
        obtain ⟨rfl, h2⟩ := sclD_er h1
        have hv2 : scl v = true := by
          unfold hid at hv
          split at hv
          · assumption
          · cases hv
        rw [hid_scl hv2]
        refine ⟨rfl, ?_⟩
        rw [List.all_cons, hv2, h2]; rfl
      · cases h
    | n k a us => rw [T.er] at h; cases h
    | w z k a us => rw [T.er] at h; cases h
theorem rdD {K : PySem.W.Frag} {H : Hp} {t : T} {kvs : List (Key × V)} (hs : t.sat K H) (h : dicP t.er = some kvs) : ∃ o a ts, t = .n (.dic o (kvs.map (·.1))) a ts ∧ ts = kvs.map (fun p => T.s p.2) ∧ H a = some (.dK kvs) ∧ (kvs.map (·.2)).all scl = true := by
  unfold dicP at h
  split at h
  case h_2 => cases h
  rename_i o ks ds he
  split at h
  case isFalse => cases h
  rename_i hc
  rw [Bool.and_eq_true, decide_eq_true_iff] at hc
  obtain ⟨vs, h1, rfl⟩ := map_some h
  obtain ⟨a, ts, rfl, f2, f3, f4⟩ := rdN hs he (by cases o <;> first | rfl | cases hc.1) (by simp)
  rw [← f2] at h1 hc
  obtain ⟨rfl, hv⟩ := sclD_er h1
  have hl : ks.length = vs.length := by rw [hc.2, erL_length, List.length_map]
  have z1 : (ks.zip vs).map (·.1) = ks := List.map_fst_zip (Nat.le_of_eq hl)
  have z2 : (ks.zip vs).map (·.2) = vs := List.map_snd_zip (Nat.le_of_eq hl.symm)
  refine ⟨o, a, _, by rw [z1], ?_, ?_, by rw [z2]; exact hv⟩
  · have : ((ks.zip vs).map fun p => T.s p.2) = ((ks.zip vs).map (·.2)).map T.s := by rw [List.map_map]; rfl
    rw [this, z2]
  · rw [f3]
    show some (HO.dK (ks.zip (vals (vs.map T.s)))) = _
    have : vals (vs.map T.s) = vs := by
      show (vs.map T.s).map T.val = vs
      rw [List.map_map]
      exact List.map_id _
    rw [this]
def mDin (mx my : PM) : BM := fun env => (mx env).bind fun x => (my env).bind fun y => (keyD x).bind fun k => (dicP y).map fun kvs => (valV kvs k).isSome
def mDnin (mx my : PM) : BM := fun env => (mx env).bind fun x => (my env).bind fun y => (keyD x).bind fun k => (dicP y).map fun kvs => !(valV kvs k).isSome
def mDget (my mx : PM) : PM := fun env => (my env).bind fun y => (mx env).bind fun x => (keyD x).bind fun k => (dicP y).bind fun kvs => (valV kvs k).bind sv
theorem key_er {u : T} {d : D} {k : Key} (e : u.er = d) (h : keyD d = some k) : u.val = kV k := by
  subst e
  have := keyD_some h
  cases u with
  | s v =>
    rw [T.er] at this
    injection this with this
    show v = kV k
    unfold hid at this
    split at this
    · exact this
    · cases k <;> cases this
  | n k' a ts => rw [T.er] at this; cases this
  | w z k' a ts => rw [T.er] at this; cases this
section
variable {X : Cx} {k : Nat} {i o : Expr} {mx my : PM} {pos : Pos}
end
def dicO : D → Option (List (Key × V))
  | .n (.dic .o ks) ds => dicP (.n (.dic .o ks) ds)
  | _ => none
theorem coL_sc (b : Addr) : ∀ vs : List (Key × V), coL b (vs.map fun p => T.s p.2) = 0
  | [] => rfl
  | v :: vs => by rw [List.map_cons, coL, coL_sc b vs, T.co]
theorem cuL_sc (b : Addr) : ∀ vs : List (Key × V), cuL b (vs.map fun p => T.s p.2) = 0
  | [] => rfl
  | v :: vs => by rw [List.map_cons, cuL, cuL_sc b vs, T.cu]
theorem satL_sc {K : PySem.W.Frag} {H : Hp} : ∀ vs : List (Key × V), satL K H (vs.map fun p => T.s p.2)
  | [] => trivial
  | v :: vs => ⟨trivial, satL_sc vs⟩
theorem ho_sc (kvs : List (Key × V)) : (Kd.dic .o (kvs.map (·.1))).ho (vals (kvs.map fun p => T.s p.2)) = .dK kvs := by
  show HO.dK ((kvs.map (·.1)).zip (vals (kvs.map fun p => T.s p.2))) = _
  have : vals (kvs.map fun p => T.s p.2) = kvs.map (·.2) := by
    show (kvs.map fun p => T.s p.2).map T.val = _
    rw [List.map_map]; rfl
  rw [this]
  congr 1
  induction kvs with
  | nil => rfl
  | cons p kvs ih =>
    rw [List.map_cons, List.map_cons, List.zip_cons_cons, ih (by show (kvs.map fun p => T.s p.2).map T.val = _; rw [List.map_map]; rfl)]
theorem er_sc {kvs : List (Key × V)} {a : Addr} (h : (kvs.map (·.2)).all scl = true) : (T.n (.dic .o (kvs.map (·.1))) a (kvs.map fun p => T.s p.2)).er = dicD .o kvs := by
  rw [T.er, dicD]
  congr 1
  induction kvs with
  | nil => rfl
  | cons p kvs ih =>
    rw [List.map_cons, List.all_cons, Bool.and_eq_true] at h
    rw [List.map_cons, List.map_cons, erL, ih h.2, T.er, hid_scl h.1]
def sDput (j : Nat) (mx mv : PM) : SM := fun env => (mv env).bind fun v => (env[j]?.join).bind fun d => (mx env).bind fun x => (keyD x).bind fun k => (dicO d).bind fun kvs => match v with
  | .s w => if (scl w && decide (kvs.length < 16777216)) = true then some (.nx, env.set j (some (dicD .o (putK kvs k w)))) else none
  | _ => none
def sDdel (j : Nat) (mx : PM) : SM := fun env => (env[j]?.join).bind fun d => (mx env).bind fun x => (keyD x).bind fun k => (dicO d).bind fun kvs => if (valV kvs k).isSome = true then some (.nx, env.set j (some (dicD .o (dropK kvs k)))) else none
theorem putK_scl {kvs : List (Key × V)} {k : Key} {w : V} (h : (kvs.map (·.2)).all scl = true) (hw : scl w = true) : ((putK kvs k w).map (·.2)).all scl = true := by
  rw [List.all_map, List.all_eq_true] at *
  intro p hp
  unfold putK at hp
  split at hp
  · obtain ⟨q, hq, rfl⟩ := List.mem_map.mp hp
    dsimp only [Function.comp]
    split
    · exact hw
    · exact h q hq
  · rw [List.mem_append, List.mem_singleton] at hp
    rcases hp with hp | rfl
    · exact h p hp
    · exact hw
section
variable {X : Cx} {k : Nat} {P : List Nat} {i o e : Expr} {mx mv : PM} {pos tpos : Pos} {j : Nat}
end
end Ow

namespace Ow
open PySem L2 Enc

def srt (ns : List Int) : List Int := ns.mergeSort fun a b => decide (a ≤ b)
def fSorted (ds : List D) : Option (List D) := (li ds).map fun ns => (srt ns).map fun i => .s (.int i)
section
variable {X : Cx} {e : Expr} {ml : LM} {p pos : Pos}
end
end Ow

namespace Ow
open PySem L2 Enc

def svD : D → Option V
  | .s w => if scl w = true then some w else none
  | _ => none
theorem svD_er {u : T} {d : D} {w : V} (e : u.er = d) (h : svD d = some w) : u.val = w ∧ scl w = true := by
  subst e
  cases u with
  | s z =>
    rw [T.er, svD] at h
    split at h
    · rename_i hz
      cases h
      have : scl z = true := by
        unfold hid at hz
        split at hz
        · assumption
        · cases hz
      rw [hid_scl this]
      exact ⟨rfl, this⟩
    · cases h
  | n k' a ts => rw [T.er] at h; cases h
  | w z k' a ts => rw [T.er] at h; cases h
def dcD (g : Tg) (mt : BM) (mx mv : PM) (e0 : Env) : List D → List (Key × V) → Option (List (Key × V))
  | [], kvs => some kvs
  | d :: ds, kvs => (bD g d e0).bind fun e1 => (mt e1).bind fun b => if b = true then (mx e1).bind fun x => (keyD x).bind fun k => (mv e1).bind fun v => (svD v).bind fun w => dcD g mt mx mv e0 ds (putK kvs k w) else dcD g mt mx mv e0 ds kvs
def mDc (mi : LM) (g : Tg) (mt : BM) (mx mv : PM) (vs : List Nat) : PM := fun env => (mi env).bind fun ds => if ds.length ≤ 16777216 then (dcD g mt mx mv (wipeD env vs) ds []).map fun kvs => dicD .o kvs else none
structure DcW (H H1 : Hp) (Dl : Addr) (g : Tg) (mt : BM) (mx mv : PM) (e0 : Env) (ds : List D) (rs : List (Key × V)) (i m : Nat) (H' : Hp) : Prop where
  le : i ≤ ds.length
  ms : m = ds.length - i
  ex : Ex H1 H'
  acc : ∃ kvs, H' Dl = some (.dK kvs) ∧ (kvs.map (·.2)).all scl = true ∧ kvs.length ≤ i ∧ dcD g mt mx mv e0 (ds.drop i) kvs = some rs
theorem putK_len (kvs : List (Key × V)) (k : Key) (w : V) : (putK kvs k w).length ≤ kvs.length + 1 := by
  unfold putK
  split
  · rw [List.length_map]; omega
  · rw [List.length_append]; exact Nat.le_refl _
section
variable {X : Cx} {kx vx tg iter : Expr} {ifs : List Expr} {scope : Scope} {own : List (Str × Nat)} {pos : Pos} {mi : LM} {g : Tg} {mt : BM} {mx mv : PM}
theorem dc_rd {K : PySem.W.Frag} {σ : L2.St} {H : Hp} {Q : VK} {vs : List Nat} (hsl : ∀ i ∈ g.sl, i ∈ vs) (h : trP K (mDc mi g mt mx mv vs) σ H Q) : tDc (trI K mi) (gOf K g) (trT K mt) (trB K mx) (trB K mv) vs σ H Q := by
  obtain ⟨env, d, hm, r, s, k⟩ := h
  obtain ⟨ds, hi, hm⟩ := bind_some hm
  split at hm
  case isFalse => cases hm
  rename_i hlen
  obtain ⟨rs, hrs, rfl⟩ := map_some hm
  refine ⟨env, ds, hi, r, s, fun J src H1 x1 ss bs w Dl hD => ?_⟩
  rw [← wipe_er] at hrs
  refine ⟨DcW H H1 Dl g mt mx mv (erE (wipeT env vs)) ds rs, ⟨ds.length, ?_⟩, fun i m H2 W => ?_⟩
  · exact ⟨Nat.zero_le _, rfl, Evl.Ex.new hD, [], upd_same, rfl, Nat.le_refl _, hrs⟩
  obtain ⟨le, ms, ex, kvs, hacc, hscl, lacc, hrr⟩ := W
  have ss2 : satL K H2 src := satL_ex ex ss
  by_cases hi2 : i < ds.length
  · refine .inr ⟨w.go i H2 ss2 hi2, fun H' => ∃ m', m' < m ∧ DcW H H1 Dl g mt mx mv (erE (wipeT env vs)) ds rs (i + 1) m' H', fun H' h => h, fun x H3 hy => ?_⟩
    have hd := List.getElem?_eq_getElem hi2
    obtain ⟨t, rfl, et, x3, s3, c3, u3⟩ := w.yld i H2 x H3 ss2 hy _ hd
    have hdr : ds.drop i = ds[i] :: ds.drop (i + 1) := List.drop_eq_getElem_cons hi2
    rw [hdr, dcD] at hrr
    obtain ⟨e1, hb1, hrr⟩ := bind_some hrr
    obtain ⟨b, hb2, hb3⟩ := bind_some hrr
    rw [← et] at hb1
    have sw : SatE K H3 (wipeT env vs) := (wipe_sat ((s.ex x1).ex ex) vs).ex x3
    refine g_run g t (wipe σ vs) (wipeT env vs) e1 _ (wipe_rel r vs) s3 hb1 fun σ2 env2 B => ?_
    refine ⟨wipe_same B.len (fun i hi => (B.out i hi).1) hsl, ?_⟩
    have s2 : SatE K H3 env2 := fun u hu => by
      rcases B.sat u hu with q | q
      · exact sw u q
      · exact q
    have hl3 : H3 Dl = some (.dK kvs) := x3 Dl _ hacc
    refine ⟨env2, b, by rw [B.er]; exact hb2, B.rel, s2, fun H4 x4 => ?_⟩
    have hl4 : H4 Dl = some (.dK kvs) := x4 Dl _ hl3
    have ex4 : Ex H1 H4 := (ex.trans x3).trans x4
    cases b with
    | true =>
      rw [if_pos rfl] at hb3
      obtain ⟨x, hx, hb3⟩ := bind_some hb3
      obtain ⟨kk, hk, hb3⟩ := bind_some hb3
      obtain ⟨v, hv, hb3⟩ := bind_some hb3
      obtain ⟨wv, hw, hb3⟩ := bind_some hb3
      dsimp only
      rw [if_pos rfl]
      refine ⟨env2, x, by rw [B.er]; exact hx, B.rel, s2.ex x4, fun u H5 eu x5 s5 b5 => ⟨env2, v, by rw [B.er]; exact hv, B.rel, (s2.ex x4).ex x5, fun u2 H6 eu2 x6 s6 b6 => ?_⟩⟩
      have hl6 : H6 Dl = some (.dK kvs) := x6 Dl _ (x5 Dl _ hl4)
      obtain ⟨v1, v2⟩ := svD_er eu2 hw
      have hlt : kvs.length < 16777216 := by omega
      refine ⟨kvs, kk, key_er eu hk, hl6, by rw [sizeLine_eq]; exact hlt, m - 1, by omega, ?_⟩
      rw [v1]
      refine ⟨hi2, by omega, Evl.Ex.mut ((ex4.trans x5).trans x6) hD, putK kvs kk wv, upd_same, putK_scl hscl v2, ?_, hb3⟩
      have := putK_len kvs kk wv
      omega
    | false =>
      rw [if_neg Bool.false_ne_true] at hb3
      dsimp only
      rw [if_neg Bool.false_ne_true]
      exact ⟨m - 1, by omega, hi2, by omega, ex4, kvs, hl4, hscl, by omega, hb3⟩
  · have hi3 : ds.length ≤ i := Nat.le_of_not_lt hi2
    refine .inl ⟨w.stop i H2 ss2 hi3, ?_⟩
    rw [List.drop_eq_nil_of_le hi3, dcD] at hrr
    cases hrr
    refine k (.n (.dic .o (rs.map (·.1))) Dl (rs.map fun p => T.s p.2)) H2 (er_sc hscl) (x1.trans ex) ⟨⟨by rw [ho_sc]; exact hacc, rfl⟩, satL_sc _⟩ fun a => ?_
    have c4 : H1 a = none → H a = none := Evl.fresh_back x1
    rw [T.co, T.cu, coL_sc, cuL_sc]
    by_cases q : Dl = a
    · subst q
      refine ⟨by simp [Kd.own], fun _ => c4 hD, fun q => absurd q (by simp [Kd.own])⟩
    · rw [if_neg (fun z => q z.2), if_neg (fun z => q z.2)]
      exact ⟨by omega, fun z => absurd z (by omega), fun z => absurd z (by omega)⟩
end
end Ow

namespace Ow
open PySem L2 Enc
section
variable {K : PySem.W.Frag} {H0 H : Hp} {env0 env : TEnv} {σ : L2.St} {F ts : List T} {k : Kd} {p : Addr}
theorem Cf.node (c : Cf K H0 env0 σ H (ts ++ F) env) (hk : k.isw = false) (hp : H p = none) : Cf K H0 env0 σ (upd H p (k.ho (vals ts))) (T.n k p ts :: F) env := by
  have x : Ex H (upd H p (k.ho (vals ts))) := Evl.Ex.new hp
  have c' := c.ex x
  have sF := satL_append.mp c'.satF
  have z1 : ¬ 0 < coL p (ts ++ F) := fun h => coL_some _ c.satF h hp
  have z2 : ¬ 0 < cuL p (ts ++ F) := fun h => cuL_some _ c.satF h hp
  have z3 : ¬ 0 < coE p env := fun h => coE_some c.satE h hp
  have z4 : ¬ 0 < cuE p env := fun h => cuE_some c.satE h hp
  rw [coL_append] at z1
  rw [cuL_append] at z2
  refine ⟨c'.rel, ⟨⟨⟨upd_same, hk⟩, sF.1⟩, sF.2⟩, c'.satE, fun a => ?_, ⟨fun a o h hc => ?_, fun a h => ?_, fun a => ?_⟩⟩
  · have w := c.wf a
    simp only [coL_append, cuL_append] at w
    simp only [coL, cuL, T.co, T.cu]
    by_cases q : p = a
    · subst q
      by_cases o : k.own = true
      · rw [if_pos ⟨o, rfl⟩, if_neg (fun z => by rw [o] at z; exact absurd z.1 (by decide))]
        omega
      · have o' : k.own = false := by simpa using o
        rw [if_neg (fun z => o z.1), if_pos ⟨o', rfl⟩]
        omega
    · rw [if_neg (fun z => q z.2), if_neg (fun z => q z.2)]
      omega
  · exact x a o (c.stp.1 a o h hc)
  · exact c.stp.2.1 a (Evl.fresh_back x h)
  · have s3 := c.stp.2.2 a
    simp only [coL_append, cuL_append] at s3
    simp only [coL, cuL, T.co, T.cu]
    by_cases q : p = a
    · subst q
      have hn := c.stp.2.1 p hp
      exact ⟨fun _ => .inr hn, fun _ => .inr (.inr hn)⟩
    · rw [if_neg (fun z => q z.2), if_neg (fun z => q z.2)]
      refine ⟨fun h => s3.1 (by omega), fun h => s3.2 (by omega)⟩
end
section
variable {X : Cx} {e a b : Expr} {me m1 m2 : EM} {pos p : Pos} {U : List Nat}
def eTup2 (m1 m2 : EM) : EM := fun env => (m1 env).bind fun x => (m2 x.2).map fun y => (.n .tup [x.1, y.1], y.2)
theorem se_tup2 {x1} (ha : SE X U a m1) (hb : SE X U b m2) (h1s : starEach [a, b] X.env = (false, eval a X.env) :: starEach [b] X.env := by rfl) (h2s : starEach [b] X.env = (false, eval b X.env) :: starEach [] X.env := by rfl) : SE X U (.Tuple [a, b] x1 pos) (eTup2 m1 m2) :=
  PE.weak (pe_tup (pa_cons ha (pa_cons hb pa_nil h2s) h1s)) fun σ H Q ⟨env, d, e', hm, r, s, w, k⟩ => by
    obtain ⟨x, hx, hm⟩ := bind_some hm
    obtain ⟨y, hy, e1⟩ := map_some hm
    cases e1
    unfold tTup tCons tNil
    refine goE (d := x.1) (e' := x.2) (Cf.start r s w) hx fun t1 env1 H1 e1 e2 c1 u1 => ?_
    rw [← e2] at hy
    refine goE (d := y.1) (e' := y.2) c1 hy fun t2 env2 H2 e3 e4 c2 u2 => ?_
    refine ⟨sizeLine_le (by simp), fun q hq => ?_⟩
    have c3 : Cf X.K H env σ H2 ([t1, t2] ++ []) env2 := c2.less c2.rel ⟨c2.satF.2.1, c2.satF.1, trivial⟩ c2.satE (fun a => by simp only [coL, List.append_nil]; omega) (fun a => by simp only [cuL, List.append_nil]; omega)
    have c4 := c3.node (k := .tup) rfl hq
    exact k (.n .tup q [t1, t2]) env2 _ (by rw [T.er, erL, erL, erL, e1, e3]) e4 c4 (fun i hi => (u2 i hi).trans (u1 i hi))
def eSorted (me : EM) : EM := fun env => (me env).bind fun x => (fSorted [x.1]).map fun ds => (.n (.lst .o) ds, x.2)
end
end Ow

namespace Ow
open PySem L2 Enc
section
variable {X : Cx} {P : List Nat}
theorem sw_dc {kx vx : Expr} {gs : List Comprehension} {sc : Scope} {po pn : Pos} {y : PySem.Str} {n : Nat} {ev : PySem.Env} (h1 : ev.scope.kind = .function) (h2 : ev.scope.names.lookup y = some .local) (h3 : (pn.line == po.line) = true)
    (h4 : (sc.names.any fun (z, q) => z == y && (q == .local || q == .cell)) = false) :
    swapsWith (.DictComp kx vx gs sc po) (some (.Name y pn)) n ev = pure true := by
  have e1 : ev.kindOf y = some .local := h2
  have e2 : ev.blockKind = .function := by
    rw [Env.blockKind, h1]; rfl
  unfold swapsWith
  simp only [e2, e1, h4, Expr.pos, h3]
  rfl
theorem ss_setDc {kx vx tg it : Expr} {ifs : List Expr} {sc : Scope} {own : List (PySem.Str × Nat)} {mi : LM} {g : Tg} {mt : BM} {mx mv : PM} {y : PySem.Str} {pn po ps : Pos} (i : Nat) (hP : i ∉ P) (hc : X.calm = true) (hN : X.N.Nodup) (hi : SI X tg it mi) (ok : blkC X.N X.env.scope sc own = true)
    (hg : ∀ (s : Shared) (H : Hp) (C : Addr) (cl : List (PySem.Str × Addr)) (fp : List Addr), SG (X.blk s H sc (compEnvC sc cl C X.env) fp) tg g)
    (ht : ∀ (s : Shared) (H : Hp) (C : Addr) (cl : List (PySem.Str × Addr)) (fp : List Addr), STs (X.blk s H sc (compEnvC sc cl C X.env) fp) ifs mt)
    (hk : ∀ (s : Shared) (H : Hp) (C : Addr) (cl : List (PySem.Str × Addr)) (fp : List Addr), SB (X.blk s H sc (compEnvC sc cl C X.env) fp) kx mx)
    (he : ∀ (s : Shared) (H : Hp) (C : Addr) (cl : List (PySem.Str × Addr)) (fp : List Addr), SB (X.blk s H sc (compEnvC sc cl C X.env) fp) vx mv) (hsl : ∀ j ∈ g.sl, j ∈ own.map (·.2))
    (hw : swapsWith (.DictComp kx vx [⟨tg, it, ifs, 0⟩] sc po) (some (.Name y pn)) ps.line X.env = pure true) (hy : X.N[i]? = some y := by rfl) (hl : X.env.scope.names.lookup y = some .local := by rfl) (hs : ∀ x, foldedSetIterable it X.env x = pure x := by intro _; rfl) :
    SS X P (.Assign [.Name y pn] (.DictComp kx vx [⟨tg, it, ifs, 0⟩] sc po) ps) (sSet i (lift (mDc mi g mt mx mv (own.map (·.2))))) := ⟨fun pins s σ H De I h => by
  have z : tDc (trI X.K mi) (gOf X.K g) (trT X.K mt) (trB X.K mx) (trB X.K mv) (own.map (·.2)) σ H (fun x H1 => gName i x σ H1 De.nx) := by
    obtain ⟨env, d, e', hm, r, sa, w, k⟩ := asg_rd (X := X) hP h
    obtain ⟨x, hx, e1⟩ := map_some hm
    cases e1
    exact dc_rd hsl (goP (Cf.start r sa w) hx fun t H' e1 x c => k t env H' e1 rfl c fun _ _ => rfl)
  rw [exec_Assign_Name_used _ _ _ _ hw]
  refine wpAny_bind (wpAny_standAt ?_)
  refine wpAny_bind ?_
  show wpAny _ X.A (do
    let _ ← comprehension (.DictComp kx vx [⟨tg, it, ifs, 0⟩] sc po) sc X.env (firstIterPos [⟨tg, it, ifs, 0⟩] po) newDict false (eval it X.env) (some (assign (.Name y pn) X.env))) _ _ s
  have fin := dc_core (own := own) (g := gOf X.K g) (tt := trT X.K mt) (tk := trB X.K mx) (tv := trB X.K mv) (use := some (assign (.Name y pn) X.env)) (pos' := firstIterPos [⟨tg, it, ifs, 0⟩] po) (pos := po) (Qf := fun _ s' => L2.SP X pins De .next s') hc hN I hi (blkOk_by ok) hg ht hk he hs z
  refine wpAny_bind (thn (fin fun D C s2 m H2 I2 zz hn f => ?_) fun _ s3 hq => wpAny_pure (wpAny_pure hq))
  show wpAny _ _ (assign (.Name y pn) X.env (.ref D)) _ _ _
  refine wpAny_assign_Name (store_ok2 (v := .ref D) I2 hN hy (Or.inl hl) rfl (fun s4 I4 hx => ?_) (Or.inr hl))
  obtain ⟨a, sb, ha⟩ := hx
  have ne : C ≠ a := by
    rcases ha with u | u
    · rw [u]; exact f.2.1
    · exact fun e => f.2.2.2.2.1 y a u e.symm
  exact ⟨m, hn.sameBut sb ne, fun h3 sb3 => ⟨_, H2, I4.turned (t' := s4.toks) (fun b o hb e => (sb3.2 b hb).trans e) f.1 f.2.1 f.2.2.2.1 f.2.2.2.2.1 f.2.2.2.2.2, zz⟩⟩⟩
end
end Ow

namespace Ow
open PySem L2 Enc
def fXor := fI okI fun i j => .int (Builtin.bitXor i j)
section
variable {X : Cx} {a b : Expr} {pos : Pos} {ma mb : PM} {m1 m2 : EM} {U : List Nat}
theorem sp_xor (ha : SB X a ma) (hb : SB X b mb) : SP X (.BinOp a .BitXor b pos) (mOp2 fXor ma mb) := sp_op op_xor op2_I0 ha hb
end
end Ow

namespace Ow
open PySem L2 PySem.Spec PyProof.Rows


def pickN (n : Nat) (lo hi st : Option Int) : List Nat := sliceRange (sliceBounds lo hi st n).1 (sliceBounds lo hi st n).2.1 (sliceBounds lo hi st n).2.2
def pickG {α : Type} (xs : List α) (lo hi st : Option Int) : List α := (pickN xs.length lo hi st).filterMap fun i => xs[i]?
theorem pickG_map {α β : Type} (f : α → β) (xs : List α) (lo hi st : Option Int) : pickG (xs.map f) lo hi st = (pickG xs lo hi st).map f := by
  unfold pickG
  rw [List.length_map, List.map_filterMap]
  congr 1
  funext i
  exact List.getElem?_map ..
theorem pickG_mem {α : Type} {xs : List α} {lo hi st : Option Int} {x : α} (h : x ∈ pickG xs lo hi st) : x ∈ xs := by
  obtain ⟨i, _, h⟩ := List.mem_filterMap.mp h
  exact List.mem_of_getElem? h
theorem pickG_length {α : Type} (xs : List α) (lo hi st : Option Int) (h0 : st ≠ some 0) : (pickG xs lo hi st).length ≤ xs.length := by
  refine Nat.le_trans (List.length_filterMap_le ..) ?_
  unfold pickN sliceBounds
  refine sliceRange_length_le _ _ _ _ (fun hp => ?_) (fun hm => ?_)
  · dsimp only at hp ⊢
    simp only [hp, if_true]
    constructor
    · cases lo <;> dsimp only <;> omega
    · cases hi <;> dsimp only <;> omega
  · dsimp only at hm ⊢
    simp only [hm, if_false]
    constructor
    · cases lo <;> dsimp only <;> omega
    · cases hi <;> dsimp only <;> omega
theorem vals_pick {xs : List V} {its : List Value} (r : Vals xs its) (l : List Nat) : Vals (l.filterMap fun i => xs[i]?) (l.filterMap fun i => its[i]?) := by
  induction l with
  | nil => exact .nil
  | cons i l ih =>
    rw [List.filterMap_cons, List.filterMap_cons]
    have hl := r.length
    cases e : xs[i]? with
    | none =>
      rw [List.getElem?_eq_none (by rw [← hl]; exact List.getElem?_eq_none_iff.mp e)]
      exact ih
    | some x =>
      obtain ⟨u, hu, ru⟩ := r.get e
      rw [hu]
      exact .cons ru ih
def tSl3 (K : PySem.W.Frag) (te : TE) (tl th ts : TO) : TE := fun σ H Q => te σ H fun x H1 => tl σ H1 fun l H2 => th σ H2 fun u H3 => ts σ H3 fun c H4 => c ≠ some 0 ∧ ∃ a xs, x = .ref a ∧ SqL K H4 a xs ∧ ∀ p, H4 p = none → Q (.ref p) (upd H4 p (.lst (pickG xs l u c)))
theorem pe_slice3 {X : Cx} {e st : Expr} {te : TE} {lo hi : Option Expr} {tl th ts : TO} {pos p2 : Pos} (he : PE X e te) (hl : PO X lo tl) (hh : PO X hi th) (hst : PO X (some st) ts) : PE X (.Subscript e (.Slice lo hi (some st) p2) pos) (tSl3 X.K te tl th ts) := by
  refine ⟨fun pins s σ H Q I h => ?_⟩
  refine Subscript_ (L2.thn (he.run pins s σ H _ I h) fun v s1 ⟨x, H1, I1, r1, q1⟩ => ?_)
  refine wpAny_Slice (L2.thn (hl.run pins s1 σ H1 _ I1 q1) fun vl s2 ⟨l, H2, I2, pl, q2⟩ => ?_)
  refine L2.thn (hh.run pins s2 σ H2 _ I2 q2) fun vu s3 ⟨u, H3, I3, pu, q3⟩ => ?_
  refine L2.thn (hst.run pins s3 σ H3 _ I3 q3) fun vs s4 ⟨o, H4, I4, ps, q4⟩ => ?_
  obtain ⟨h0, a, xs, ex, hx, q⟩ := q4
  subst ex
  cases r1
  have I5 : Inv X pins σ H4 { s4 with heap := s4.heap.push { cls := .type "slice", data := .fields #[vl, vu, vs] } } := I4.kept (t' := s4.toks) fun b ob q => Heap.get?_push_of_some _ q
  obtain ⟨its, r, ht, hz⟩ := I5.list hx
  have hlen := r.length
  show wpAny (model X.prog X.w) X.A (subscriptTail e (.Slice lo hi (some st) p2) (.ref a) (.ref s4.heap.objs.size)) (EP X pins σ Q) X.xe { s4 with heap := s4.heap.push { cls := .type "slice", data := .fields #[vl, vu, vs] } }
  refine tail_any (ops := [.ref a, .ref s4.heap.objs.size]) ht.isList.typeIs (PySem.slot_list_getitem.lookup) ?_ (by with_unfolding_all rfl)
  refine wpAny_getItem_list_slice ht.isList (Heap.IsSliceOf.new _ vl vu vs) pl pu ps h0 ?_ (by rw [List.size_toArray]; omega)
  have e1 : slicePick its.toArray l u o = (pickG its l u o).toArray := by
    unfold slicePick pickG pickN
    rw [List.size_toArray]
    congr 2
    funext i
    simp
  rw [e1]
  refine ⟨.ref _, _, I5.laid (t' := s4.toks) (o := .lst (pickG xs l u o)) (fun b ob q => Heap.get?_push_of_some _ q) (Nat.le_refl _) ?_, rfl, q _ (I5.hok.fresh (Nat.le_refl _))⟩
  refine ⟨Nat.le_trans (pickG_length xs l u o h0) hz, _, 0, ?_, Heap.get?_push_size _ rfl⟩
  unfold pickG
  rw [hlen]
  exact vals_pick r _
def mSl3 (m : PM) (lo hi st : Env → Option (Option Int)) : PM := fun env => (m env).bind fun x => (lo env).bind fun l => (hi env).bind fun h => (st env).bind fun c => match x with
  | .n (.lst _) ds => if c ≠ some 0 ∧ pureL (pickG ds l h c) = true then some (.n (.lst .o) (pickG ds l h c)) else none
  | _ => none
theorem pickV_vals (ts : List T) (lo hi st : Option Int) : pickG (vals ts) lo hi st = vals (pickG ts lo hi st) := pickG_map T.val ts lo hi st
section
variable {X : Cx} {ma : PM} {a st : Expr} {pos : Pos}
theorem sp_slice3 {lo hi : Option Expr} {p2 : Pos} {ol oh oc : Env → Option (Option Int)} (ha : SB X a ma) (hl : SO X lo ol) (hh : SO X hi oh) (hc : SO X (some st) oc) : SP X (.Subscript a (.Slice lo hi (some st) p2) pos) (mSl3 ma ol oh oc) := PE.weak (pe_slice3 ha hl hh hc) fun σ H Q ⟨env, d, hm, r, s, k⟩ => by
  obtain ⟨x, hx, hm⟩ := bind_some hm
  obtain ⟨l, hl, hm⟩ := bind_some hm
  obtain ⟨h, hh, hm⟩ := bind_some hm
  obtain ⟨c, hc, hm⟩ := bind_some hm
  refine ⟨env, x, hx, r, s, fun t H1 e1 x1 s1 b1 => ⟨env, l, hl, r, s.ex x1, fun H2 x2 => ⟨env, h, hh, r, (s.ex x1).ex x2, fun H3 x3 => ⟨env, c, hc, r, ((s.ex x1).ex x2).ex x3, fun H4 x4 => ?_⟩⟩⟩⟩
  subst e1
  split at hm
  · rename_i o ds e1
    split at hm
    · rename_i hp
      cases hm
      obtain ⟨a, ts, f1, f2, f3, f4, f5, f6⟩ := rdL (sat_ex x4 (sat_ex x3 (sat_ex x2 s1))) e1
      rw [f1]
      refine ⟨hp.1, a, _, rfl, f3, fun p hn => ?_⟩
      rw [pickV_vals]
      have x5 := ((x1.trans x2).trans x3).trans x4
      have f7 : erL (pickG ts l h c) = pickG ds l h c := by rw [erL_map, ← pickG_map, ← erL_map, f2]
      have b2 : BorL H env (pickG ts l h c) := (b1.sub f5 f6).subset fun u hu => pickG_mem hu
      obtain ⟨x6, s6, o6⟩ := new_node (k := .lst .o) rfl x5 s (satL_iff.mpr fun u hu => satL_iff.mp f4 u (pickG_mem hu)) (b2.own (by rw [f7]; exact hp.2)) hn
      exact k (.n (.lst .o) p (pickG ts l h c)) _ (by rw [T.er, f7]) (x5.trans x6) s6 o6
    · cases hm
  · cases hm
end
end Ow

namespace Ow
open PySem L2 PySem.Spec PyProof.Rows


def sAugP (i : Nat) (pm : Env → Option (List Nat)) (mb : PM) (f : D → D → Option V) (me : PM) : SM := fun env => (pm env).bind fun p => (mb env).bind fun y => (toI y).bind fun n => (env[i]?.join).bind fun d => (atD p d).bind fun c => match c with
  | .n (.lst .o) ds => (atI ds n).bind fun x => (me env).bind fun e => (f x e).bind fun v => (sv v).bind fun w => (modD p (fun ds => (ixN ds.length n).map fun j => ds.set j w) d).map fun d' => (.nx, env.set i (some d'))
  | _ => none
section
variable {X : Cx} {a b e : Expr} {i : Nat} {pm : Env → Option (List Nat)} {mb me : PM} {P : List Nat} {pos tpos : Pos}
end
end Ow

namespace Ow
open PySem L2 PySem.Spec PyProof.Rows


def mD1 (mx mv : PM) : PM := fun env => (mx env).bind fun x => (keyD x).bind fun k => (mv env).bind fun v => (svD v).map fun w => dicD .o [(k, w)]
end Ow

namespace Ow
open PySem L2 PySem.Spec PyProof.Rows


section
variable {K : PySem.W.Frag} {H0 H H' : Hp} {env0 env : TEnv} {σ : L2.St} {F ts : List T}
end
theorem rdO2 {K : PySem.W.Frag} {H : Hp} {t : T} {o : Fl} {ds : List D} (hs : t.sat K H) (he : t.er = .n (.lst o) ds) (hn : nw o = true) : ∃ a ts, t = .n (.lst o) a ts ∧ erL ts = ds ∧ H a = some (.lst (vals ts)) ∧ satL K H ts := by
  cases t with
  | s v => rw [T.er] at he; cases he
  | n k a ts =>
    rw [T.er] at he
    cases he
    exact ⟨a, ts, rfl, rfl, hs.1.1, hs.2⟩
  | w z k a ts =>
    rw [T.er] at he
    cases k <;> simp [Kd.wri] at he
    obtain ⟨e1, _⟩ := he
    rw [← e1] at hn
    cases hn
def sExt (i : Nat) (pm : Env → Option (List Nat)) (me : PM) : SM := fun env => (pm env).bind fun p => (me env).bind fun x => match x with
  | .n (.lst o) es => if (nw o && pureL es) = true then (env[i]?.join).bind fun d => (modD p (fun ds => if ds.length + es.length < 16777216 then some (ds ++ es) else none) d).map fun d' => (.nx, env.set i (some d')) else none
  | _ => none
end Ow

namespace Ow
open PySem L2 PySem.Spec PyProof.Rows


section
variable {K : PySem.W.Frag} {H0 H H' : Hp} {env0 env : TEnv} {σ : L2.St} {F : List T} {t : T}
theorem Cf.frzF (c : Cf K H0 env0 σ H (t :: F) env) : Cf K H0 env0 σ H (t.frz :: F) env := by
  refine ⟨c.rel, ⟨frz_sat t c.satF.1, c.satF.2⟩, c.satE, fun a => ?_, ⟨c.stp.1, c.stp.2.1, fun a => ?_⟩⟩
  · have w := c.wf a
    simp only [coL, cuL, frz_co, frz_cu] at w ⊢
    omega
  · have s := c.stp.2.2 a
    simp only [coL, cuL, frz_co, frz_cu] at s ⊢
    constructor
    · intro h; exact s.1 (by omega)
    · intro h
      by_cases q : 0 < t.co a + (coL a F + coE a env)
      · rcases s.1 (by omega) with z | z
        · exact .inl z
        · exact .inr (.inr z)
      · exact s.2 (by omega)
end
def allEv : List As → Bool
  | [] => true
  | .ev _ :: r => allEv r
  | _ :: _ => false
theorem argV_ev {σ : L2.St} : ∀ {as : List As} {F : List T} {vs : List V}, allEv as = true → ArgV σ as F vs → vs = vals F
  | [], F, vs, _, h => by rw [h.1, h.2]; rfl
  | .ev m :: r, [], vs, _, h => h.elim
  | .ev m :: r, t :: F, vs, ha, h => by
    obtain ⟨vs', rfl, h2⟩ := h
    rw [argV_ev (as := r) ha h2]; rfl
theorem slots_ev : ∀ {as : List As}, allEv as = true → muS as ++ boS as = []
  | [], _ => rfl
  | .ev m :: r, h => by
    have := slots_ev (as := r) h
    rw [muS, boS]; exact this
def eMk (k : Kd) (as : List As) : EM := fun env => if allEv as = true then (evA as env).bind fun x => if x.1.length ≤ 16777216 then some (.n k x.1, x.2) else none else none
section
variable {X : Cx} {es : List Expr} {as : List As} {U : List Nat} {pos : Pos}
theorem mk_rd {k : Kd} (hk : k.isw = false) {σ : L2.St} {H : Hp} {Q : VK} (h : trE X.K U (eMk k as) σ H Q) : trEA X.K U as σ H fun xs H1 => xs.length ≤ sizeLine ∧ ∀ p, H1 p = none → Q (.ref p) (upd H1 p (k.ho xs)) := by
  obtain ⟨env, d, e', hm, r, s, w, kk⟩ := h
  unfold eMk at hm
  obtain ⟨ha, hm⟩ := if_some' hm
  obtain ⟨x, hx, hm⟩ := bind_some hm
  obtain ⟨hl, e1⟩ := if_some hm
  cases e1
  refine ⟨env, x.1, x.2, hx, r, s, w, by rw [slots_ev ha]; simp, fun F env1 H1 vs e1 e2 c1 u1 av => ?_⟩
  rw [argV_ev ha av]
  refine ⟨sizeLine_le (by rw [List.length_map, ← erL_length, e1]; exact hl), fun p hp => ?_⟩
  have c2 : Cf X.K H env σ H1 (F ++ []) env1 := by rw [List.append_nil]; exact c1
  exact kk (.n k p F) env1 _ (by rw [T.er, e1]) e2 (c2.node hk hp) u1
theorem se_tupA {x1} (ha : SEA X U es as) : SE X U (.Tuple es x1 pos) (eMk .tup as) := PE.weak (pe_tup ha) fun σ H Q h => mk_rd rfl h

def pM (f : FM) : FMu := fun ds => (f (frzD ds)).map fun d => (d, [])
theorem ok_pM {P : Program} {w : World} {K : PySem.W.Frag} {mg : Str → Option Value} {base : Heap} {CX : CXT} {k n : Nat} {f : Addr} {fd : FuncData} {ps : List Str} {fm : FM} (F : FnOk P w K mg base CX k f fd ps (spP K n fm)) : FnOk P w K mg base CX k f fd ps (spM K n [] (pM fm)) :=
  F.imp fun vs H Q E ⟨ts, d, os, e1, e2, s, wf, hf, k⟩ => by
    obtain ⟨d', hd, e3⟩ := map_some hf
    cases e3
    refine ⟨ts, d, e1, e2, s, hd, fun t H' e4 x st ow => k t [] H' e4 rfl (fun j i h => by cases h) st trivial (fun a => ?_) ⟨fun a o h _ => x a o h, fun a h => Evl.fresh_back x h, fun a => ?_⟩⟩
    · have := (ow a).1
      simp only [coL, cuL]
      omega
    · simp only [coL, cuL]
      exact ⟨fun h => .inr ((ow a).2.1 (by omega)), fun h => (ow a).2.2 (by omega)⟩

def sForE (me : EM) (g : Tg) (mb : SM) : SM := fun env => (me env).bind fun x => (asL x.1.frz).bind fun ds => if pureL ds = true then forD g mb ds x.2 else none
def trJE (K : PySem.W.Frag) (me : EM) : TI := fun σ H R => ∃ env d e' ds, me (erE env) = some (d, e') ∧ asL d.frz = some ds ∧ Rel σ env ∧ SatE K H env ∧ WfF [] env ∧ ∀ J src env1 H1, erE env1 = e' → Cf K H env σ H1 src env1 → Wk K J src ds → R J H1
theorem sj_effect {tg e : Expr} {me : EM} (h : SE X [] e me) : PI X tg e (trJE X.K me) := PI.weak (pi_list h) fun σ H R ⟨env, d, e', ds, hm, hd, r, s, w, k⟩ => by
  obtain ⟨o, h2⟩ := asL_some hd
  refine goE (d := d) (e' := e') (Cf.start r s w) hm fun t env1 H1 e1 e2 c1 _ => ?_
  subst e1
  rw [← frz_er] at h2
  obtain ⟨a, f1, f2, wk⟩ := wk_list (frz_sat t c1.satF.1) h2
  rw [frz_val] at f1
  exact ⟨a, f1, ⟨_, f2⟩, k _ [t.frz] env1 H1 e2 c1.frzF wk⟩
theorem ss_forE {tg iter : Expr} {body : List Stmt} {P : List Nat} {me : EM} {g : Tg} {mS : SM} (hc : X.calm = true) (hp : PassesOwn (model X.prog X.w) X.A X.env X.xe) (hi : SE X [] iter me) (hg : SG X tg g) (hb : SSs X P body mS) (hP : ∀ i ∈ g.sl, i ∉ P) (hs : ∀ x, foldedSetIterable iter X.env x = pure x := by intro _; rfl) :
    SS X P (.For tg iter body [] pos) (sForE me g mS) := PS.weak (ps_for hp hc (sj_effect hi) hg hb hs) fun De σ H ⟨env, o, e', hm, r, s, w, k⟩ => by
  obtain ⟨x, hx, hm⟩ := bind_some hm
  obtain ⟨ds, hds, hm⟩ := bind_some hm
  obtain ⟨hpu, hm⟩ := if_some' hm
  refine ⟨env, x.1, x.2, ds, hx, hds, r, s, w, fun J src env0 H1 e0 c0 wk => ?_⟩
  rw [← e0] at hm
  refine ⟨fun i mm σi Hi => i ≤ ds.length ∧ mm = ds.length - i ∧ ∃ envi, forD g mS (ds.drop i) (erE envi) = some (o, e') ∧ Cf X.K H env σi Hi src envi ∧ ∀ j ∈ P, σi[j]? = σ[j]?,
    ⟨ds.length, Nat.zero_le _, rfl, env0, hm, c0, fun _ _ => rfl⟩, fun i mm σi Hi W => ?_⟩
  obtain ⟨le, ms, envi, hf, c, pi⟩ := W
  by_cases hlt : i < ds.length
  · refine .inr ⟨wk.go i Hi c.satF hlt, fun σ' H' => ∃ m', m' < mm ∧ (i + 1 ≤ ds.length ∧ m' = ds.length - (i + 1) ∧ ∃ envi, forD g mS (ds.drop (i + 1)) (erE envi) = some (o, e') ∧ Cf X.K H env σ' H' src envi ∧ ∀ j ∈ P, σ'[j]? = σ[j]?), fun σ' H' h => h, fun x H3 hy => ?_⟩
    have hd := List.getElem?_eq_getElem hlt
    obtain ⟨t, rfl, et, x3, s3, c3, u3⟩ := wk.yld i Hi x H3 c.satF hy _ hd
    rw [List.drop_eq_getElem_cons hlt, forD] at hf
    obtain ⟨e1, hb1, hf⟩ := bind_some hf
    obtain ⟨y, hb2, hf⟩ := bind_some hf
    rw [← et] at hb1
    have pt : t.er.pure = true := by rw [et]; exact pureL_at hpu hd
    refine g_run g t σi envi e1 _ c.rel s3 hb1 fun σ2 env2 B => ?_
    have c2 : Cf X.K H env σ2 H3 src env2 := Cf.bind c x3 (fun a => pure_co t pt) (fun a q => (u3 a q).elim .inl fun z => .inr (.inr z)) s3 B
    refine ⟨env2, y.1, y.2, by rw [B.er]; exact hb2, c2.rel, c2.satE, c2.base, fun F σ3 env3 H4 e3 c4 p4 => ?_⟩
    have c5 := c2.step c4
    have p5 : ∀ j ∈ P, σ3[j]? = σ[j]? := fun j hj => (p4 j hj).trans ((B.out j fun z => hP j z hj).1.trans (pi j hj))
    obtain ⟨yo, ye⟩ := y
    cases yo with
    | nx =>
      intro hF
      subst hF
      exact ⟨mm - 1, by omega, hlt, by omega, env3, by rw [e3]; exact hf, c5, p5⟩
    | ct =>
      intro hF
      subst hF
      exact ⟨mm - 1, by omega, hlt, by omega, env3, by rw [e3]; exact hf, c5, p5⟩
    | bk =>
      intro hF
      subst hF
      cases hf
      exact k [] σ3 env3 H4 e3 c5.toNil p5 rfl
    | rt d =>
      cases hf
      exact k F σ3 env3 H4 e3 c5.dropB p5
  · have hi3 : ds.length ≤ i := Nat.le_of_not_lt hlt
    refine .inl ⟨wk.stop i Hi c.satF hi3, ?_⟩
    rw [List.drop_eq_nil_of_le hi3, forD] at hf
    cases hf
    exact k [] σi envi Hi rfl c.toNil pi rfl

def ePop (i : Nat) (pm : Env → Option (List Nat)) : EM := fun env => (pm env).bind fun p => (env[i]?.join).bind fun d => (atD p d).bind fun c => match c with
  | .n (.lst .o) ds => (ds[ds.length - 1]?).bind fun z => (modD p (fun _ => some ds.dropLast) d).map fun d' => (z, env.set i (some d'))
  | _ => none
end
end Ow

namespace Ow
open PySem L2 PySem.Spec PyProof.Rows


def sAsgE (g : Tg) (m : EM) : SM := fun env => (m env).bind fun x => (bD g x.1 x.2).map fun e' => (.nx, e')
def sAsgL (gs : List Tg) (m : PM) : SM := fun env => (m env).bind fun d => match d with
  | .n (.lst _) ds => if pureL ds = true ∧ ds.length = gs.length then (bDs gs ds env).map fun e' => (.nx, e') else none
  | _ => none
section
variable {X : Cx} {tg e : Expr} {es : List Expr} {m : PM} {me : EM} {pos tpos : Pos} {P : List Nat}
theorem ss_asgE {g : Tg} (he : SE X [] e me) (hg : SG X tg g) (hP : ∀ i ∈ g.sl, i ∉ P) (hs : swapsWithSole [tg] e pos.line X.env = pure false := by rfl) (hw : swappedStores [tg] e X.env = pure none := by rfl) (h1 : (assignEach [tg] X.env).map (·.2) = [assign tg X.env] := by rfl) :
    SS X P (.Assign [tg] e pos) (sAsgE g me) := PS.weak (ps_asg he hg hs hw h1) fun De σ H ⟨env, o, e', hm, r, s, w, k⟩ => by
  obtain ⟨x, hx, hm⟩ := bind_some hm
  obtain ⟨e2, h2, e3⟩ := map_some hm
  cases e3
  refine goE (d := x.1) (e' := x.2) (Cf.start r s w) hx fun t env1 H1 e1 e2 c1 u1 => ?_
  rw [← e1, ← e2] at h2
  refine g_run g t σ env1 e' _ c1.rel c1.satF.1 h2 fun σ' env' B => ?_
  have c2 : Cf X.K H env σ' H1 [] env' := c1.less B.rel trivial (fun u hu => (B.sat u hu).elim (fun z => c1.satE u z) id) (fun a => by have := B.co a; simp only [coL]; omega) (fun a => by have := B.cu a; simp only [cuL]; omega)
  exact k [] σ' env' H1 B.er c2 (fun i hi => (B.out i fun z => hP i z hi).1) rfl
end
end Ow

namespace Ow
open PySem L2 PySem.Spec PyProof.Rows


def sForH (i : Nat) (g : Tg) (mb : SM) : SM := fun env => (env[i]?.join).bind fun d => (asL d).bind fun ds => if pureL ds = true then (forD g mb ds (env.set i none)).map fun x => (x.1, x.2.set i (some d)) else none
section
variable {X : Cx} {pos p : Pos} {P : List Nat} {mb : SM} {body : List Stmt} {tg : Expr} {g : Tg}

def eCat (m1 m2 : EM) : EM := fun env => (m1 env).bind fun x => (m2 x.2).bind fun y => (fCat x.1 y.1).map fun rs => (.n (.lst .o) rs, y.2)
theorem cf_open {K : PySem.W.Frag} {H0 H : Hp} {env0 env : TEnv} {σ : L2.St} {a b : Addr} {o o' : Fl} {ts us : List T} (c : Cf K H0 env0 σ H [.n (.lst o') b us, .n (.lst o) a ts] env) : Cf K H0 env0 σ H ((ts ++ us) ++ []) env :=
  c.less c.rel (satL_append.mpr ⟨satL_append.mpr ⟨c.satF.2.1.2, c.satF.1.2⟩, trivial⟩) c.satE (fun q => by simp only [coL_append, coL, T.co]; omega) fun q => by simp only [cuL_append, cuL, T.cu]; omega
theorem se_cat {a b : Expr} {m1 m2 : EM} {U : List Nat} (ha : SE X U a m1) (hb : SE X U b m2) : SE X U (.BinOp a .Add b pos) (eCat m1 m2) := PE.weak (pe_op op_cat ha hb) fun σ H Q ⟨env, d, e', hm, r, s, w, k⟩ => by
  obtain ⟨x, hx, hm⟩ := bind_some hm
  obtain ⟨y, hy, hm⟩ := bind_some hm
  obtain ⟨rs, hr, e1⟩ := map_some hm
  cases e1
  refine goE (d := x.1) (e' := x.2) (Cf.start r s w) hx fun t1 env1 H1 e1 e2 c1 u1 => ?_
  rw [← e2] at hy
  refine goE (d := y.1) (e' := y.2) c1 hy fun t2 env2 H2 e3 e4 c2 u2 => ?_
  unfold fCat at hr
  split at hr
  · rename_i o ds o' es g1 g2
    obtain ⟨hc, rfl⟩ := if_some hr
    rw [Bool.and_eq_true, Bool.and_eq_true] at hc
    obtain ⟨a1, ts, rfl, f2, f3, f4⟩ := rdO2 c2.satF.2.1 (e1.trans g1) hc.1.1
    obtain ⟨a2, us, rfl, h2, h3, h4⟩ := rdO2 c2.satF.1 (e3.trans g2) hc.1.2
    have hlen : (vals ts).length + (vals us).length ≤ 16777216 := by
      have := of_decide_eq_true hc.2
      rw [← f2, ← h2, erL_length, erL_length] at this
      rw [List.length_map, List.length_map]; exact this
    refine ⟨a1, a2, vals ts, vals us, rfl, rfl, f3, h3, sizeLine_le hlen, fun p hp => ?_⟩
    have c3 := cf_open c2
    have c4 := c3.node (k := .lst .o) rfl hp
    have ev : vals (ts ++ us) = vals ts ++ vals us := by simp [vals]
    rw [ev] at c4
    exact k (.n (.lst .o) p (ts ++ us)) env2 _ (by rw [T.er, erL_append, f2, h2]) e4 c4 (fun i hi => (u2 i hi).trans (u1 i hi))
  · cases hr

def mFrz (m : PM) : PM := fun env => (m env).map D.frz
def eFrz (m : EM) : EM := fun env => (m env).map fun x => (x.1.frz, x.2)

def eItemM (m1 m2 : EM) : EM := fun env => (m1 env).bind fun x => (m2 x.2).bind fun y => (fItem x.1 y.1).map fun d => (d, y.2)
end
end Ow

namespace Ow
open PySem L2 PySem.Spec PyProof.Rows
def fLenD : List D → Option V
  | [d] => (dicP d).map fun kvs => .int kvs.length
  | _ => none
theorem opn_lenD {K : PySem.W.Frag} : OpN K (fun xs H Q => ∃ a kvs, xs = [V.ref a] ∧ H a = some (.dK kvs) ∧ Q (.int kvs.length) H) fLenD := fun ts v H Q hs h q => by
  unfold fLenD at h
  split at h
  · rename_i d e
    obtain ⟨kvs, hd, rfl⟩ := map_some h
    obtain ⟨t, rfl, e1⟩ := one_er e
    subst e1
    obtain ⟨o, a, us, f1, f2, f3, f4⟩ := rdD hs.1 hd
    exact ⟨a, kvs, by rw [vals, List.map_cons, f1]; rfl, f3, q⟩
  · cases h

section
variable {X : Cx}
def fIsB : D → D → Option V
  | .s (.bl a), .s (.bl b) => some (.bl (decide (a = b)))
  | _, _ => none
def fNotB : D → D → Option V
  | .s (.bl a), .s (.bl b) => some (.bl (!decide (a = b)))
  | _, _ => none
variable {a b : Expr} {ma mb : PM} {m1 m2 : EM} {pos : Pos}
end

def sAppN (i : Nat) (me : EM) : SM := fun env => (env[i]?.join).bind fun d0 => (modD [] some d0).bind fun _ => (me env).bind fun x => (x.2[i]?.join).bind fun d =>
  (modD [] (fun ds => if ds.length < 16777216 then some (ds ++ [x.1]) else none) d).map fun d' => (.nx, x.2.set i (some d'))
section
variable {X : Cx} {a e : Expr} {me : EM} {i : Nat} {P : List Nat} {apos cpos pos : Pos}
end
end Ow

namespace Ow
open PySem L2 PySem.Spec PyProof.Rows

def metL (ns : List Int) : List Int := firstMet (fun i => ns.getD i 0) ns.length
section
variable {X : Cx}
def fDist (ds : List D) : Option V := (li ds).bind fun ns => if ns.length < 4000 then some (.int (metL ns).length) else none
end
end Ow

namespace Ow
open PySem L2 PySem.Spec PyProof.Rows

def intKs : List (Key × V) → Option (List Int)
  | [] => some []
  | (.inl i, _) :: r => (intKs r).map (i :: ·)
  | _ :: _ => none
section
variable {X : Cx}
def fSortD : List D → Option (List D)
  | [d] => (dicP d).bind fun kvs => (intKs kvs).map fun ns => (srt ns).map fun i => .s (.int i)
  | _ => none
end
end Ow

namespace Ow
open PySem L2 PySem.Spec PyProof.Rows

def fCnt (x y : D) : Option V := match x, y with
  | .n (.lst _) ds, .s (.int i) => (intsD ds).map fun ns => .int (ns.count i : Nat)
  | _, _ => none
def mCnt (ma mb : PM) : PM := fun env => (ma env).bind fun x => (mb env).bind fun y => (fCnt x y).bind sv
section
variable {X : Cx} {o e : Expr} {ma mb : PM} {apos cpos : Pos}
end
end Ow

namespace Ow
open PySem PySem.Spec PyProof.Rows L2


structure Held (X : Cx) (pins : List (Addr × Obj)) (a : Addr) (cls : Value) (d : Option Addr) (σ : L2.St) (H : Hp) (B : Heap) (sI s : Shared) : Prop where
  inv : Inv X pins σ H sI
  grd : ∀ b o, sI.heap.get? b = some o → b ∉ frs X.stack → B.get? b = some o
  up : sI.heap.UpToSlots s.heap
  fly : HandSPX.FlyingZ B (X.env :: X.outer) a (Zc cls d) s.heap
  na : H a = none
  os : s.os = sI.os
  ag : AllBare s.gens
section
variable {X : Cx} {pins : List (Addr × Obj)} {a : Addr} {cls : Value} {d : Option Addr} {σ : L2.St} {H : Hp} {B : Heap} {sI s : Shared} {De : Ends} {hds : List ExceptHandler}
def goneE (i : Nat) (De : Ends) : Ends := { nx := fun σ H => De.nx (σ.set i none) H, rt := De.rt, bk := fun σ H => De.bk (σ.set i none) H, ct := fun σ H => De.ct (σ.set i none) H }
abbrev Sui := Addr → Value → Option Addr → TS
inductive Hs where
  | only (c : Value) (ts : Sui)
  | as (c : Value) (i : Nat) (ts : Sui)
def wHs (K : PySem.W.Frag) (Wout : WX) (De : Ends) : List Hs → WX
  | [] => Wout
  | .only c ts :: r => fun cls d σ H => ∃ b, PySem.W.exmOne K cls c = some b ∧ (b = true → ∀ a, H a = none → ts a cls d De σ H) ∧ (b = false → wHs K Wout De r cls d σ H)
  | .as c i ts :: r => fun cls d σ H => ∃ b, PySem.W.exmOne K cls c = some b ∧ (b = true → ∀ a, H a = none → (σ.set i (some (.ref a)))[i]? = some (some (.ref a)) → ts a cls d (goneE i De) (σ.set i (some (.ref a))) H) ∧ (b = false → wHs K Wout De r cls d σ H)
def SuiOk (X : Cx) (su : List Stmt) (ts : Sui) : Prop := ∀ (a : Addr) (oe : Obj) (cls : Value) (d : Option Addr) (pn : List (Addr × Obj)), Zc cls d oe → (∃ vs, oe.data = .fields vs) → PSs (X.suite a ((a, oe) :: pn)) su (ts a cls d)
inductive HsOk (X : Cx) : List ExceptHandler → List Hs → Prop
  | nil : HsOk X [] []
  | only {x : Str} {c : Value} {ts : Sui} {b0 : Stmt} {su : List Stmt} {np p : Pos} {r : List ExceptHandler} {l : List Hs} (hc : Names X x c) (hsu : SuiOk X (b0 :: su) ts) (hr : HsOk X r l) : HsOk X (.ExceptHandler (some (.Name x np)) none (b0 :: su) p :: r) (.only c ts :: l)
  | as {x n : Str} {c : Value} {i : Nat} {ts : Sui} {b0 : Stmt} {su : List Stmt} {np p : Pos} {r : List ExceptHandler} {l : List Hs} (hN : X.N.Nodup) (hi : X.N[i]? = some n) (hln : X.env.kindOf n = some .local) (hc : Names X x c) (hsu : SuiOk X (b0 :: su) ts) (hr : HsOk X r l) :
      HsOk X (.ExceptHandler (some (.Name x np)) (some n) (b0 :: su) p :: r) (.as c i ts :: l)
end
end Ow

namespace Ow
open PySem L2


def outsW (mg : Str → Option Value) (W : WX) (De : Ends) (o : O) (F : List T) (σ : L2.St) (H : Hp) : Prop := match o with
  | .nx => F = [] → De.nx σ H
  | .bk => F = [] → De.bk σ H
  | .ct => F = [] → De.ct σ H
  | .rt d => (∀ t, F = [t] → t.er = d → De.rt t.val H) ∧ ∀ (n : String) (C : Addr), d = .s (.ty n) → F = [] → mg n = some (.ref C) → W (.ref C) none σ H
def trW (K : PySem.W.Frag) (mg : Str → Option Value) (W : WX) (P : List Nat) (m : SM) : TS := fun De σ H => ∃ env o e', m (erE env) = some (o, e') ∧ Rel σ env ∧ SatE K H env ∧ WfF [] env ∧
  ∀ F σ' env' H', erE env' = e' → Cf K H env σ' H' F env' → (∀ i ∈ P, σ'[i]? = σ[i]?) → outsW mg W De o F σ' H'
abbrev noW : WX := fun _ _ _ _ => False
section
variable {X : Cx} {P : List Nat} {m : SM} {st : List Stmt} {W : WX}
@[simp] def calmO : O → Option O
  | .rt d => if d.isx = true then none else some (.rt d)
  | o => some o
def sCalm (m : SM) : SM := fun env => (m env).bind fun x => (calmO x.1).map fun o => (o, x.2)
end


def fmtD : D → Option Str
  | .s (.str y) => if y.length ≤ 16777216 then some y else none
  | .s (.int i) => if i.natAbs.log2 < 1920 then some (toString i) else none
  | _ => none
inductive Fp where
  | c (x : Str)
  | v (m : PM)
def joinF : List Fp → Str → Env → Option Str
  | [], acc, _ => some acc
  | .c x :: ms, acc, env => if (acc ++ x).length ≤ 16777216 then joinF ms (acc ++ x) env else none
  | .v m :: ms, acc, env => (m env).bind fun d => (fmtD d).bind fun y => if (acc ++ y).length ≤ 16777216 then joinF ms (acc ++ y) env else none
def mFs (ms : List Fp) : PM := fun env => (joinF ms Str.empty env).map fun y => .s (.str y)
inductive SFJ (X : Cx) : List Expr → List Fp → Prop where
  | nil : SFJ X [] []
  | c {x : Str} {j : Nat} {p : Pos} {es : List Expr} {ms : List Fp} (r : SFJ X es ms) : SFJ X (.Constant (.str x) j p :: es) (.c x :: ms)
  | v {e : Expr} {p : Pos} {m : PM} {es : List Expr} {ms : List Fp} (h : SB X e m) (r : SFJ X es ms) : SFJ X (.FormattedValue e (-1) none p :: es) (.v m :: ms)
section
variable {X : Cx} {pos : Pos}
end


def sRaise (n : String) (m : PM) : SM := fun env => (m env).map fun _ => (.rt (.s (.ty n)), env)
section
variable {X : Cx} {P : List Nat} {m : PM} {e : Expr} {n : String} {C : Addr} {bmB : List Value} {B newId initId : String} {p pos pos' : Pos}
end


def spX (K : PySem.W.Frag) (mg : Str → Option Value) (n : Nat) (f : FM) : Sp := fun vs H Q E => ∃ ts d, vs = vals ts ∧ ts.length = n ∧ satL K H ts ∧ f (frzD (erL ts)) = some d ∧ (∀ t H', t.er = d → Ex H H' → t.sat K H' → OwnA H ts t → Q t.val H') ∧ ∀ (x : String) (C : Addr) H', d = .s (.ty x) → mg x = some (.ref C) → Ex H H' → E (.ref C) none H'
def runX (n : Nat) (mS : SM) : FM := fun ds => (mS (initD n ds)).bind fun x => match x.1 with
  | .rt d => some d
  | .nx => some (.s .non)
  | _ => none
section
variable {P : Program} {w : World} {K : PySem.W.Frag} {mg : Str → Option Value} {base : Heap}
end


def trEX (X : Cx) (U : List Nat) (m : EM) : TE := fun σ H Q => ∃ env d e', m (erE env) = some (d, e') ∧ Rel σ env ∧ SatE X.K H env ∧ WfF [] env ∧
  (∀ t env' H', t.er = d → erE env' = e' → Cf X.K H env σ H' [t] env' → (∀ i ∈ U, env'[i]? = env[i]?) → Q t.val H') ∧ ∀ (n : String) (C : Addr) env' H', d = .s (.ty n) → X.mg n = some (.ref C) → erE env' = e' → Cf X.K H env σ H' [] env' → XWish X (.ref C) none σ H'
def SEX (X : Cx) (U : List Nat) (e : Expr) (m : EM) : Prop := PE X e (trEX X U m)
def eFnX (f : FM) (ml : LM) : EM := fun env => (ml env).bind fun ds => (f (frzD ds)).bind fun d => if (d.noF || pureL ds) = true then some (d, env) else none
section
variable {X : Cx} {U P : List Nat} {e : Expr} {es : List Expr} {me : EM} {ml : LM} {pos p : Pos}
def mFnN (f : FM) (ml : LM) : PM := fun env => (ml env).bind fun ds => (f (frzD ds)).bind fun d => if (!d.isx && (d.noF || pureL ds)) = true then some d else none
def eTupX (m : EM) (mc : PM) : EM := fun env => (m env).bind fun x => if x.1.isx = true then some x else (mc x.2).map fun y => (.n .tup [x.1, y], x.2)

def sDropX (m : EM) : SM := fun env => (m env).map fun x => (if x.1.isx = true then .rt x.1 else .nx, x.2)
def sSetX (i : Nat) (m : EM) : SM := fun env => (m env).map fun x => if x.1.isx = true then (.rt x.1, x.2) else (.nx, x.2.set i (some x.1))
def sAsgX (g : Tg) (m : EM) : SM := fun env => (m env).bind fun x => if x.1.isx = true then some (.rt x.1, x.2) else (bD g x.1 x.2).map fun e' => (.nx, e')
end


section
variable {X : Cx}
def cj (i : Nat) (a : Addr) (t : TE) : TE := fun σ H Q => σ[i]? = some (some (.ref a)) ∧ t σ H Q
def PU (X : Cx) (i : Nat) (e : Expr) (m : String → PM) : Prop := ∀ (a : Addr) (oe : Obj) (n : String) (c : Addr) (pn : List (Addr × Obj)), X.mg n = some (.ref c) → Zc (.ref c) none oe → (∃ vs, oe.data = .fields vs) → PE (X.suite a ((a, oe) :: pn)) e (cj i a (trP X.K (m n)))
def PUA (X : Cx) (i : Nat) (es : List Expr) (m : String → LM) : Prop := ∀ (a : Addr) (oe : Obj) (n : String) (c : Addr) (pn : List (Addr × Obj)), X.mg n = some (.ref c) → Zc (.ref c) none oe → (∃ vs, oe.data = .fields vs) → PA (X.suite a ((a, oe) :: pn)) es (fun σ H Q => σ[i]? = some (some (.ref a)) ∧ trPA X.K (m n) σ H Q)
def PUT (X : Cx) (i : Nat) (e : Expr) (m : String → BM) : Prop := ∀ (a : Addr) (oe : Obj) (n : String) (c : Addr) (pn : List (Addr × Obj)), X.mg n = some (.ref c) → Zc (.ref c) none oe → (∃ vs, oe.data = .fields vs) → PT (X.suite a ((a, oe) :: pn)) e (fun σ H Q => σ[i]? = some (some (.ref a)) ∧ trT X.K (m n) σ H Q)
def PUW (X : Cx) (i : Nat) (e : Expr) (m : String → BM) : Prop := ∀ (a : Addr) (oe : Obj) (n : String) (c : Addr) (pn : List (Addr × Obj)), X.mg n = some (.ref c) → Zc (.ref c) none oe → (∃ vs, oe.data = .fields vs) → PW (X.suite a ((a, oe) :: pn)) e (fun σ H Q => σ[i]? = some (some (.ref a)) ∧ trT X.K (m n) σ H Q)
def SU (X : Cx) (i : Nat) (P : List Nat) (st : List Stmt) (m : String → SM) : Prop := ∀ (a : Addr) (oe : Obj) (n : String) (c : Addr) (pn : List (Addr × Obj)), X.mg n = some (.ref c) → Zc (.ref c) none oe → (∃ vs, oe.data = .fields vs) → PSs (X.suite a ((a, oe) :: pn)) st (fun De σ H => σ[i]? = some (some (.ref a)) ∧ trW X.K X.mg noW P (m n) De σ H)
def SN (X : Cx) (P : List Nat) (st : List Stmt) (m : SM) : Prop := ∀ (a : Addr) (oe : Obj) (n : String) (c : Addr) (pn : List (Addr × Obj)), X.mg n = some (.ref c) → Zc (.ref c) none oe → (∃ vs, oe.data = .fields vs) → PSs (X.suite a ((a, oe) :: pn)) st (trW X.K X.mg noW P m)
end
section
variable {X : Cx} {i : Nat} {P : List Nat} {e a b : Expr} {es : List Expr} {pos : Pos} {m ma mb : String → PM} {st : Stmt} {rest : List Stmt}
def mIsX (f : String → Option Bool) (n : String) : PM := fun _ => (f n).map fun b => .s (.bl b)
def PUB (X : Cx) (i : Nat) (e : Expr) (m : String → PM) : Prop := ∀ (a : Addr) (oe : Obj) (n : String) (c : Addr) (pn : List (Addr × Obj)), X.mg n = some (.ref c) → Zc (.ref c) none oe → (∃ vs, oe.data = .fields vs) → PE (X.suite a ((a, oe) :: pn)) e (cj i a (trB X.K (m n)))


end


inductive Cl where
  | only (f : String → Option Bool) (m : SM)
  | as (f : String → Option Bool) (i : Nat) (m : String → SM)
def handD : List Cl → String → SM
  | [], C, env => some (.rt (.s (.ty C)), env)
  | .only f m :: r, C, env => (f C).bind fun b => if b = true then sCalm m env else handD r C env
  | .as f i m :: r, C, env => (f C).bind fun b => if b = true then (sCalm (m C) (env.set i none)).map fun x => (x.1, x.2.set i none) else handD r C env
def sTry (mb : SM) (cs : List Cl) : SM := fun env => (mb env).bind fun x => match x.1 with
  | .rt (.s (.ty C)) => handD cs C x.2
  | o => some (o, x.2)
inductive ClsOk (X : Cx) (P : List Nat) : List ExceptHandler → List Cl → Prop
  | nil : ClsOk X P [] []
  | only {x : Str} {c : Value} {f : String → Option Bool} {m : SM} {b0 : Stmt} {su : List Stmt} {np p : Pos} {r : List ExceptHandler} {l : List Cl} (hc : Names X x c) (hk : ∀ (n : String) (C : Addr) b, f n = some b → X.mg n = some (.ref C) → PySem.W.exmOne X.K (.ref C) c = some b) (hsu : SN X P (b0 :: su) m) (hr : ClsOk X P r l) :
      ClsOk X P (.ExceptHandler (some (.Name x np)) none (b0 :: su) p :: r) (.only f m :: l)
  | as {x n : Str} {c : Value} {i : Nat} {f : String → Option Bool} {m : String → SM} {b0 : Stmt} {su : List Stmt} {np p : Pos} {r : List ExceptHandler} {l : List Cl} (hN : X.N.Nodup) (hi : X.N[i]? = some n) (hln : X.env.kindOf n = some .local) (hP : i ∉ P) (hc : Names X x c)
      (hk : ∀ (n : String) (C : Addr) b, f n = some b → X.mg n = some (.ref C) → PySem.W.exmOne X.K (.ref C) c = some b) (hsu : SU X i P (b0 :: su) m) (hr : ClsOk X P r l) : ClsOk X P (.ExceptHandler (some (.Name x np)) (some n) (b0 :: su) p :: r) (.as f i m :: l)
section
variable {X : Cx} {P : List Nat} {body : List Stmt} {mb : SM} {cs : List Cl} {h0 : ExceptHandler} {hds : List ExceptHandler} {pos : Pos}
end


def excKb (K : PySem.W.Frag) (C : Addr) : Bool := PySem.W.excIn K C [.type "ValueError", .type "Exception", .type "BaseException", .type "object"] "ValueError.__new__" && PySem.W.keepIn K (.ref C) &&
  decide (PySem.W.subIn K (.ref C) (.type "BaseException") = some true) && decide (PySem.W.typeIn K (.ref C) = some (.type "type")) &&
  decide (PySem.W.findIn K (.ref C) "__getattribute__" = some (some (.builtin "BaseException.__getattribute__"))) && decide (PySem.W.findIn K (.ref C) "__getattr__" = some none) && PySem.W.hasDictIn K C &&
  decide (PySem.W.findIn K (.ref C) "__class__" = some (some (.builtin "object.__class__"))) && decide (PySem.W.specialIn K (.builtin "object.__class__") "__get__" = some (some (.builtin "getset_descriptor.__get__"))) &&
  decide (PySem.W.takesIn K (.builtin "object.__class__") = some true) && decide (PySem.W.mroIn K C (.type "object") = some true)
structure ExcK (K : PySem.W.Frag) (C : Addr) : Prop where
  q : PySem.W.excIn K C [.type "ValueError", .type "Exception", .type "BaseException", .type "object"] "ValueError.__new__" = true
  k : PySem.W.keepIn K (.ref C) = true
  s : PySem.W.subIn K (.ref C) (.type "BaseException") = some true
  t : PySem.W.typeIn K (.ref C) = some (.type "type")
  c : ExcC K C
def tabS (R : List String) (d : String) (n : String) : Option Bool := if n ∈ R then some (n == d || d == "FloorError" || d == "ValueError") else none
def isB (n d : String) : Bool := n == d || d == "FloorError" || d == "ValueError"
def pairsB (K : PySem.W.Frag) (ad : List (String × Addr)) (d : String) (v : Value) (h : Bool) : Bool := ad.all fun p => decide (PySem.W.kitOne K (.ref p.2) v = some (isB p.1 d)) && (!h || decide (PySem.W.exmOne K (.ref p.2) v = some (isB p.1 d)))
section
variable {K : PySem.W.Frag} {mg : Str → Option Value} {ad : List (String × Addr)} {d : String} {v : Value} {hh : Bool}
end
end Ow
namespace Ow
open PySem L2
inductive PairsK (K : PySem.W.Frag) (d : String) (v : Value) (hh : Bool) : List (String × Addr) → Prop
  | nil : PairsK K d v hh []
  | cons {n : String} {a : Addr} {b : Bool} {r : List (String × Addr)} (h1 : PySem.W.kitOne K (.ref a) v = some b) (hb : isB n d = b) (h2 : hh = true → PySem.W.exmOne K (.ref a) v = some b) (hr : PairsK K d v hh r) : PairsK K d v hh ((n, a) :: r)
section
variable {K : PySem.W.Frag} {mg : Str → Option Value} {ad : List (String × Addr)} {d : String} {v : Value} {hh : Bool}
end
end Ow

namespace Ow
open PySem L2

def mChain (f f' : D → D → Option V) (ma mb mc : PM) : PM := fun env => (ma env).bind fun x => (mb env).bind fun y => (f x y).bind fun v => match v with
  | .bl true => (mc env).bind fun z => (f' y z).bind fun w => match w with
    | .bl b => some (.s (.bl b))
    | _ => none
  | .bl false => some (.s (.bl false))
  | _ => none
section
variable {X : Cx} {a b c : Expr} {ma mb mc : PM} {pos : Pos}
end
end Ow

namespace Ow
open PySem L2


def lcD2 (g : Tg) (mt : BM) (body : Env → Option (List D)) (e0 : Env) : List D → Option (List D)
  | [] => some []
  | d :: ds => (bD g d e0).bind fun e1 => (mt e1).bind fun b => if b = true then (body e1).bind fun r => (lcD2 g mt body e0 ds).map (r ++ ·) else lcD2 g mt body e0 ds
def bdy2 (mi1 : LM) (g1 : Tg) (mt1 : BM) (me : PM) (vs1 : List Nat) : Env → Option (List D) := fun e1 => (mi1 e1).bind fun ds1 => lcD g1 mt1 me (wipeD e1 vs1) ds1
def mLc2 (mi : LM) (g : Tg) (mt : BM) (mi1 : LM) (g1 : Tg) (mt1 : BM) (me : PM) (vs vs1 : List Nat) : PM := fun env => (mi env).bind fun ds => (lcD2 g mt (bdy2 mi1 g1 mt1 me vs1) (wipeD env vs) ds).bind fun rs => if rs.length ≤ 16777216 then some (.n (.lst .o) rs) else none
section
variable {K : PySem.W.Frag} {H H1 H' : Hp} {σ : L2.St} {env : TEnv}
end
structure Lc2W (K : PySem.W.Frag) (H1 : Hp) (Dl : Addr) (eS : TEnv) (g : Tg) (mt : BM) (body : Env → Option (List D)) (e0 : Env) (ds rs : List D) (i m : Nat) (H' : Hp) : Prop where
  le : i ≤ ds.length
  ms : m = ds.length - i
  ex : Ex H1 H'
  acc : ∃ acc : List T, H' Dl = some (.lst (vals acc)) ∧ satL K H' acc ∧ OwnL H1 eS acc ∧ coL Dl acc = 0 ∧ cuL Dl acc = 0 ∧ ∃ r, lcD2 g mt body e0 (ds.drop i) = some r ∧ rs = erL acc ++ r
structure Lc2V (K : PySem.W.Frag) (H1 H5 : Hp) (Dl : Addr) (env2 : TEnv) (src1 acc : List T) (eS1 : TEnv) (g1 : Tg) (mt1 : BM) (me : PM) (e1 : Env) (ds1 r' rs : List D) (j k : Nat) (H' : Hp) : Prop where
  le : j ≤ ds1.length
  ms : k = ds1.length - j
  ex : Ex H1 H'
  fr : ∀ a, H' a = none → H5 a = none
  sE : SatE K H' env2
  sS : satL K H' src1
  sA : satL K H' acc
  acc : ∃ part : List T, H' Dl = some (.lst (vals (acc ++ part))) ∧ satL K H' part ∧ OwnL H5 eS1 part ∧ coL Dl part = 0 ∧ cuL Dl part = 0 ∧ ∃ r, lcD g1 mt1 me e1 (ds1.drop j) = some r ∧ rs = erL acc ++ (erL part ++ (r ++ r'))
section
variable {X : Cx} {elt tg iter tg1 iter1 : Expr} {ifs ifs1 : List Expr} {scope : Scope} {own : List (Str × Nat)} {pos : Pos} {mi mi1 : LM} {g g1 : Tg} {mt mt1 : BM} {me : PM}
end

@[simp] def mCT (ns : List Int) : PM := fun _ => some (.n .ktp (ns.map fun i => D.s (.int i)))
section
variable {X : Cx} {pos : Pos}
end

section
variable {X : Cx} {pos : Pos}
end
end Ow

namespace Ow
open PySem L2


abbrev IM := Env → Option (List D × Env)
def trJI (K : PySem.W.Frag) (m : IM) : TI := fun σ H R => ∃ env ds e', m (erE env) = some (ds, e') ∧ Rel σ env ∧ SatE K H env ∧ WfF [] env ∧ ∀ J src env1 H1, erE env1 = e' → Cf K H env σ H1 src env1 → Wk K J src ds → R J H1
def SIE (X : Cx) (tg e : Expr) (m : IM) : Prop := PI X tg e (trJI X.K m)
def wLE (me : EM) : IM := fun env => (me env).bind fun x => (asL x.1.frz).map fun ds => (ds, x.2)
def wRE1 (me : EM) : IM := fun env => (me env).bind fun x => (toI x.1).bind fun n => if (decide (RgOk 0 n)) = true then some (rgDn 0 n.toNat, x.2) else none
def wRE2 (m1 m2 : EM) : IM := fun env => (m1 env).bind fun x => (m2 x.2).bind fun y => (toI x.1).bind fun i => (toI y.1).bind fun j => if (decide (RgOk i j)) = true then some (rgDn i (j - i).toNat, y.2) else none
def liftI (m : LM) : IM := fun env => (m env).map fun ds => (ds, env)
section
variable {X : Cx} {a b tg e : Expr} {pos p : Pos}
end
def sForI (mi : IM) (g : Tg) (mb : SM) : SM := fun env => (mi env).bind fun x => if pureL x.1 = true then forD g mb x.1 x.2 else none

@[simp] def eAndT (m n : TM) : TM := fun env => (m env).bind fun x => if x.1 = true then n x.2 else some (false, x.2)
@[simp] def eOrT (m n : TM) : TM := fun env => (m env).bind fun x => if x.1 = true then some (true, x.2) else n x.2
@[simp] def eNotT (m : TM) : TM := fun env => (m env).map fun x => (!x.1, x.2)
def SWE (X : Cx) (e : Expr) (m : TM) : Prop := PW X e (trET X.K m)
section
variable {X : Cx} {a b e : Expr} {rest : List Expr} {pos : Pos} {m n : TM}
end


def lceD (g : Tg) (mt : BM) (me : EM) (vs : List Nat) : List D → Env → Option (List D × Env)
  | [], env => some ([], env)
  | d :: ds, env => (bD g d env).bind fun e1 => (mt e1).bind fun b => if b = true then (me e1).bind fun x => (lceD g mt me vs ds (wipeD x.2 vs)).map fun y => (x.1 :: y.1, y.2) else lceD g mt me vs ds env
def mLcE (mi : IM) (g : Tg) (mt : BM) (me : EM) (vs : List Nat) : EM := fun env => (mi env).bind fun x => if pureL x.1 = true ∧ x.1.length ≤ 16777216 then (lceD g mt me vs x.1 (wipeD x.2 vs)).map fun y => (.n (.lst .o) y.1, y.2) else none
section
variable {K : PySem.W.Frag} {H0 H H' : Hp} {env0 env : TEnv} {σ σ2 : L2.St} {F : List T} {t : T} {acc : List T} {p : Addr}
end
section
variable {X : Cx} {elt tg iter : Expr} {ifs : List Expr} {scope : Scope} {own : List (Str × Nat)} {pos : Pos} {mi : IM} {g : Tg} {mt : BM} {me : EM} {U : List Nat}
end
end Ow

namespace Ow
open PySem L2


def forRD (j : Nat) (mb : SM) : List D → List D → Env → Option (O × List D × Env)
  | done, [], env => some (.nx, done, env)
  | done, d :: ds, env => (mb (env.set j (some d))).bind fun x => match x.1 with
    | .nx => (x.2[j]?.join).bind fun d' => forRD j mb (done ++ [d']) ds (x.2.set j none)
    | .ct => (x.2[j]?.join).bind fun d' => forRD j mb (done ++ [d']) ds (x.2.set j none)
    | .bk => (x.2[j]?.join).bind fun d' => some (.nx, done ++ [d'] ++ ds, x.2.set j none)
    | .rt r => (x.2[j]?.join).bind fun d' => some (.rt r, done ++ [d'] ++ ds, x.2.set j none)
def sForR (i j : Nat) (mb : SM) : SM := fun env => (env[i]?.join).bind fun d => match d with
  | .n (.lst .o) ds => (forRD j mb [] ds (env.set i none)).map fun x => (x.1, x.2.2.set i (some (.n (.lst .o) x.2.1)))
  | _ => none
section
variable {X : Cx} {pos p : Pos} {P : List Nat} {mb : SM} {body : List Stmt}
theorem ss_forR {x y : Str} (i j : Nat) (hij : i ≠ j) (hc : X.calm = true) (hp : PassesOwn (model X.prog X.w) X.A X.env X.xe) (hN : X.N.Nodup) (hb : SSs X (j :: i :: P) body mb) (hP : j ∉ P) (hi : X.N[i]? = some x := by rfl) (hv : Vis X.env.scope x := by first | exact .inl rfl | exact .inr (.inl rfl) | exact .inr (.inr rfl))
    (hj : X.N[j]? = some y := by rfl) (hy : Loc X.env.scope y := by first | exact .inl rfl | exact .inr rfl) (hf : X.fn y = true ∨ X.env.scope.names.lookup y = some .local := by first | exact .inl rfl | exact .inr rfl | assumption)
    (hd : (x == ("__debug__" : Str)) = false := by decide) (hcd : (x == ("__classdict__" : Str)) = false := by decide) {ty : Pos} (hs : ∀ z, foldedSetIterable (.Name x p) X.env z = pure z := by intro _; rfl) :
    SS X P (.For (.Name y ty) (.Name x p) body [] pos) (sForR i j mb) :=
  PS.weak (ps_for hp hc (pi_list (pe_var (i := i) hi hv hd hcd)) (pg_name (i := j) hN hj hy hf) hb hs) fun De σ H ⟨env, o, e', hm, r, s, w, k⟩ => by
    obtain ⟨d, hd, hm⟩ := bind_some hm
    split at hm
    case h_2 => cases hm
    rename_i ds
    obtain ⟨z, hz, e1⟩ := map_some hm
    obtain ⟨zo, zl, ze⟩ := z
    cases e1
    obtain ⟨t, h1, h2⟩ := join_get hd
    obtain ⟨a, ts, rfl, h3, h4, h5⟩ := rdN (s.get h1) h2 rfl (by simp)
    have hl : ts.length = ds.length := len_er h3
    have se := s.get h1
    refine ⟨.ref a, r.2 i _ h1, a, rfl, ⟨_, .inl (.inl h4)⟩, ?_⟩
    have hσi : σ[i]? = some (some (.ref a)) := r.2 i _ h1
    have ilt : i < env.length := (List.getElem?_eq_some_iff.mp h1).1
    refine ⟨fun n mm σi Hi => n ≤ ts.length ∧ mm = ts.length - n ∧ ∃ (dn rs : List T) (envi : TEnv), vals (dn ++ rs) = vals ts ∧ dn.length = n ∧ forRD j mb (erL dn) (erL rs) (erE envi) = some (zo, zl, ze) ∧ Cf X.K H env σi Hi (T.n (.lst .o) a ((vals ts).map T.s) :: (dn ++ rs)) envi ∧ σi[i]? = some (some (.ref a)) ∧ ∀ q ∈ P, σi[q]? = σ[q]?,
      ⟨ts.length, Nat.zero_le _, rfl, [], ts, env.set i none, rfl, rfl, by rw [h3, erE_set]; exact hz, ?_, hσi, fun _ _ => rfl⟩, fun n mm σi Hi W => ?_⟩
    · refine (Cf.start r s w).less r.drop ⟨skel_sat h4, h5⟩ (s.set fun u hu => by cases hu) (fun b => ?_) fun b => ?_
      · have := coE_set (a := b) none h1
        simp only [coL, oT, T.co, skel_co, List.nil_append] at this ⊢
        omega
      · have := cuE_set (a := b) none h1
        simp only [cuL, oT, T.cu, skel_cu, List.nil_append] at this ⊢
        omega
    obtain ⟨le, ms, dn, rs, envi, hvs, hdn, hf, c, pi, pq⟩ := W
    have hnode : Hi a = some (.lst (vals ts)) := by
      have := c.satF.1.1.1
      rw [skel_vals] at this
      exact this
    have hlen : dn.length + rs.length = ts.length := by
      have := congrArg List.length hvs
      simpa using this
    cases rs with
    | nil =>
      refine .inl ⟨⟨_, .inl (.inl hnode), by rw [List.length_map]; simp at hlen; omega⟩, ?_⟩
      rw [erL, forRD] at hf
      cases hf
      rw [List.append_nil] at hvs c
      have hil : i < envi.length := by
        have := c.rel.1
        have q := (List.getElem?_eq_some_iff.mp pi).1
        omega
      have r2 : Rel σi (envi.set i (some (T.n (.lst .o) a dn))) := by
        refine ⟨by rw [List.length_set, c.rel.1], fun q u hu => ?_⟩
        rw [List.getElem?_set] at hu
        by_cases e : i = q
        · subst e
          rw [if_pos rfl, if_pos hil] at hu
          cases hu
          exact pi
        · rw [if_neg e] at hu
          exact c.rel.2 q u hu
      refine k [] σi (envi.set i (some (T.n (.lst .o) a dn))) Hi (by rw [erE_set]; rfl) (c.less r2 trivial (c.satE.set fun u hu => ?_) (fun b => ?_) fun b => ?_) pq rfl
      · cases hu
        exact ⟨⟨by rw [hvs]; exact hnode, rfl⟩, c.satF.2⟩
      · have := set_co (env := envi) (j := i) (t := T.n (.lst .o) a dn) (a := b)
        simp only [coL, T.co, skel_co] at this ⊢
        omega
      · have := set_cu (env := envi) (j := i) (t := T.n (.lst .o) a dn) (a := b)
        simp only [cuL, T.cu, skel_cu] at this ⊢
        omega
    | cons u rs =>
      have hn : n < ts.length := by simp at hlen; omega
      have hx : (vals ts)[n]? = some u.val := by
        rw [← hvs, vals, List.map_append, List.getElem?_append_right (by rw [List.length_map]; omega), List.length_map, hdn, Nat.sub_self]
        rfl
      refine .inr ⟨⟨_, _, .inl (.inl hnode), hx⟩, fun σ' H' => ∃ m', m' < mm ∧ (n + 1 ≤ ts.length ∧ m' = ts.length - (n + 1) ∧ ∃ (dn rs : List T) (envi : TEnv), vals (dn ++ rs) = vals ts ∧ dn.length = n + 1 ∧ forRD j mb (erL dn) (erL rs) (erE envi) = some (zo, zl, ze) ∧ Cf X.K H env σ' H' (T.n (.lst .o) a ((vals ts).map T.s) :: (dn ++ rs)) envi ∧ σ'[i]? = some (some (.ref a)) ∧ ∀ q ∈ P, σ'[q]? = σ[q]?), fun σ' H' h => h, fun x H3 hy => ?_⟩
      obtain ⟨rfl, hy⟩ := hy
      have hy2 := hy _ (.inl (.inl hnode))
      rw [hx] at hy2
      cases hy2
      rw [erL, forRD] at hf
      obtain ⟨y2, hb2, hf⟩ := bind_some hf
      have sF := c.satF
      have sR := satL_append.mp sF.2
      have c2 : Cf X.K H env (σi.set j (some u.val)) H3 (T.n (.lst .o) a ((vals ts).map T.s) :: (dn ++ rs)) (envi.set j (some u)) := c.less c.rel.set ⟨sF.1, satL_append.mpr ⟨sR.1, sR.2.2⟩⟩ (c.satE.set fun v hv => by cases hv; exact sR.2.1) (fun b => by
          have := set_co (env := envi) (j := j) (t := u) (a := b)
          simp only [coL, coL_append] at this ⊢
          omega) fun b => by
          have := set_cu (env := envi) (j := j) (t := u) (a := b)
          simp only [cuL, cuL_append] at this ⊢
          omega
      refine ⟨envi.set j (some u), y2.1, y2.2, by rw [erE_set]; exact hb2, c2.rel, c2.satE, c2.base, fun F σ3 env3 H4 e3 c4 p4 => ?_⟩
      have c5 := c2.step c4
      have pii : σ3[i]? = some (some (.ref a)) := by rw [p4 i (by simp), List.getElem?_set, if_neg (fun q => hij q.symm)]; exact pi
      have p5 : ∀ q ∈ P, σ3[q]? = σ[q]? := fun q hq => by
        rw [p4 q (by simp [hq]), List.getElem?_set, if_neg (fun e => hP (by rw [e]; exact hq))]
        exact pq q hq
      have fin : F = [] → ((y2.2[j]?.join).bind fun d' => forRD j mb (erL dn ++ [d']) (erL rs) (y2.2.set j none)) = some (zo, zl, ze) → ∃ m', m' < mm ∧ (n + 1 ≤ ts.length ∧ m' = ts.length - (n + 1) ∧ ∃ (dn rs : List T) (envi : TEnv), vals (dn ++ rs) = vals ts ∧ dn.length = n + 1 ∧ forRD j mb (erL dn) (erL rs) (erE envi) = some (zo, zl, ze) ∧ Cf X.K H env σ3 H4 (T.n (.lst .o) a ((vals ts).map T.s) :: (dn ++ rs)) envi ∧ σ3[i]? = some (some (.ref a)) ∧ ∀ q ∈ P, σ3[q]? = σ[q]?) := fun hF hf => by
        subst hF
        obtain ⟨d', hd', hf⟩ := bind_some hf
        rw [← e3] at hd' hf
        obtain ⟨u', g1, rfl⟩ := join_get hd'
        have hval : u'.val = u.val := by
          have := c5.rel.2 j u' g1
          rw [p4 j (by simp), List.getElem?_set, if_pos rfl] at this
          split at this
          · exact (Option.some.inj (Option.some.inj this)).symm
          · cases this
        refine ⟨mm - 1, by omega, by omega, by omega, dn ++ [u'], rs, env3.set j none, ?_, by simp [hdn], ?_, ?_, pii, p5⟩
        · rw [← hvs]
          simp [vals, hval]
        · rw [erL_append, erE_set]
          exact hf
        · have sF5 := c5.satF
          have sR5 := satL_append.mp sF5.2
          refine c5.less c5.rel.drop ⟨sF5.1, satL_append.mpr ⟨satL_append.mpr ⟨sR5.1, c5.satE.get g1, trivial⟩, sR5.2⟩⟩ (c5.satE.set fun v hv => by cases hv) (fun b => ?_) fun b => ?_
          · have := coE_set (a := b) none g1
            simp only [coL, coL_append, oT, List.nil_append] at this ⊢
            omega
          · have := cuE_set (a := b) none g1
            simp only [cuL, cuL_append, oT, List.nil_append] at this ⊢
            omega
      obtain ⟨yo, ye⟩ := y2
      have out : ∀ {o' : O}, ((ye[j]?.join).bind fun d' => some (o', erL dn ++ [d'] ++ erL rs, ye.set j none)) = some (zo, zl, ze) → o' = zo ∧ ∃ envF, erE envF = ze.set i (some (.n (.lst .o) zl)) ∧ Cf X.K H env σ3 H4 F envF := fun {o'} hf => by
        obtain ⟨d', hd', hf⟩ := bind_some hf
        cases hf
        dsimp only at e3
        rw [← e3] at hd'
        obtain ⟨u', g1, rfl⟩ := join_get hd'
        have hval : u'.val = u.val := by
          have := c5.rel.2 j u' g1
          rw [p4 j (by simp), List.getElem?_set, if_pos rfl] at this
          split at this
          · exact (Option.some.inj (Option.some.inj this)).symm
          · cases this
        have hvs2 : vals (dn ++ [u'] ++ rs) = vals ts := by
          rw [← hvs]
          simp [vals, hval]
        have sF5 := satL_append.mp c5.satF
        have sR5 := satL_append.mp sF5.2.2
        have hn4 : H4 a = some (.lst (vals ts)) := by
          have := sF5.2.1.1.1
          rw [skel_vals] at this
          exact this
        have hil : i < env3.length := by
          have := c5.rel.1
          have q := (List.getElem?_eq_some_iff.mp pii).1
          omega
        refine ⟨rfl, (env3.set j none).set i (some (T.n (.lst .o) a (dn ++ [u'] ++ rs))), by rw [erE_set, erE_set, ← e3]; simp only [Option.map_some, T.er, erL_append, erL, Option.map_none], ?_⟩
        have r1 : Rel σ3 (env3.set j none) := c5.rel.drop
        have r2 : Rel σ3 ((env3.set j none).set i (some (T.n (.lst .o) a (dn ++ [u'] ++ rs)))) := by
          refine ⟨by rw [List.length_set, r1.1], fun q v hv => ?_⟩
          rw [List.getElem?_set] at hv
          by_cases e : i = q
          · subst e
            rw [if_pos rfl, if_pos (by rw [List.length_set]; exact hil)] at hv
            cases hv
            exact pii
          · rw [if_neg e] at hv
            exact r1.2 q v hv
        refine c5.less r2 sF5.1 ((c5.satE.set fun v hv => by cases hv).set fun v hv => ?_) (fun b => ?_) fun b => ?_
        · cases hv
          exact ⟨⟨by rw [hvs2]; exact hn4, rfl⟩, satL_append.mpr ⟨satL_append.mpr ⟨sR5.1, c5.satE.get g1, trivial⟩, sR5.2⟩⟩
        · have q1 := coE_set (a := b) none g1
          have q2 := set_co (env := env3.set j none) (j := i) (t := T.n (.lst .o) a (dn ++ [u'] ++ rs)) (a := b)
          simp only [coL, coL_append, T.co, skel_co, oT] at q1 q2 ⊢
          omega
        · have q1 := cuE_set (a := b) none g1
          have q2 := set_cu (env := env3.set j none) (j := i) (t := T.n (.lst .o) a (dn ++ [u'] ++ rs)) (a := b)
          simp only [cuL, cuL_append, T.cu, skel_cu, oT] at q1 q2 ⊢
          omega
      cases yo with
      | nx => exact fun hF => fin hF hf
      | ct => exact fun hF => fin hF hf
      | bk =>
        intro hF
        subst hF
        obtain ⟨rfl, envF, g1, g2⟩ := out hf
        exact k [] σ3 envF H4 g1 g2 p5 rfl
      | rt d =>
        obtain ⟨rfl, envF, g1, g2⟩ := out hf
        exact k F σ3 envF H4 g1 g2 p5
end
end Ow

namespace Ow
open PySem L2

def eCallN (f : FMu) (as : List As) : EM := fun env => if ((muS as ++ boS as).all fun i => (env[i]?.join).isSome) = false then none else (evA as env).bind fun x => (insA as x.1 x.2).bind fun y => (f y.1).bind fun z => if ((boS as).all fun i => (x.2[i]?.join).any D.pure) = true then (putA as z.2 y.2).map fun e => (z.1, e) else none
section
variable {X : Cx} {e : Expr} {es : List Expr} {pos p : Pos} {U : List Nat} {as : List As}
theorem se_callN {k n : Nat} {x : Str} {f : Addr} {fd : FuncData} {ps : List Str} {fm : FMu} {mu : List Nat} {CX : CXT} {E : XK} (F : FnOk X.prog X.w X.K X.mg X.base CX k f fd ps (spM X.K n mu fm)) (hr : Room k X.A) (hm : X.mg x = some (.ref f)) (hk : PySem.W.keepIn X.K (.ref f) = true)
    (hb : Binds X.K fd ps []) (hx : Passes CX X E) (hmu : mu = muP 0 as) (hln : as.length = n) (hdis : ∀ i ∈ muS as, i ∉ boS as ∧ i ∉ U) (ha : SEA X U (e :: es) as) (hg : Gl X x := by rfl) (hdb : (x == ("__debug__" : Str)) = false := by decide) (he : starEach (e :: es) X.env = (false, eval e X.env) :: starEach es X.env := by rfl) (hpl : (backTo pos (starEach es X.env)).any (·.1) = false := by rfl) :
    SE X U (.Call (.Name x p) (e :: es) [] pos) (eCallN fm as) := PE.weak (pe_call F hr hg hm hk hb .nil hx ha hdb he hpl) fun σ H Q ⟨env, d, e', hm, r, s, w, k⟩ => by
  unfold eCallN at hm
  split at hm
  case isTrue => cases hm
  rename_i hall
  rw [Bool.not_eq_false, List.all_eq_true] at hall
  obtain ⟨x1, h1, hm⟩ := bind_some hm
  obtain ⟨y, h2, hm⟩ := bind_some hm
  obtain ⟨z, h3, hm⟩ := bind_some hm
  split at hm
  case isFalse => cases hm
  rename_i hno
  rw [List.all_eq_true] at hno
  obtain ⟨e2, h4, e5⟩ := map_some hm
  cases e5
  refine ⟨env, x1.1, x1.2, h1, r, s, w, fun i hi => ?_, fun F env1 H1 vs e1 e2' c1 u1 av => ?_⟩
  · have := hall i hi
    rw [Option.isSome_iff_exists] at this
    obtain ⟨d, hd⟩ := this
    obtain ⟨t, ht, _⟩ := join_get hd
    exact ⟨t.val, r.2 i t ht⟩
  rw [← e1, ← e2'] at h2
  obtain ⟨ins, envR, evc, I⟩ := ins_run c1.rel c1.satF c1.satE av h2
  have bo : ∀ a, ¬ ∃ j ∈ boS as, ∃ t : T, env1[j]? = some (some t) ∧ 0 < t.co a := fun a ⟨j, hj, t, ht, hc⟩ => by
    have h := hno j hj
    rw [← e2'] at h
    have e : (erE env1)[j]? = some (some t.er) := by
      unfold erE
      rw [List.getElem?_map, ht]; rfl
    rw [e] at h
    have := pure_co (a := a) t h
    omega
  have cuI : ∀ a, 0 < cuL a ins → 0 < evc a + cuL a F ∨ 0 < cuE a env1 := fun a h => by
    rcases I.cu a h with q | q | q | q
    · exact .inl (by omega)
    · exact .inl (by omega)
    · exact .inr q
    · exact absurd q (bo a)
  have hlen : vs.length = as.length := by
    have : ∀ {as : List As} {F : List T} {vs : List V}, ArgV σ as F vs → vs.length = as.length := by
      intro as
      induction as with
      | nil => intro F vs av; rw [av.2]; rfl
      | cons x as ih =>
        intro F vs av
        cases x with
        | ev m =>
          cases F with
          | nil => cases av
          | cons t F => obtain ⟨vs', rfl, av⟩ := av; rw [List.length_cons, List.length_cons, ih av]
        | tm m =>
          cases F with
          | nil => cases av
          | cons t F => obtain ⟨vs', rfl, av⟩ := av; rw [List.length_cons, List.length_cons, ih av]
        | bor i => obtain ⟨v, vs', rfl, _, av⟩ := av; rw [List.length_cons, List.length_cons, ih av]
        | mv i => obtain ⟨v, vs', rfl, _, av⟩ := av; rw [List.length_cons, List.length_cons, ih av]
    exact this av
  refine ⟨ins, z.1, z.2, by rw [List.append_nil, I.vl], by rw [← hln, ← hlen, ← I.vl, List.length_map], I.sat, fun a => ?_, by rw [I.er]; exact h3, fun t us H' et eu hv st su wf' stp => ?_⟩
  · have w1 := c1.wf a
    have i1 := I.co a
    have i2 := cuI a
    simp only at w1 ⊢
    by_cases q : 0 < coL a ins
    · by_cases q2 : 0 < cuL a ins
      · rcases i2 q2 with y | y <;> omega
      · omega
    · omega
  rw [List.append_nil] at hv
  have keepR : ∀ a o, 0 < coE a envR + cuE a envR → H1 a = some o → H' a = some o := fun a o h ho => stp.1 a o ho (by
    have w1 := c1.wf a
    have i1 := I.co a
    have i2 := I.cuR a
    simp only at w1 ⊢
    omega)
  have sR : SatE X.K H' envR := satE_keep keepR I.satR
  have someR : ∀ a, 0 < coE a envR + cuE a envR → H1 a ≠ none := fun a h => by
    by_cases q : 0 < coE a envR
    · exact coE_some I.satR q
    · exact cuE_some I.satR (by omega)
  rw [← eu, ← I.erR] at h4
  obtain ⟨env2, g1, g2, g3, g4, g5, g6⟩ := put_run as I.rel sR su h4 fun j i hj u hu => by
    obtain ⟨q, v, p1, p2, p3⟩ := argv_mu (n := 0) av hj
    have := hv j (0 + q) (by rw [hmu]; exact p1) v (by rw [Nat.zero_add]; exact p2)
    rw [vals, List.getElem?_map, hu] at this
    rw [p3]
    cases this
    rfl
  refine k t env2 H' et g1 ⟨g2, ⟨st, trivial⟩, g3, fun a => ?_, Stp.trans c1.stp ⟨fun a o h hc => stp.1 a o h ?_, stp.2.1, fun a => ?_⟩⟩ fun i hi => ?_
  · have w1 := c1.wf a
    have i1 := I.co a
    have i2 := I.cuR a
    have s1 := (stp.2.2 a).1
    have s2 := (stp.2.2 a).2
    have wf1 := wf' a
    have j1 := g4 a
    have j2 := g5 a
    have ci := cuI a
    simp only [coL, cuL, Nat.add_zero] at w1 s1 s2 wf1 ⊢
    by_cases q : 0 < coE a envR
    · have nn := someR a (by omega)
      simp only [nn, or_false] at s1 s2
      have nb : ¬ 0 < t.cu a + cuL a us := fun h => by
        rcases s2 h with y | y
        · omega
        · rcases ci y with y | y <;> omega
      omega
    · by_cases q2 : 0 < t.co a + coL a us
      · by_cases q3 : 0 < cuE a envR
        · have nn := someR a (by omega)
          simp only [nn, or_false] at s1 s2
          have := s1 q2
          omega
        · omega
      · omega
  · have i1 := I.co a
    simp only at hc ⊢
    omega
  · have i1 := I.co a
    have i2 := I.cuR a
    have s1 := (stp.2.2 a).1
    have s2 := (stp.2.2 a).2
    have j1 := g4 a
    have j2 := g5 a
    have ci := cuI a
    simp only [coL, cuL, Nat.add_zero] at s1 s2 ⊢
    refine ⟨fun h => ?_, fun h => ?_⟩
    · by_cases q : 0 < coE a envR
      · exact .inl (by omega)
      · rcases s1 (by omega) with y | y
        · exact .inl (by omega)
        · exact .inr y
    · by_cases q : 0 < cuE a envR
      · exact .inr (.inl (by omega))
      · rcases s2 (by omega) with y | y | y
        · exact .inl (by omega)
        · rcases ci y with y | y
          · by_cases q3 : 0 < evc a
            · exact .inl (by omega)
            · exact .inr (.inl (by omega))
          · exact .inr (.inl (by omega))
        · exact .inr (.inr y)
  · have hn : i ∉ muS as := fun q => (hdis i q).2 hi
    rw [g6 i hn, I.out i hn, u1 i hi]
end

section
variable {X : Cx} {elt tg iter : Expr} {ifs : List Expr} {scope : Scope} {own : List (Str × Nat)} {pos : Pos} {mi : LM} {g : Tg} {mt : BM} {ml : PM} {P : List Nat}
end

section
variable {X : Cx} {i : Nat} {a b e : Expr} {r : List Expr} {pos : Pos} {m k : String → BM}
end
end Ow

namespace Ow
open PySem L2
@[simp] def sPutE (i : Nat) (pm : Env → Option (List Nat)) (mb me : EM) : SM := fun env => (me env).bind fun x => (pm x.2).bind fun p => (mb x.2).bind fun y => (toI y.1).bind fun n => (y.2[i]?.join).bind fun d =>
  (modD p (fun ds => (ixN ds.length n).map fun j => ds.set j x.1) d).map fun d' => (.nx, y.2.set i (some d'))

@[simp] def strsD : List D → Option (List Str)
  | [] => some []
  | .s (.str i) :: ds => (strsD ds).map (i :: ·)
  | _ => none
def fIdxS (x y : D) : Option V := match x, y with
  | .n (.lst _) ds, .s (.str i) => (strsD ds).bind fun ns => if i ∈ ns then some (.int (ns.idxOf i : Nat)) else none
  | _, _ => none
def mIdxS (ma mb : PM) : PM := fun env => (ma env).bind fun x => (mb env).bind fun y => (fIdxS x y).bind sv
section
variable {X : Cx} {o e : Expr} {ma mb : PM} {apos cpos : Pos}
end
end Ow

namespace Ow
open PySem L2 PySem.Spec PyProof.Rows

abbrev AL := Addr × List Int
def encAL (b : AL) : PyData := .list (b.2.map PyData.int)
def leAL (p q : AL) : Bool := decide (p.2 ≤ q.2)
def rSortedLL (K : PySem.W.Frag) : List V → Hp → VK → Prop := fun vs H Q => ∃ (a : Addr) (bs : List AL), vs = [V.ref a] ∧ SqL K H a (bs.map fun b => V.ref b.1) ∧ (∀ b ∈ bs, SqL K H b.1 (b.2.map V.int)) ∧
  ∀ p, H p = none → Q (.ref p) (upd H p (.lst ((bs.mergeSort leAL).map fun b => V.ref b.1)))

def llD : List D → Option (List (List Int))
  | [] => some []
  | .n (.lst .s) is :: ds => (intsD is).bind fun r => (llD ds).map (r :: ·)
  | _ => none
def lsrtD (rs : List (List Int)) : List (List Int) := rs.mergeSort fun a b => decide (a ≤ b)
def fSortLL : List D → Option (List D)
  | [.n (.lst _) ds] => (llD ds).map fun rs => (lsrtD rs).map fun r => .n (.lst .s) (r.map fun i => .s (.int i))
  | _ => none
def adT (u : T) : Addr := match u.val with
  | .ref a => a
  | _ => 0
def inT (u : T) : List Int := match u.er with
  | .n (.lst _) is => (intsD is).getD []
  | _ => []
def ktT (u : T) : AL := (adT u, inT u)
section
variable {X : Cx} {e : Expr} {ml : LM} {p pos : Pos}
end
end Ow

namespace Ty
variable {α β γ σ ρ : Type}


def lt (a : α) (f : α → β) : β := f a
@[simp] theorem lt_eq (a : α) (f : α → β) : lt a f = f a := rfl
def ixZ (n : Nat) (i : Int) : Option Nat := if 0 ≤ i then (if i < n then some i.toNat else none) else if -(n : Int) ≤ i then some (i + n).toNat else none
@[irreducible] def idx (xs : List α) (i : Int) : Option α := (ixZ xs.length i).bind fun j => xs[j]?
@[irreducible] def putI (xs : List α) (i : Int) (v : α) : Option (List α) := (ixZ xs.length i).map fun j => xs.set j v
@[irreducible] def setI (xs : List α) (i : Int) (v : α) : List α := ((ixZ xs.length i).map fun j => xs.set j v).getD xs
@[irreducible] def pmul (i j : Int) : Option Int := if i.natAbs.log2 < 2000000 ∧ j.natAbs.log2 < 2000000 then some (i * j) else none
@[irreducible] def pdiv (i j : Int) : Option Int := if 0 < j ∧ j < 2 ^ 250 then some (i / j) else none
@[irreducible] def pmod (i j : Int) : Option Int := if 0 < j then some (i % j) else none
@[irreducible] def ppow (i j : Int) : Option Int := if 0 ≤ j ∧ j ≤ 1000 ∧ i.natAbs < 2 ^ 64 then some (i ^ j.toNat) else none
def span (a b : Int) : List Int := (List.range (b - a).toNat).map fun (i : Nat) => a + (i : Int)
@[irreducible] def rng (a b : Int) : Option (List Int) := if -(2 ^ 60) ≤ a ∧ a ≤ 2 ^ 60 ∧ -(2 ^ 60) ≤ b ∧ b ≤ 2 ^ 60 ∧ (b - a).toNat ≤ 16777216 then some (span a b) else none
@[irreducible] def cat (xs ys : List α) : Option (List α) := if xs.length + ys.length ≤ 16777216 then some (xs ++ ys) else none
@[irreducible] def rep (xs : List α) (n : Int) : Option (List α) := if n < 2 ^ 60 ∧ -(2 ^ 60) < n ∧ xs.length * n.toNat ≤ 16777216 then some (List.replicate n.toNat xs).flatten else none
@[irreducible] def app (xs : List α) (v : α) : Option (List α) := if xs.length < 16777216 then some (xs ++ [v]) else none
@[irreducible] def insI (xs : List α) (n : Int) (v : α) : Option (List α) := if xs.length < 16777216 ∧ 0 ≤ n ∧ n < 2 ^ 60 then some (xs.take n.toNat ++ [v] ++ xs.drop n.toNat) else none
@[irreducible] def popI (xs : List α) (n : Int) : Option (α × List α) := if xs.length ≤ 16777216 then (ixZ xs.length n).bind fun j => (xs[j]?).map fun z => (z, xs.eraseIdx j) else none
@[irreducible] def pmax (xs : List Int) : Option Int := xs.max?
@[irreducible] def pmin (xs : List Int) : Option Int := xs.min?
@[irreducible] def ixOf (xs : List Int) (i : Int) : Option Int := if i ∈ xs then some (xs.idxOf i : Nat) else none
def bd (n d : Nat) : Option Int → Nat
  | none => d
  | some i => if i < 0 then (if i < -(n : Int) then 0 else (i + n).toNat) else min i.toNat n
@[irreducible] def sl (xs : List α) (lo hi : Option Int) : List α := (xs.drop (bd xs.length 0 lo)).take (bd xs.length xs.length hi - bd xs.length 0 lo)
@[irreducible] def lcm (xs : List α) (f : α → β) : Option (List β) := if xs.length ≤ 16777216 then some (xs.map f) else none
def lcO (p : α → Option Bool) (f : α → Option β) : List α → Option (List β)
  | [] => some []
  | x :: xs => (p x).bind fun b => if b = true then (f x).bind fun y => (lcO p f xs).map (y :: ·) else lcO p f xs
@[irreducible] def lcp (xs : List α) (p : α → Option Bool) (f : α → Option β) : Option (List β) := if xs.length ≤ 16777216 then lcO p f xs else none
def enu : Nat → List α → List (Int × α)
  | _, [] => []
  | i, x :: xs => ((i : Int), x) :: enu (i + 1) xs
inductive Lp (σ ρ : Type) where
  | go (s : σ)
  | br (s : σ)
  | rt (r : ρ)
def forO : List α → σ → (σ → α → Option σ) → Option σ
  | [], s, _ => some s
  | x :: xs, s, f => (f s x).bind fun s' => forO xs s' f
def forR : List α → σ → (σ → α → Option (Lp σ ρ)) → Option (Lp σ ρ)
  | [], s, _ => some (.go s)
  | x :: xs, s, f => (f s x).bind fun r => match r with
    | .go s' => forR xs s' f
    | .br s' => some (.go s')
    | .rt v => some (.rt v)
def whO : Nat → σ → (σ → Option Bool) → (σ → Option σ) → Option σ
  | 0, _, _, _ => none
  | n + 1, s, c, f => (c s).bind fun b => if b = true then (f s).bind fun s' => whO n s' c f else some s
def whR : Nat → σ → (σ → Option Bool) → (σ → Option (Lp σ ρ)) → Option (Lp σ ρ)
  | 0, _, _, _ => none
  | n + 1, s, c, f => (c s).bind fun b => if b = true then (f s).bind fun r => match r with
    | .go s' => whR n s' c f
    | .br s' => some (.go s')
    | .rt v => some (.rt v) else some (.go s)
def aft (o : Option (Lp σ ρ)) (f : σ → Option γ) (g : ρ → Option γ) : Option γ := o.bind fun r => match r with
  | .go s => f s
  | .br s => f s
  | .rt v => g v
@[irreducible] def chk (b : Bool) (o : Option α) : Option α := if b = true then o else none


def Ok (o : Option α) (Q : α → Prop) : Prop := ∃ a, o = some a ∧ Q a
theorem Ok.ret {a : α} {Q : α → Prop} (q : Q a) : Ok (some a) Q := ⟨a, rfl, q⟩
theorem Ok.mono {o : Option α} {Q R : α → Prop} (h : Ok o Q) (f : ∀ a, Q a → R a) : Ok o R := let ⟨a, e, q⟩ := h; ⟨a, e, f a q⟩
theorem Ok.bind {o : Option α} {f : α → Option β} {Q : α → Prop} {R : β → Prop} (h : Ok o Q) (k : ∀ a, Q a → Ok (f a) R) : Ok (o.bind f) R := by
  obtain ⟨a, e, q⟩ := h
  subst e
  exact k a q
theorem Ok.bindE {o : Option α} {f : α → Option β} {a : α} {R : β → Prop} (h : o = some a) (k : Ok (f a) R) : Ok (o.bind f) R := by
  subst h
  exact k
theorem bs {α β : Type} (a : α) (f : α → Option β) : Option.bind (some a) f = f a := (Option.bind_some a f).trans (Eq.refl (f a))
theorem Ok.ite {p : Prop} [Decidable p] {a b : Option α} {Q : α → Prop} (h : p → Ok a Q) (k : ¬p → Ok b Q) : Ok (if p then a else b) Q := by
  split
  · exact h ‹_›
  · exact k ‹_›
theorem Ok.eqs {o : Option α} {a : α} (h : Ok o (· = a)) : o = some a := by
  obtain ⟨b, e, rfl⟩ := h
  exact e


theorem ixZ_ok {n : Nat} {i : Int} (h0 : 0 ≤ i) (h1 : i < n) : ixZ n i = some i.toNat := by
  unfold ixZ
  rw [if_pos h0, if_pos h1]
theorem ixZ_neg {n : Nat} {i : Int} (h0 : i < 0) (h1 : -(n : Int) ≤ i) : ixZ n i = some (i + n).toNat := by
  unfold ixZ
  rw [if_neg (by omega), if_pos h1]
theorem idx_at {xs : List α} {i : Int} {x : α} (h0 : 0 ≤ i) (h1 : xs[i.toNat]? = some x) : idx xs i = some x := by
  obtain ⟨h2, h3⟩ := List.getElem?_eq_some_iff.mp h1
  unfold idx
  rw [ixZ_ok h0 (by omega)]
  exact h1
theorem idx_ok {xs : List α} {i : Int} (h0 : 0 ≤ i) (h1 : i < xs.length) : idx xs i = some (xs[i.toNat]'(by omega)) := idx_at h0 (List.getElem?_eq_getElem (by omega))
theorem idx_nat {xs : List α} {i : Nat} (h : i < xs.length) : idx xs (i : Int) = some xs[i] := idx_at (by omega) (by rw [show ((i : Int)).toNat = i by omega]; exact List.getElem?_eq_getElem h)
theorem idx_neg {xs : List α} {i : Int} (h0 : i < 0) (h1 : -(xs.length : Int) ≤ i) : idx xs i = some (xs[(i + xs.length).toNat]'(by omega)) := by
  unfold idx
  rw [ixZ_neg h0 h1]
  exact List.getElem?_eq_getElem (by omega)
theorem idx_last {xs : List α} (h : xs ≠ []) : idx xs (-1) = some (xs.getLast h) := by
  have hl : 0 < xs.length := List.length_pos_iff.mpr h
  rw [idx_neg (by omega) (by omega), List.getLast_eq_getElem]
  congr 2
  omega
theorem putI_ok {xs : List α} {i : Int} {v : α} (h0 : 0 ≤ i) (h1 : i < xs.length) : putI xs i v = some (xs.set i.toNat v) := by
  unfold putI
  rw [ixZ_ok h0 h1]; rfl
theorem pmul_ok {i j : Int} (h1 : i.natAbs < 2 ^ 250) (h2 : j.natAbs < 2 ^ 250) : pmul i j = some (i * j) := by
  unfold pmul
  have lg : ∀ n : Nat, n < 2 ^ 250 → n.log2 < 2000000 := fun n hn => by
    by_cases z : n = 0
    · subst z; decide
    · exact Nat.lt_trans ((Nat.log2_lt z).mpr hn) (by decide)
  exact if_pos ⟨lg _ h1, lg _ h2⟩
theorem pdiv_ok {i j : Int} (h1 : 0 < j) (h2 : j < 2 ^ 250) : pdiv i j = some (i / j) := by
  unfold pdiv
  exact if_pos ⟨h1, h2⟩
theorem pmod_ok {i j : Int} (h1 : 0 < j) : pmod i j = some (i % j) := by
  unfold pmod
  exact if_pos h1
theorem ppow_ok {i j : Int} (h : 0 ≤ j) (h1 : j ≤ 1000) (h2 : i.natAbs < 2 ^ 64) : ppow i j = some (i ^ j.toNat) := by
  unfold ppow
  exact if_pos ⟨h, h1, h2⟩
theorem rng_ok {a b : Int} (h0 : -16777216 ≤ a) (h1 : a ≤ 16777216) (h2 : -16777216 ≤ b) (h : b ≤ 16777216) (hl : b - a ≤ 16777216 := by omega) : rng a b = some (span a b) := by
  unfold rng
  exact if_pos ⟨by omega, by omega, by omega, by omega, by omega⟩
theorem cat_ok {xs ys : List α} (h : xs.length + ys.length ≤ 16777216) : cat xs ys = some (xs ++ ys) := by
  unfold cat
  exact if_pos h
theorem rep_ok {xs : List α} {n : Int} (h : n ≤ 16777216) (h0 : -16777216 ≤ n) (h2 : xs.length * n.toNat ≤ 16777216) : rep xs n = some (List.replicate n.toNat xs).flatten := by
  unfold rep
  exact if_pos ⟨by omega, by omega, h2⟩
theorem flat_one : ∀ (n : Nat) (x : α), (List.replicate n [x]).flatten = List.replicate n x
  | 0, _ => rfl
  | n + 1, x => by rw [List.replicate_succ, List.flatten_cons, flat_one n x, List.replicate_succ]; rfl
theorem rep_one {x : α} {n : Int} (h : n ≤ 16777216) (h0 : -16777216 ≤ n) : rep [x] n = some (List.replicate n.toNat x) := by
  rw [rep_ok h h0 (by simp; omega), flat_one]
theorem app_ok {xs : List α} {v : α} (h : xs.length < 16777216) : app xs v = some (xs ++ [v]) := by
  unfold app
  exact if_pos h
theorem insI_ok {xs : List α} {n : Int} {v : α} (h : xs.length < 16777216) (h0 : 0 ≤ n) (h1 : n ≤ 16777216) : insI xs n v = some (xs.take n.toNat ++ [v] ++ xs.drop n.toNat) := by
  unfold insI
  exact if_pos ⟨h, h0, by omega⟩
theorem popI_ok {xs : List α} {n : Int} (h : xs.length ≤ 16777216) (h0 : 0 ≤ n) (h1 : n < xs.length) : popI xs n = some (xs[n.toNat]'(by omega), xs.eraseIdx n.toNat) := by
  unfold popI
  rw [if_pos h, ixZ_ok h0 h1, Option.bind_some, List.getElem?_eq_getElem (by omega)]; rfl
theorem pmin_ok {xs : List Int} (h : xs ≠ []) : ∃ m, pmin xs = some m ∧ m ∈ xs ∧ ∀ x ∈ xs, m ≤ x := by
  unfold pmin
  cases hx : xs.min? with
  | none => exact absurd (List.min?_eq_none_iff.mp hx) h
  | some m => exact ⟨m, rfl, (List.min?_eq_some_iff.mp hx).1, (List.min?_eq_some_iff.mp hx).2⟩
theorem ixOf_ok {xs : List Int} {i : Int} (h : i ∈ xs) : ixOf xs i = some ((xs.idxOf i : Nat) : Int) := by
  unfold ixOf
  exact if_pos h
theorem bd_pos {n d : Nat} {i : Int} (h : 0 ≤ i) : bd n d (some i) = min i.toNat n := by
  unfold bd
  exact if_neg (by omega)
theorem sl_hi {xs : List α} {i : Int} (h0 : 0 ≤ i) : sl xs (some i) none = xs.drop i.toNat := by
  unfold sl
  rw [bd_pos h0, show bd xs.length xs.length none = xs.length from rfl]
  by_cases h : i.toNat ≤ xs.length
  · rw [Nat.min_eq_left h, List.take_of_length_le (by rw [List.length_drop]; omega)]
  · rw [Nat.min_eq_right (by omega), List.drop_eq_nil_of_le (as := xs) (i := i.toNat) (by omega), List.drop_length]; simp
theorem sl_lo {xs : List α} {i : Int} (h0 : 0 ≤ i) : sl xs none (some i) = xs.take i.toNat := by
  unfold sl
  rw [bd_pos h0, show bd xs.length 0 none = 0 from rfl, List.drop_zero, Nat.sub_zero]
  by_cases h : i.toNat ≤ xs.length
  · rw [Nat.min_eq_left h]
  · rw [Nat.min_eq_right (by omega), List.take_length, List.take_of_length_le (by omega)]
theorem lcm_ok {xs : List α} {f : α → β} (h : xs.length ≤ 16777216) : lcm xs f = some (xs.map f) := by
  unfold lcm
  exact if_pos h
theorem lcO_map {p : α → Option Bool} {f : α → Option β} {pb : α → Bool} {g : α → β} : ∀ {xs : List α}, (∀ x ∈ xs, p x = some (pb x)) → (∀ x ∈ xs, pb x = true → f x = some (g x)) → lcO p f xs = some ((xs.filter pb).map g)
  | [], _, _ => rfl
  | x :: xs, hp, hf => by
    have ih := lcO_map (xs := xs) (fun y hy => hp y (List.mem_cons_of_mem _ hy)) (fun y hy => hf y (List.mem_cons_of_mem _ hy))
    rw [lcO, hp x (List.mem_cons_self ..), Option.bind_some]
    cases hb : pb x with
    | true => rw [if_pos rfl, hf x (List.mem_cons_self ..) hb, Option.bind_some, ih, List.filter_cons_of_pos hb]; rfl
    | false => rw [if_neg (by decide), ih, List.filter_cons_of_neg (by rw [hb]; decide)]
theorem lcp_ok {xs : List α} {p : α → Option Bool} {f : α → Option β} (pb : α → Bool) (g : α → β) (h : xs.length ≤ 16777216) (hp : ∀ x ∈ xs, p x = some (pb x)) (hf : ∀ x ∈ xs, pb x = true → f x = some (g x)) : lcp xs p f = some ((xs.filter pb).map g) := by
  unfold lcp
  rw [if_pos h, lcO_map hp hf]
theorem lcp_all {xs : List α} {p : α → Option Bool} {f : α → Option β} (g : α → β) (h : xs.length ≤ 16777216) (hp : ∀ x ∈ xs, p x = some true) (hf : ∀ x ∈ xs, f x = some (g x)) : lcp xs p f = some (xs.map g) := by
  rw [lcp_ok (fun _ => true) g h hp (fun x hx _ => hf x hx), List.filter_eq_self.mpr (fun _ _ => rfl)]
@[simp] theorem span_length (a b : Int) : (span a b).length = (b - a).toNat := by unfold span; simp
theorem span_get {a b : Int} {k : Nat} (h : k < (b - a).toNat) : (span a b)[k]? = some (a + (k : Int)) := by
  unfold span
  rw [List.getElem?_map, List.getElem?_range h]; rfl
theorem mem_span {a b x : Int} : x ∈ span a b ↔ a ≤ x ∧ x < b := by
  unfold span
  rw [List.mem_map]
  constructor
  · rintro ⟨i, hi, rfl⟩
    rw [List.mem_range] at hi
    omega
  · rintro ⟨h1, h2⟩
    exact ⟨(x - a).toNat, List.mem_range.mpr (by omega), by omega⟩
theorem span_succ {a b : Int} (h : a ≤ b) : span a (b + 1) = span a b ++ [b] := by
  unfold span
  rw [show (b + 1 - a).toNat = (b - a).toNat + 1 by omega, List.range_succ, List.map_append]
  simp
  omega
theorem span_nil {a b : Int} (h : b ≤ a) : span a b = [] := by
  unfold span
  rw [show (b - a).toNat = 0 by omega]; rfl
@[simp] theorem enu_length : ∀ (i : Nat) (xs : List α), (enu i xs).length = xs.length
  | _, [] => rfl
  | i, x :: xs => by rw [enu, List.length_cons, enu_length, List.length_cons]
theorem enu_get : ∀ (i : Nat) (xs : List α) (k : Nat), (enu i xs)[k]? = (xs[k]?).map fun x => (((i + k : Nat) : Int), x)
  | _, [], k => by simp [enu]
  | i, x :: xs, 0 => by simp [enu]
  | i, x :: xs, k + 1 => by
    rw [enu, List.getElem?_cons_succ, enu_get (i + 1) xs k, List.getElem?_cons_succ, show i + 1 + k = i + (k + 1) by omega]


theorem forO_go {f : σ → α → Option σ} (I : List α → σ → Prop) (xs : List α) : ∀ (post pre : List α) (s : σ), xs = pre ++ post → I pre s → (∀ pre x post s, xs = pre ++ x :: post → I pre s → Ok (f s x) (I (pre ++ [x]))) → Ok (forO post s f) (I xs)
  | [], pre, s, e, h, _ => ⟨s, rfl, by rw [e, List.append_nil]; exact h⟩
  | x :: post, pre, s, e, h, k => by
    rw [forO]
    exact (k pre x post s e h).bind fun s' h' => forO_go I xs post (pre ++ [x]) s' (by rw [e]; simp) h' k
theorem forO_ok {f : σ → α → Option σ} {xs : List α} {s : σ} (I : List α → σ → Prop) (h : I [] s) (k : ∀ pre x post s, xs = pre ++ x :: post → I pre s → Ok (f s x) (I (pre ++ [x]))) : Ok (forO xs s f) (I xs) := forO_go I xs xs [] s rfl h k
theorem forO_at {f : σ → α → Option σ} {xs : List α} {s : σ} (I : Nat → σ → Prop) (h : I 0 s) (k : ∀ i s (hi : i < xs.length), I i s → Ok (f s xs[i]) (I (i + 1))) : Ok (forO xs s f) (I xs.length) := by
  refine forO_ok (fun pre s => I pre.length s) h fun pre x post s e hI => ?_
  have hi : pre.length < xs.length := by rw [e]; simp
  have hx : xs[pre.length] = x := by simp [e]
  have := k pre.length s hi hI
  rw [hx] at this
  exact this.mono fun a q => by rw [List.length_append]; exact q
theorem forO_span {f : σ → Int → Option σ} {a b : Int} {s : σ} (I : Int → σ → Prop) (hab : a ≤ b) (h : I a s) (k : ∀ i s, a ≤ i → i < b → I i s → Ok (f s i) (I (i + 1))) : Ok (forO (span a b) s f) (I b) := by
  have := forO_at (f := f) (xs := span a b) (s := s) (fun n s => I (a + n) s) (by simpa using h) (fun i s hi hI => by
    have hi' : i < (b - a).toNat := by simpa using hi
    have e : (span a b)[i] = a + (i : Int) := by
      have := span_get hi'
      rw [List.getElem?_eq_getElem hi] at this
      exact Option.some.inj this
    rw [e]
    have := k (a + i) s (by omega) (by omega) hI
    exact this.mono fun _ q => by rw [show a + ((i + 1 : Nat) : Int) = a + i + 1 by omega]; exact q)
  rw [span_length] at this
  exact this.mono fun _ q => by rw [show a + (((b - a).toNat : Nat) : Int) = b by omega] at q; exact q
theorem forO_map {f : σ → β → Option σ} {g : α → β} : ∀ {xs : List α} {s : σ}, forO (xs.map g) s f = forO xs s fun s x => f s (g x)
  | [], s => rfl
  | x :: xs, s => by
    rw [List.map_cons, forO, forO]
    congr 1
    funext s'
    exact forO_map
theorem forR_go {f : σ → α → Option (Lp σ ρ)} (I : List α → σ → Prop) (B : σ → Prop) (R : ρ → Prop) (xs : List α) : ∀ (post pre : List α) (s : σ), xs = pre ++ post → I pre s →
    (∀ pre x post s, xs = pre ++ x :: post → I pre s → Ok (f s x) fun r => match r with | .go s' => I (pre ++ [x]) s' | .br s' => B s' | .rt v => R v) → Ok (forR post s f) fun r => match r with | .go s' => I xs s' ∨ B s' | .br s' => False | .rt v => R v
  | [], pre, s, e, h, _ => ⟨_, rfl, .inl (by rw [e, List.append_nil]; exact h)⟩
  | x :: post, pre, s, e, h, k => by
    rw [forR]
    refine (k pre x post s e h).bind fun r hr => ?_
    cases r with
    | go s' => exact forR_go I B R xs post (pre ++ [x]) s' (by rw [e]; simp) hr k
    | br s' => exact ⟨_, rfl, .inr hr⟩
    | rt v => exact ⟨_, rfl, hr⟩
theorem forR_ok {f : σ → α → Option (Lp σ ρ)} {xs : List α} {s : σ} (I : List α → σ → Prop) (B : σ → Prop) (R : ρ → Prop) (h : I [] s)
    (k : ∀ pre x post s, xs = pre ++ x :: post → I pre s → Ok (f s x) fun r => match r with | .go s' => I (pre ++ [x]) s' | .br s' => B s' | .rt v => R v) : Ok (forR xs s f) fun r => match r with | .go s' => I xs s' ∨ B s' | .br s' => False | .rt v => R v := forR_go I B R xs xs [] s rfl h k
theorem aft_for {f : σ → α → Option (Lp σ ρ)} {xs : List α} {s : σ} {p : σ → Option γ} {q : ρ → Option γ} {Q : γ → Prop} (I : List α → σ → Prop) (R : ρ → Prop) (h : I [] s)
    (k : ∀ pre x post s, xs = pre ++ x :: post → I pre s → Ok (f s x) fun r => match r with | .go s' => I (pre ++ [x]) s' | .br s' => False | .rt v => R v) (h1 : ∀ s, I xs s → Ok (p s) Q) (h2 : ∀ v, R v → Ok (q v) Q) : Ok (aft (forR xs s f) p q) Q := by
  unfold aft
  refine (forR_ok I (fun _ => False) R h k).bind fun r hr => ?_
  cases r with
  | go s' => exact h1 s' (hr.elim id False.elim)
  | br s' => exact hr.elim
  | rt v => exact h2 v hr
theorem whO_ok {c : σ → Option Bool} {f : σ → Option σ} (I : σ → Prop) (μ : σ → Nat) (J : σ → Prop) (k : ∀ s, I s → (c s = some true ∧ Ok (f s) fun s' => I s' ∧ μ s' < μ s) ∨ (c s = some false ∧ J s)) : ∀ (n : Nat) (s : σ), I s → μ s < n → Ok (whO n s c f) J
  | 0, s, _, h => absurd h (Nat.not_lt_zero _)
  | n + 1, s, hI, hn => by
    rw [whO]
    rcases k s hI with ⟨h1, h2⟩ | ⟨h1, h2⟩
    · rw [h1, Option.bind_some, if_pos rfl]
      exact h2.bind fun s' h' => whO_ok I μ J k n s' h'.1 (by omega)
    · rw [h1, Option.bind_some, if_neg (by decide)]
      exact ⟨s, rfl, h2⟩

section
variable {κ ν : Type} [DecidableEq κ]
def dhas (m : List (κ × ν)) (k : κ) : Bool := m.any fun e => decide (e.1 = k)
def dget (m : List (κ × ν)) (k : κ) : Option ν := (m.find? fun e => decide (e.1 = k)).map fun e => e.2
def dput (m : List (κ × ν)) (k : κ) (v : ν) : List (κ × ν) := if dhas m k = true then m.map fun e => if e.1 = k then (e.1, v) else e else m ++ [(k, v)]
def ddel (m : List (κ × ν)) (k : κ) : List (κ × ν) := m.filter fun e => decide (e.1 ≠ k)
@[irreducible] def dputO (m : List (κ × ν)) (k : κ) (v : ν) : Option (List (κ × ν)) := if m.length < 16777216 then some (dput m k v) else none
@[irreducible] def ddelO (m : List (κ × ν)) (k : κ) : Option (List (κ × ν)) := if dhas m k = true then some (ddel m k) else none
theorem dhas_iff {m : List (κ × ν)} {k : κ} : dhas m k = true ↔ k ∈ m.map (·.1) := by
  unfold dhas
  rw [List.any_eq_true, List.mem_map]
  constructor
  · rintro ⟨e, h1, h2⟩
    exact ⟨e, h1, of_decide_eq_true h2⟩
  · rintro ⟨e, h1, h2⟩
    exact ⟨e, h1, decide_eq_true h2⟩
@[simp] theorem dhas_nil {k : κ} : dhas ([] : List (κ × ν)) k = false := rfl
@[simp] theorem dget_nil {k : κ} : dget ([] : List (κ × ν)) k = none := rfl
theorem dput_keys {m : List (κ × ν)} {k : κ} {v : ν} : (dput m k v).map (·.1) = if k ∈ m.map (·.1) then m.map (·.1) else m.map (·.1) ++ [k] := by
  unfold dput
  by_cases h : dhas m k = true
  · rw [if_pos h, if_pos (dhas_iff.mp h), List.map_map]
    apply List.map_congr_left
    intro e _
    show (if e.1 = k then (e.1, v) else e).1 = e.1
    split <;> rfl
  · rw [if_neg h, if_neg (fun z => h (dhas_iff.mpr z)), List.map_append]; rfl
def dcO (p : α → Option Bool) (f : α → Option (κ × ν)) : List α → List (κ × ν) → Option (List (κ × ν))
  | [], m => some m
  | x :: xs, m => (p x).bind fun b => if b = true then (f x).bind fun e => dcO p f xs (dput m e.1 e.2) else dcO p f xs m
@[irreducible] def dcp (xs : List α) (p : α → Option Bool) (f : α → Option (κ × ν)) : Option (List (κ × ν)) := if xs.length ≤ 16777216 then dcO p f xs [] else none
end

def forW : List α → σ → (σ → α → Option (σ × α)) → Option (σ × List α)
  | [], s, _ => some (s, [])
  | x :: xs, s, f => (f s x).bind fun r => (forW xs r.1 f).bind fun q => some (q.1, r.2 :: q.2)
theorem forW_map {f : σ → α → Option (σ × α)} {g : α → α} : ∀ {xs : List α} {s : σ}, (∀ s, ∀ x ∈ xs, f s x = some (s, g x)) → forW xs s f = some (s, xs.map g)
  | [], s, _ => rfl
  | x :: xs, s, h => by
    rw [forW, h s x (List.mem_cons_self ..), Option.bind_some, forW_map (fun s y hy => h s y (List.mem_cons_of_mem _ hy))]; rfl

section
variable {α β : Type}
def bdS (n : Nat) (st d : Int) : Option Int → Int
  | none => d
  | some i => if 0 < st then max 0 (min (if i < 0 then i + n else i) n) else max (-1) (min (if i < 0 then i + n else i) ((n : Int) - 1))
def stepsOf (n : Nat) (lo hi : Option Int) (st : Int) : List Nat :=
  (List.range (if 0 < st then (if bdS n st 0 lo < bdS n st n hi then (bdS n st n hi - bdS n st 0 lo + st - 1) / st else 0) else (if bdS n st (-1) hi < bdS n st ((n : Int) - 1) lo then (bdS n st ((n : Int) - 1) lo - bdS n st (-1) hi - st - 1) / (-st) else 0)).toNat).map
    fun (k : Nat) => ((if 0 < st then bdS n st 0 lo else bdS n st ((n : Int) - 1) lo) + st * (k : Int)).toNat
@[irreducible] def slS (xs : List α) (lo hi : Option Int) (st : Int) : Option (List α) := if st = 0 then none else some ((stepsOf xs.length lo hi st).filterMap fun i => xs[i]?)
theorem slS_rev {xs : List α} : slS xs none none (-1) = some xs.reverse := by
  unfold slS
  rw [if_neg (by decide)]
  congr 1
  have e : stepsOf xs.length none none (-1) = (List.range xs.length).map fun k => xs.length - 1 - k := by
    unfold stepsOf bdS
    simp only [show ¬ (0 : Int) < -1 by decide, if_false]
    have h1 : (if (-1 : Int) < (xs.length : Int) - 1 then ((xs.length : Int) - 1 - -1 - -1 - 1) / - -1 else 0).toNat = xs.length := by
      split
      · rw [show (- -1 : Int) = 1 by decide, Int.ediv_one]; omega
      · omega
    rw [h1]
    apply List.map_congr_left
    intro k hk
    rw [List.mem_range] at hk
    omega
  rw [e, List.filterMap_map]
  apply List.ext_getElem?
  intro i
  have hl : ((List.range xs.length).filterMap ((fun i => xs[i]?) ∘ fun k => xs.length - 1 - k)) = (List.range xs.length).filterMap fun k => xs.reverse[k]? := by
    have q : ∀ l : List Nat, (∀ k ∈ l, k < xs.length) → l.filterMap ((fun i => xs[i]?) ∘ fun k => xs.length - 1 - k) = l.filterMap fun k => xs.reverse[k]? := by
      intro l hl
      induction l with
      | nil => rfl
      | cons k l ih =>
        rw [List.filterMap_cons, List.filterMap_cons, ih fun j hj => hl j (List.mem_cons_of_mem _ hj)]
        have hk := hl k (List.mem_cons_self ..)
        show (match xs[xs.length - 1 - k]? with | none => _ | some b => _) = _
        rw [List.getElem?_reverse hk]
        cases xs[xs.length - 1 - k]? <;> rfl
    exact q _ fun k hk => List.mem_range.mp hk
  rw [hl]
  have : (List.range xs.length).filterMap (fun k => xs.reverse[k]?) = xs.reverse := by
    have q : ∀ ys : List α, (List.range ys.length).filterMap (fun k => ys[k]?) = ys := by
      intro ys
      induction ys with
      | nil => rfl
      | cons y ys ih =>
        rw [List.length_cons, List.range_succ_eq_map, List.filterMap_cons]
        simp only [List.getElem?_cons_zero]
        rw [List.filterMap_map]
        congr 1
    have := q xs.reverse
    rw [List.length_reverse] at this
    exact this
  rw [this]
@[irreducible] def extO (xs ys : List α) : Option (List α) := if xs.length + ys.length < 16777216 then some (xs ++ ys) else none
@[irreducible] def popL (xs : List α) : Option (α × List α) := (xs[xs.length - 1]?).map fun z => (z, xs.dropLast)
def un2 : List α → Option (α × α)
  | [a, b] => some (a, b)
  | _ => none
def un3 : List α → Option (α × α × α)
  | [a, b, c] => some (a, b, c)
  | _ => none
def un4 : List α → Option (α × α × α × α)
  | [a, b, c, d] => some (a, b, c, d)
  | _ => none
def un5 : List α → Option (α × α × α × α × α)
  | [a, b, c, d, e] => some (a, b, c, d, e)
  | _ => none
def un6 : List α → Option (α × α × α × α × α × α)
  | [a, b, c, d, e, f] => some (a, b, c, d, e, f)
  | _ => none
end

def srt (ns : List Int) : List Int := ns.mergeSort fun a b => decide (a ≤ b)
@[irreducible] def bitX (i j : Int) : Int := if j = 1 then i + 1 - 2 * (i % 2) else 0
end Ty

namespace Ow
open PySem L2 Ty


section
variable {α β γ δ : Type}
def cI (x : Int) : D := .s (.int x)
def cB (x : Bool) : D := .s (.bl x)
def cU (_ : Unit) : D := .s .non
def cL (o : Fl) (c : α → D) (xs : List α) : D := .n (.lst o) (xs.map c)
def k1 (c : α → D) (x : α) : List D := [c x]
def k2 (c : α → D) (k : β → List D) (x : α × β) : List D := c x.1 :: k x.2
def cT (k : α → List D) (x : α) : D := .n .tup (k x)
def cR (o : Fl) (k : α → List D) (x : α) : D := .n (.lst o) (k x)
def cO (c : α → D) : Option α → D
  | none => .s .non
  | some x => c x
class Pu (c : α → D) : Prop where
  pu : ∀ x, (c x).pure = true
class PuK (k : α → List D) : Prop where
  pu : ∀ x, pureL (k x) = true
class NoF (c : α → D) : Prop where
  no : ∀ x, (c x).noF = true
class NoFK (k : α → List D) : Prop where
  no : ∀ x, noFL (k x) = true
class Fz (c : α → D) (c' : outParam (α → D)) : Prop where
  fz : ∀ x, (c x).frz = c' x
class FzK (k : α → List D) (k' : outParam (α → List D)) : Prop where
  fz : ∀ x, frzD (k x) = k' x
instance : Pu cI := ⟨fun _ => rfl⟩
instance : Pu cB := ⟨fun _ => rfl⟩
instance : Pu cU := ⟨fun _ => rfl⟩
theorem pureL_cod {c : α → D} [Pu c] : ∀ xs : List α, pureL (xs.map c) = true
  | [] => rfl
  | x :: xs => by rw [List.map_cons, pureL, Pu.pu, pureL_cod xs]; rfl
instance {c : α → D} [Pu c] : Pu (cL .s c) := ⟨fun xs => by rw [cL, D.pure, pureL_cod]; rfl⟩
instance {c : α → D} [Pu c] : Pu (cL .w c) := ⟨fun xs => by rw [cL, D.pure, pureL_cod]; rfl⟩
instance {c : α → D} [Pu c] : PuK (k1 c) := ⟨fun x => by rw [k1, pureL, Pu.pu]; rfl⟩
instance {c : α → D} {k : β → List D} [Pu c] [PuK k] : PuK (k2 c k) := ⟨fun x => by rw [k2, pureL, Pu.pu, PuK.pu]; rfl⟩
instance {k : α → List D} [PuK k] : Pu (cT k) := ⟨fun x => by rw [cT, D.pure, PuK.pu]; rfl⟩
instance {k : α → List D} [PuK k] : Pu (cR .s k) := ⟨fun x => by rw [cR, D.pure, PuK.pu]; rfl⟩
instance {c : α → D} [Pu c] : Pu (cO c) := ⟨fun x => by cases x <;> first | rfl | exact Pu.pu (c := c) _⟩
instance : NoF cI := ⟨fun _ => rfl⟩
instance : NoF cB := ⟨fun _ => rfl⟩
instance : NoF cU := ⟨fun _ => rfl⟩
theorem noFL_cod {c : α → D} [NoF c] : ∀ xs : List α, noFL (xs.map c) = true
  | [] => rfl
  | x :: xs => by rw [List.map_cons, noFL, NoF.no, noFL_cod xs]; rfl
instance {c : α → D} [NoF c] : NoF (cL .o c) := ⟨fun xs => by rw [cL, D.noF, noFL_cod]; rfl⟩
instance {c : α → D} [NoF c] : NoFK (k1 c) := ⟨fun x => by rw [k1, noFL, NoF.no]; rfl⟩
instance {c : α → D} {k : β → List D} [NoF c] [NoFK k] : NoFK (k2 c k) := ⟨fun x => by rw [k2, noFL, NoF.no, NoFK.no]; rfl⟩
instance {k : α → List D} [NoFK k] : NoF (cT k) := ⟨fun x => by rw [cT, D.noF, NoFK.no]; rfl⟩
instance {k : α → List D} [NoFK k] : NoF (cR .o k) := ⟨fun x => by rw [cR, D.noF, NoFK.no]; rfl⟩
instance {c : α → D} [NoF c] : NoF (cO c) := ⟨fun x => by cases x <;> first | rfl | exact NoF.no (c := c) _⟩
instance : Fz cI cI := ⟨fun _ => rfl⟩
instance : Fz cB cB := ⟨fun _ => rfl⟩
instance : Fz cU cU := ⟨fun _ => rfl⟩
theorem frzL_cod {c c' : α → D} [Fz c c'] : ∀ xs : List α, frzD (xs.map c) = xs.map c'
  | [] => rfl
  | x :: xs => by rw [List.map_cons, frzD, Fz.fz, frzL_cod xs]; rfl
instance {c c' : α → D} [Fz c c'] : Fz (cL .o c) (cL .s c') := ⟨fun xs => by rw [cL, D.frz, frzL_cod]; rfl⟩
instance {c c' : α → D} [Fz c c'] : Fz (cL .s c) (cL .s c') := ⟨fun xs => by rw [cL, D.frz, frzL_cod]; rfl⟩
instance {c c' : α → D} [Fz c c'] : Fz (cL .w c) (cL .w c') := ⟨fun xs => by rw [cL, D.frz, frzL_cod]; rfl⟩
instance {c c' : α → D} [Fz c c'] : FzK (k1 c) (k1 c') := ⟨fun x => by rw [k1, frzD, Fz.fz]; rfl⟩
instance {c c' : α → D} {k k' : β → List D} [Fz c c'] [FzK k k'] : FzK (k2 c k) (k2 c' k') := ⟨fun x => by rw [k2, frzD, Fz.fz, FzK.fz]; rfl⟩
instance {k k' : α → List D} [FzK k k'] : Fz (cT k) (cT k') := ⟨fun x => by rw [cT, D.frz, FzK.fz]; rfl⟩
instance {k k' : α → List D} [FzK k k'] : Fz (cR .o k) (cR .s k') := ⟨fun x => by rw [cR, D.frz, FzK.fz]; rfl⟩
instance {k k' : α → List D} [FzK k k'] : Fz (cR .s k) (cR .s k') := ⟨fun x => by rw [cR, D.frz, FzK.fz]; rfl⟩
instance {c c' : α → D} [Fz c c'] : Fz (cO c) (cO c') := ⟨fun x => by cases x <;> first | rfl | exact Fz.fz (c := c) _⟩


def pI (x : Int) : PyData := .int x
def pB (x : Bool) : PyData := .bool x
def pL (p : α → PyData) (xs : List α) : PyData := .list (xs.map p)
def q1 (p : α → PyData) (x : α) : List PyData := [p x]
def q2 (p : α → PyData) (q : β → List PyData) (x : α × β) : List PyData := p x.1 :: q x.2
def pT (q : α → List PyData) (x : α) : PyData := .tuple (q x)
def pR (q : α → List PyData) (x : α) : PyData := .list (q x)
class Pd (p : α → PyData) where
  dep : Nat
  can : ∀ x, (p x).canLay0 = true
  deep : ∀ x, (p x).depth ≤ dep
  inj : ∀ x y, PyData.eqv (p x) (p y) = true ↔ x = y
class PdK (q : α → List PyData) where
  dep : Nat
  can : ∀ x, PyData.canLayAll0 (q x) = true
  deep : ∀ x, PyData.depthAll (q x) ≤ dep
  inj : ∀ x y, PyData.eqvAll (q x) (q y) = true ↔ x = y
instance : Pd pI := ⟨0, fun _ => rfl, fun _ => Nat.le_refl _, fun x y => by simp [pI, PyData.eqv]⟩
instance : Pd pB := ⟨0, fun _ => rfl, fun _ => Nat.le_refl _, fun x y => by simp [pB, PyData.eqv]⟩
theorem canL_cod {p : α → PyData} [Pd p] : ∀ xs : List α, PyData.canLayAll0 (xs.map p) = true
  | [] => rfl
  | x :: xs => by rw [List.map_cons, PyData.canLayAll0, Pd.can, canL_cod xs]; rfl
theorem deepL_cod {p : α → PyData} [Pd p] : ∀ xs : List α, PyData.depthAll (xs.map p) ≤ Pd.dep p
  | [] => by simp [PyData.depthAll]
  | x :: xs => by
    rw [List.map_cons, PyData.depthAll]
    have := Pd.deep (p := p) x
    have := deepL_cod (p := p) xs
    omega
theorem injL_cod {p : α → PyData} [Pd p] : ∀ xs ys : List α, PyData.eqvAll (xs.map p) (ys.map p) = true ↔ xs = ys
  | [], [] => by simp [PyData.eqvAll]
  | [], y :: ys => by simp [PyData.eqvAll]
  | x :: xs, [] => by simp [PyData.eqvAll]
  | x :: xs, y :: ys => by
    rw [List.map_cons, List.map_cons, PyData.eqvAll, Bool.and_eq_true, Pd.inj, injL_cod xs ys, List.cons.injEq]
instance {p : α → PyData} [Pd p] : Pd (pL p) := ⟨Pd.dep p + 1, fun xs => by rw [pL, PyData.canLay0, canL_cod], fun xs => by rw [pL, PyData.depth]; exact Nat.add_le_add_right (deepL_cod xs) 1, fun xs ys => by rw [pL, pL, PyData.eqv, injL_cod]⟩
instance {p : α → PyData} [Pd p] : PdK (q1 p) := ⟨Pd.dep p, fun x => by simp [q1, PyData.canLayAll0, Pd.can], fun x => by simp [q1, PyData.depthAll]; exact Pd.deep x, fun x y => by simp [q1, PyData.eqvAll, Pd.inj]⟩
instance {p : α → PyData} {q : β → List PyData} [Pd p] [PdK q] : PdK (q2 p q) := ⟨max (Pd.dep p) (PdK.dep q), fun x => by simp [q2, PyData.canLayAll0, Pd.can, PdK.can], fun x => by
    rw [q2, PyData.depthAll]
    have := Pd.deep (p := p) x.1
    have := PdK.deep (q := q) x.2
    omega, fun x y => by
    rw [q2, q2, PyData.eqvAll, Bool.and_eq_true, Pd.inj, PdK.inj]
    exact Prod.ext_iff.symm⟩
instance {q : α → List PyData} [PdK q] : Pd (pT q) := ⟨PdK.dep q + 1, fun x => by rw [pT, PyData.canLay0, PdK.can], fun x => by rw [pT, PyData.depth]; exact Nat.add_le_add_right (PdK.deep x) 1, fun x y => by rw [pT, pT, PyData.eqv, PdK.inj]⟩
instance {q : α → List PyData} [PdK q] : Pd (pR q) := ⟨PdK.dep q + 1, fun x => by rw [pR, PyData.canLay0, PdK.can], fun x => by rw [pR, PyData.depth]; exact Nat.add_le_add_right (PdK.deep x) 1, fun x y => by rw [pR, pR, PyData.eqv, PdK.inj]⟩
class Dt (c : α → D) (p : outParam (α → PyData)) : Prop where
  dt : ∀ x, (c x).dat = some (p x)
class DtK (k : α → List D) (q : outParam (α → List PyData)) : Prop where
  dt : ∀ x, datL (k x) = some (q x)
instance : Dt cI pI := ⟨fun _ => rfl⟩
instance : Dt cB pB := ⟨fun _ => rfl⟩
theorem datL_cod {c : α → D} {p : α → PyData} [Dt c p] : ∀ xs : List α, datL (xs.map c) = some (xs.map p)
  | [] => rfl
  | x :: xs => by rw [List.map_cons, datL, Dt.dt, Option.bind_some, datL_cod xs]; rfl
instance {o : Fl} {c : α → D} {p : α → PyData} [Dt c p] : Dt (cL o c) (pL p) := ⟨fun xs => by rw [cL, D.dat, datL_cod]; rfl⟩
instance {c : α → D} {p : α → PyData} [Dt c p] : DtK (k1 c) (q1 p) := ⟨fun x => by rw [k1, datL, Dt.dt]; rfl⟩
instance {c : α → D} {p : α → PyData} {k : β → List D} {q : β → List PyData} [Dt c p] [DtK k q] : DtK (k2 c k) (q2 p q) := ⟨fun x => by rw [k2, datL, Dt.dt, Option.bind_some, DtK.dt]; rfl⟩
instance {k : α → List D} {q : α → List PyData} [DtK k q] : Dt (cT k) (pT q) := ⟨fun x => by rw [cT, D.dat, DtK.dt]; rfl⟩
instance {o : Fl} {k : α → List D} {q : α → List PyData} [DtK k q] : Dt (cR o k) (pR q) := ⟨fun x => by rw [cR, D.dat, DtK.dt]; rfl⟩
theorem shaped_cod {p : α → PyData} [Pd p] (h : Pd.dep p ≤ 64) (x : α) : SeqAt.shaped (p x) = true := by
  unfold SeqAt.shaped
  have := Pd.deep (p := p) x
  simp [Pd.can, show (p x).depth ≤ 64 by omega]
theorem eqB_cod [DecidableEq α] {c c' : α → D} {p : α → PyData} [Dt c p] [Dt c' p] [Pd p] (h : Pd.dep p ≤ 64) (x y : α) : fEqB (c x) (c' y) = some (decide (x = y)) := by
  unfold fEqB
  rw [Dt.dt (c := c), Dt.dt (c := c'), Option.bind_some, Option.bind_some, shaped_cod h, shaped_cod h, if_pos (by rfl)]
  congr 1
  rw [Bool.eq_iff_iff, Pd.inj, decide_eq_true_iff]
end


abbrev Pat := List (Option D)
def Mt (P : Pat) (env : Env) : Prop := env.length = P.length ∧ ∀ (i : Nat) (d : D), P[i]? = some (some d) → env[i]? = some (some d)
def Le : Pat → Pat → Prop
  | [], [] => True
  | _ :: P, none :: P' => Le P P'
  | p :: P, some d :: P' => p = some d ∧ Le P P'
  | _, _ => False
section
variable {P P' : Pat} {env : Env} {d : D} {i : Nat}
theorem Le.get : ∀ {P P' : Pat}, Le P P' → P.length = P'.length ∧ ∀ (i : Nat) (d : D), P'[i]? = some (some d) → P[i]? = some (some d)
  | [], [], _ => ⟨rfl, fun _ _ h => h⟩
  | p :: P, none :: P', h => by
    obtain ⟨h1, h2⟩ := Le.get (P := P) (P' := P') h
    refine ⟨by simp [h1], fun i d g => ?_⟩
    cases i with
    | zero => simp at g
    | succ i => exact h2 i d g
  | p :: P, some d :: P', h => by
    obtain ⟨h1, h2⟩ := Le.get (P := P) (P' := P') h.2
    refine ⟨by simp [h1], fun i d g => ?_⟩
    cases i with
    | zero => rw [h.1]; exact g
    | succ i => exact h2 i d g
theorem Mt.le (h : Mt P env) (l : Le P P') : Mt P' env := ⟨h.1.trans l.get.1, fun i d g => h.2 i d (l.get.2 i d g)⟩
theorem Mt.set (h : Mt P env) {o : Option D} : Mt (P.set i o) (env.set i o) := by
  refine ⟨by simp [h.1], fun j d g => ?_⟩
  rw [List.getElem?_set] at g ⊢
  by_cases q : i = j
  · rw [if_pos q] at g ⊢
    by_cases l : i < P.length
    · rw [if_pos l] at g
      rw [if_pos (by rw [h.1]; exact l)]
      exact g
    · rw [if_neg l] at g; cases g
  · rw [if_neg q] at g ⊢
    exact h.2 j d g
theorem Mt.join (h : Mt P env) (e : P[i]? = some (some d)) : env[i]?.join = some d := by rw [h.2 i d e]; rfl
theorem Mt.start {ds : List D} {n : Nat} : Mt (initD n ds) (initD n ds) := ⟨rfl, fun _ _ h => h⟩
theorem Mt.any {n : Nat} (h : Mt P env) (e : P.length = n) : Mt (List.replicate n none) env := ⟨by rw [h.1, e, List.length_replicate], fun i d g => by
  rw [List.getElem?_replicate] at g
  split at g <;> cases g⟩
end


section
variable {α β γ : Type} {env : Env} {P : Pat}
def EV (m : PM) (env : Env) (o : Option α) (c : α → D) : Prop := ∀ x, o = some x → m env = some (c x)
def EVB (m : BM) (env : Env) (o : Option Bool) : Prop := ∀ x, o = some x → m env = some x
def EVL (m : LM) (env : Env) (o : Option (List α)) (c : α → D) : Prop := ∀ x, o = some x → m env = some (x.map c)
def EVD (m : LM) (env : Env) (o : Option α) (k : α → List D) : Prop := ∀ x, o = some x → m env = some (k x)
def EE (m : EM) (env : Env) (o : Option α) (k : α → D × Pat) : Prop := ∀ x, o = some x → ∃ e, m env = some ((k x).1, e) ∧ Mt (k x).2 e
def ET (m : TM) (env : Env) (o : Option α) (k : α → Bool × Pat) : Prop := ∀ x, o = some x → ∃ e, m env = some ((k x).1, e) ∧ Mt (k x).2 e
def ES (m : SM) (env : Env) (o : Option α) (K : α → O → Prop) (Q : α → Pat) : Prop := ∀ x, o = some x → ∃ fl e, m env = some (fl, e) ∧ K x fl ∧ Mt (Q x) e
variable {ma mb m : PM} {mt mu : BM} {ml : LM} {c c' : α → D} {d : D} {v : V}
theorem bsome {o : Option α} {f : α → Option β} {z : β} (h : o.bind f = some z) : ∃ x, o = some x ∧ f x = some z := bind_some h
theorem EV.tot {x : α} (h : m env = some (c x)) : EV m env (some x) c := fun y e => by cases e; exact h
theorem EVB.tot {x : Bool} (h : mt env = some x) : EVB mt env (some x) := fun y e => by cases e; exact h
theorem EV.hoist {c2 : β → D} {oa : Option β} {o : β → Option α} (h : EV ma env oa c2) (k : ∀ a, ma env = some (c2 a) → EV m env (o a) c) : EV m env (oa.bind o) c := fun x e => by
  obtain ⟨a, h1, h2⟩ := bsome e
  exact k a (h a h1) x h2
theorem EVB.hoist {c2 : β → D} {oa : Option β} {o : β → Option Bool} (h : EV ma env oa c2) (k : ∀ a, ma env = some (c2 a) → EVB mt env (o a)) : EVB mt env (oa.bind o) := fun x e => by
  obtain ⟨a, h1, h2⟩ := bsome e
  exact k a (h a h1) x h2
theorem ES.hoist {c2 : β → D} {oa : Option β} {o : β → Option α} {ms : SM} {K : α → O → Prop} {Q : α → Pat} (h : EV ma env oa c2) (f : ∀ a, ma env = some (c2 a) → ES ms env (o a) K Q) : ES ms env (oa.bind o) K Q := fun x e => by
  obtain ⟨a, h1, h2⟩ := bsome e
  exact f a (h a h1) x h2
theorem ES.hoistB {oa : Option Bool} {o : Bool → Option α} {ms : SM} {K : α → O → Prop} {Q : α → Pat} (h : EVB mu env oa) (f : ∀ a, mu env = some a → ES ms env (o a) K Q) : ES ms env (oa.bind o) K Q := fun x e => by
  obtain ⟨a, h1, h2⟩ := bsome e
  exact f a (h a h1) x h2


theorem e_var {i : Nat} (h : Mt P env) (e : P[i]? = some (some d)) : mVar i env = some d := h.join e
theorem e_pure (h : m env = some d) (p : d.pure = true := by rfl) : mPure m env = some d := by
  unfold mPure
  rw [h, Option.bind_some, if_pos p]
theorem e_pureC {x : α} [Pu c] (h : m env = some (c x)) : mPure m env = some (c x) := e_pure h (Pu.pu x)
theorem e_op2 {f : D → D → Option V} {d1 d2 : D} (h1 : ma env = some d1) (h2 : mb env = some d2) (hf : f d1 d2 = some v) (hs : scl v = true := by rfl) : mOp2 f ma mb env = some (.s v) := by
  unfold mOp2 sv
  rw [h1, Option.bind_some, h2, Option.bind_some, hf, Option.bind_some, if_pos hs]
theorem e_op1 {f : D → Option V} {d1 : D} (h1 : ma env = some d1) (hf : f d1 = some v) (hs : scl v = true := by rfl) : mOp1 f ma env = some (.s v) := by
  unfold mOp1 sv
  rw [h1, Option.bind_some, hf, Option.bind_some, if_pos hs]
section
variable {i j : Int}
theorem e_add (h1 : ma env = some (cI i)) (h2 : mb env = some (cI j)) : mOp2 fAdd ma mb env = some (cI (i + j)) := e_op2 h1 h2 rfl
theorem e_sub (h1 : ma env = some (cI i)) (h2 : mb env = some (cI j)) : mOp2 fSub ma mb env = some (cI (i - j)) := e_op2 h1 h2 rfl
theorem e_lt (h1 : ma env = some (cI i)) (h2 : mb env = some (cI j)) : mOp2 fLt ma mb env = some (cB (decide (i < j))) := e_op2 h1 h2 rfl
theorem e_gt (h1 : ma env = some (cI i)) (h2 : mb env = some (cI j)) : mOp2 fGt ma mb env = some (cB (decide (j < i))) := e_op2 h1 h2 rfl
theorem e_ge (h1 : ma env = some (cI i)) (h2 : mb env = some (cI j)) : mOp2 fGe ma mb env = some (cB (decide (j ≤ i))) := e_op2 h1 h2 rfl
theorem e_neg (h1 : ma env = some (cI i)) : mOp1 fNeg ma env = some (cI (-i)) := e_op1 h1 rfl
theorem e_mulC (h1 : ma env = some (cI i)) (h2 : mb env = some (cI j)) (h : CMulB i j) : mOp2 fMul ma mb env = some (cI (i * j)) := e_op2 h1 h2 (fMul_int h)
theorem e_modC (h1 : ma env = some (cI i)) (h2 : mb env = some (cI j)) (h : 0 < j := by decide) : mOp2 fMod ma mb env = some (cI (i % j)) := e_op2 h1 h2 (fMod_int h)
theorem e_divC (h1 : ma env = some (cI i)) (h2 : mb env = some (cI j)) (h : 0 < j := by decide) (h' : j.natAbs.log2 < 9000 := by decide) : mOp2 fDiv ma mb env = some (cI (i / j)) := e_op2 h1 h2 (fDiv_int h h')
theorem e_powC {w : Int} (h1 : ma env = some (cI i)) (h2 : mb env = some (cI j)) (h : 0 ≤ j ∧ j ≤ 1000000 ∧ i.natAbs < 2 ^ 64 := by decide) (hw : i ^ j.toNat = w := by decide) : mOp2 fPow ma mb env = some (cI w) := by
  rw [← hw]
  exact e_op2 h1 h2 (fPow_int h)
theorem v_mul (h1 : ma env = some (cI i)) (h2 : mb env = some (cI j)) : EV (mOp2 fMul ma mb) env (pmul i j) cI := fun x e => by
  unfold pmul at e
  split at e
  · rename_i h
    cases e
    exact e_mulC h1 h2 (wide_mulB h.1 h.2)
  · cases e
theorem v_div (h1 : ma env = some (cI i)) (h2 : mb env = some (cI j)) : EV (mOp2 fDiv ma mb) env (pdiv i j) cI := fun x e => by
  unfold pdiv at e
  split at e
  · rename_i h
    cases e
    exact e_divC h1 h2 h.1 (Nat.lt_trans (log2_lt (k := 250) (by decide) (by omega)) (by decide))
  · cases e
theorem v_mod (h1 : ma env = some (cI i)) (h2 : mb env = some (cI j)) : EV (mOp2 fMod ma mb) env (pmod i j) cI := fun x e => by
  unfold pmod at e
  split at e
  · cases e
    exact e_modC h1 h2 ‹_›
  · cases e
theorem v_pow (h1 : ma env = some (cI i)) (h2 : mb env = some (cI j)) : EV (mOp2 fPow ma mb) env (ppow i j) cI := fun x e => by
  unfold ppow at e
  split at e
  · rename_i h
    cases e
    exact e_powC h1 h2 ⟨h.1, by omega, h.2.2⟩ rfl
  · cases e
end
theorem e_eq [DecidableEq α] {c c' : α → D} {p : α → PyData} [Dt c p] [Dt c' p] [Pd p] {x y : α} (h1 : ma env = some (c x)) (h2 : mb env = some (c' y)) (h : Pd.dep p ≤ 64 := by decide) : mOp2 fEq ma mb env = some (cB (decide (x = y))) := e_op2 h1 h2 (by rw [fEq, eqB_cod h]; rfl)
theorem e_ne [DecidableEq α] {c c' : α → D} {p : α → PyData} [Dt c p] [Dt c' p] [Pd p] {x y : α} (h1 : ma env = some (c x)) (h2 : mb env = some (c' y)) (h : Pd.dep p ≤ 64 := by decide) : mOp2 fNe ma mb env = some (cB (decide (x ≠ y))) := e_op2 h1 h2 (by
  rw [fNe, eqB_cod h, Option.map_some]
  simp)
class NN (c : α → D) : Prop where
  nn : ∀ x, isNon (c x) = false
instance : NN cI := ⟨fun _ => rfl⟩
instance : NN cB := ⟨fun _ => rfl⟩
instance {o : Fl} {c : α → D} : NN (cL o c) := ⟨fun _ => rfl⟩
instance {k : α → List D} : NN (cT k) := ⟨fun _ => rfl⟩
instance {o : Fl} {k : α → List D} : NN (cR o k) := ⟨fun _ => rfl⟩
theorem e_nil : lNil env = some [] := rfl
theorem e_cons {ds : List D} (h : m env = some d) (h2 : ml env = some ds) : lCons m ml env = some (d :: ds) := by
  unfold lCons
  rw [h, Option.bind_some, h2]; rfl
theorem e_mk {k : Kd} {ds : List D} (h : ml env = some ds) (hl : ds.length ≤ 16777216 := by exact Nat.le_of_ble_eq_true rfl) : mk k ml env = some (.n k ds) := by
  unfold mk
  rw [h, Option.bind_some, if_pos hl]
theorem e_call {f : List D → Option V} {ds : List D} (h : ml env = some ds) (hf : f ds = some v) (hs : scl v = true := by rfl) : mCall f ml env = some (.s v) := by
  unfold mCall sv
  rw [h, Option.bind_some, hf, Option.bind_some, if_pos hs]
theorem e_call1 {f : List D → Option V} (h : m env = some d) (hf : f [d] = some v) (hs : scl v = true := by rfl) : mCall f (lCons m lNil) env = some (.s v) := e_call (e_cons h e_nil) hf hs
theorem e_call2 {f : List D → Option V} {d2 : D} (h : ma env = some d) (h2 : mb env = some d2) (hf : f [d, d2] = some v) (hs : scl v = true := by rfl) : mCall f (lCons ma (lCons mb lNil)) env = some (.s v) := e_call (e_cons h (e_cons h2 e_nil)) hf hs
theorem e_len {o : Fl} {xs : List α} (h : m env = some (cL o c xs)) : mCall fLen (lCons m lNil) env = some (cI xs.length) := e_call1 h (by rw [cL, fLen, List.length_map])
theorem e_lenT {n : Nat} {ds : List D} (h : m env = some (.n .tup ds)) (hn : ds.length = n := by rfl) : mCall fLen (lCons m lNil) env = some (cI n) := e_call1 h (by rw [fLen, hn])
theorem intsD_cod (xs : List Int) : intsD (xs.map cI) = some xs := intsD_map xs
theorem li_cod {o : Fl} (xs : List Int) : li [cL o cI xs] = some xs := intsD_map xs
theorem lb_cod {o : Fl} (xs : List Bool) : lb [cL o cB xs] = some xs := boolsD_map xs
theorem e_sum {o : Fl} {xs : List Int} (h : m env = some (cL o cI xs)) : mCall fSum (lCons m lNil) env = some (cI xs.sum) := e_call1 h (by rw [fSum, li_cod]; rfl)
theorem e_all {o : Fl} {xs : List Bool} (h : m env = some (cL o cB xs)) : mCall fAll (lCons m lNil) env = some (cB (xs.all id)) := e_call1 h (by rw [fAll, lb_cod]; rfl)
theorem v_min {o : Fl} {xs : List Int} (h : m env = some (cL o cI xs)) : EV (mCall fMinL (lCons m lNil)) env (pmin xs) cI := fun x e => e_call1 h (by
  unfold pmin at e
  rw [fMinL, li_cod, Option.bind_some, e]; rfl)
theorem e_max2 {i j : Int} (h : ma env = some (cI i)) (h2 : mb env = some (cI j)) : mCall fMax2 (lCons ma (lCons mb lNil)) env = some (cI (max i j)) := e_call2 h h2 (by
  rw [show max i j = if j > i then j else i by split <;> omega]; rfl)
theorem e_callL {f : List D → Option (List D)} {ds rs : List D} (h : ml env = some ds) (hf : f ds = some rs) (hp : pureL rs = true) : mCallL f ml env = some (.n (.lst .o) rs) := by
  unfold mCallL
  rw [h, Option.bind_some, hf, Option.bind_some, if_pos hp]
theorem e_list [Pu c] {o : Fl} {xs : List α} (h : m env = some (cL o c xs)) : mCallL fList (lCons m lNil) env = some (cL .o c xs) := e_callL (e_cons h e_nil) rfl (pureL_cod xs)
theorem e_item {x y d : D} (h1 : ma env = some x) (h2 : mb env = some y) (h : fItem x y = some d) : mItem ma mb env = some d := by
  unfold mItem
  rw [h1, Option.bind_some, h2, Option.bind_some, h]
theorem e_itemT {ds : List D} {i : Int} (h1 : ma env = some (.n .tup ds)) (h2 : mb env = some (cI i)) (h : atI ds i = some d := by rfl) : mItem ma mb env = some d := e_item h1 h2 h
theorem e_itemR {ds : List D} {o : Fl} {i : Int} (h1 : ma env = some (.n (.lst o) ds)) (h2 : mb env = some (cI i)) (h : atI ds i = some d := by rfl) : mItem ma mb env = some d := e_item h1 h2 h
theorem ixN_Z (n : Nat) (i : Int) : ixN n i = ixZ n i := rfl
theorem atI_idx (xs : List α) (i : Int) : atI xs i = idx xs i := by unfold atI idx; rfl
theorem v_item {o : Fl} {xs : List α} {i : Int} (h1 : ma env = some (cL o c xs)) (h2 : mb env = some (cI i)) : EV (mItem ma mb) env (idx xs i) c := fun x e => e_item h1 h2 (by
  show atI (xs.map c) i = _
  rw [atI_map, atI_idx, e]; rfl)
theorem v_cat [Pu c] {o o' : Fl} {xs ys : List α} (h1 : ma env = some (cL o c xs)) (h2 : mb env = some (cL o' c ys)) (hn : (nw o && nw o') = true := by rfl) : EV (mCat ma mb) env (cat xs ys) (cL .o c) := fun x e => by
  unfold cat at e
  split at e
  · rename_i hl
    cases e
    unfold mCat
    rw [h1, Option.bind_some, h2, Option.bind_some]
    have : fCat (cL o c xs) (cL o' c ys) = some ((xs ++ ys).map c) := by
      unfold fCat cL
      dsimp only
      rw [if_pos (by rw [hn]; simpa using hl), List.map_append]
    rw [this, Option.bind_some, if_pos (pureL_cod _)]; rfl
  · cases e
theorem rep_map {f : α → β} (n : Nat) (xs : List α) : (List.replicate n (xs.map f)).flatten = (List.replicate n xs).flatten.map f := by
  rw [List.map_flatten, List.map_replicate]
theorem v_rep [Pu c] {o : Fl} {xs : List α} {n : Int} (h1 : ma env = some (cL o c xs)) (h2 : mb env = some (cI n)) (hn : nw o = true := by rfl) : EV (mRep ma mb) env (rep xs n) (cL .o c) := fun x e => by
  unfold rep at e
  split at e
  · rename_i hl
    cases e
    unfold mRep
    rw [h1, Option.bind_some, h2, Option.bind_some]
    have : fRep (cL o c xs) (cI n) = some ((List.replicate n.toNat xs).flatten.map c) := by
      unfold fRep cL cI
      dsimp only
      rw [if_pos (by rw [hn]; simp only [Bool.true_and, List.length_map]; exact decide_eq_true ⟨by omega, by omega, hl.2.2⟩), rep_map]
    rw [this, Option.bind_some, if_pos (pureL_cod _)]; rfl
  · cases e
theorem sIx_bd (n : Nat) (d : Nat) (o : Option Int) : HT.sIx n d o = bd n d o := by
  cases o with
  | none => rfl
  | some i => unfold HT.sIx bd; first | rfl | (dsimp only; split <;> first | rfl | (split <;> first | rfl | omega) | omega)
theorem cutG_sl (xs : List α) (lo hi : Option Int) : cutG xs lo hi = sl xs lo hi := by
  unfold cutG sl
  rw [sIx_bd, sIx_bd]
theorem e_oNo : oNo env = some none := rfl
theorem e_oYes {i : Int} (h : m env = some (cI i)) : oYes m env = some (some i) := by
  unfold oYes
  rw [h]; rfl
theorem e_sl [Pu c] {o : Fl} {xs : List α} {lo hi : Env → Option (Option Int)} {a b : Option Int} (h1 : m env = some (cL o c xs)) (h2 : lo env = some a) (h3 : hi env = some b) : mSl m lo hi env = some (cL .o c (sl xs a b)) := by
  unfold mSl
  rw [h1, Option.bind_some, h2, Option.bind_some, h3, Option.bind_some]
  unfold cL
  dsimp only
  rw [cutG_map, cutG_sl, if_pos (pureL_cod _)]
theorem rg_1 {i : Int} (h : m env = some (cI i)) : rg1 m env = some (0, i) := by
  unfold rg1
  rw [h]; rfl
theorem rg_2 {i j : Int} (h : ma env = some (cI i)) (h2 : mb env = some (cI j)) : rg2 ma mb env = some (i, j) := by
  unfold rg2
  rw [h]
  show Option.bind (some i) _ = _
  rw [Option.bind_some, h2]; rfl
theorem rng_of {a b : Int} {xs : List Int} (h : rng a b = some xs) : RgOk a b ∧ xs = span a b := by
  unfold rng at h
  split at h
  · rename_i g
    cases h
    refine ⟨?_, rfl⟩
    unfold RgOk
    omega
  · cases h
theorem rgD_span (a b : Int) : rgD a b = (span a b).map cI := by
  unfold rgD span
  rw [List.map_map]; rfl
theorem v_rg {r : Env → Option (Int × Int)} {a b : Int} (h : r env = some (a, b)) : EV (mRg r) env (rng a b) (cL .o cI) := fun x e => by
  obtain ⟨h1, rfl⟩ := rng_of e
  unfold mRg
  rw [h, Option.bind_some, if_pos (decide_eq_true h1), rgD_span]; rfl
theorem e_isi {T : String} {b : Bool} (h : m env = some d) (hb : isiD T d = some (.bl b)) : mIsi T m env = some (cB b) := by
  unfold mIsi sv
  rw [h, Option.bind_some, hb, Option.bind_some]; rfl
theorem v_index {o : Fl} {xs : List Int} {i : Int} (h1 : ma env = some (cL o cI xs)) (h2 : mb env = some (cI i)) : EV (mIdx ma mb) env (ixOf xs i) cI := fun x e => by
  unfold ixOf at e
  split at e
  · rename_i h
    cases e
    unfold mIdx
    rw [h1, Option.bind_some, h2, Option.bind_some]
    unfold fIdx cL cI
    dsimp only
    rw [show (xs.map fun x => D.s (.int x)) = xs.map cI from rfl, intsD_cod, Option.bind_some, if_pos h]; rfl
  · cases e
theorem e_notV {b : Bool} (h : m env = some (cB b)) : mNotV m env = some (cB (!b)) := by
  unfold mNotV
  rw [h]; rfl

section
variable {p q : Prop} [Decidable p] [Decidable q]
theorem e_B {b : Bool} (h : m env = some (cB b)) : mB m env = some b := by
  unfold mB
  rw [h]; rfl
theorem e_truB {b : Bool} (h : m env = some (cB b)) : mTru m env = some (decide (b = true)) := by
  unfold mTru
  rw [h]
  cases b <;> rfl
theorem e_truL {o : Fl} {xs : List α} (h : m env = some (cL o c xs)) : mTru m env = some (decide (xs ≠ [])) := by
  unfold mTru
  rw [h]
  cases xs <;> rfl
theorem e_not (h : mt env = some (decide p)) : mNotT mt env = some (decide ¬p) := by
  unfold mNotT
  rw [h]
  by_cases hp : p <;> simp [hp]
theorem e_and (h : mt env = some (decide p)) (h2 : mu env = some (decide q)) : mAnd mt mu env = some (decide (p ∧ q)) := by
  unfold mAnd
  rw [h, h2]
  by_cases hp : p <;> simp [hp]
theorem e_or (h : mt env = some (decide p)) (h2 : mu env = some (decide q)) : mOr mt mu env = some (decide (p ∨ q)) := by
  unfold mOr
  rw [h, h2]
  by_cases hp : p <;> simp [hp]
theorem e_or_f {b : Bool} (h : mt env = some false) (h2 : mu env = some b) : mOr mt mu env = some b := by
  unfold mOr
  rw [h]; exact h2
theorem v_or {o : Option Bool} (h : mt env = some (decide p)) (h2 : ¬p → EVB mu env o) : EVB (mOr mt mu) env (if p then some true else o) := fun x e => by
  unfold mOr
  rw [h, Option.bind_some]
  by_cases hp : p
  · rw [if_pos hp] at e
    cases e
    rw [if_pos (decide_eq_true hp)]
  · rw [if_neg hp] at e
    rw [if_neg (by simpa using hp)]
    exact h2 hp x e
theorem e_andV (h : m env = some (cB (decide p))) (h2 : ma env = some (cB (decide q))) : mAndV m ma env = some (cB (decide (p ∧ q))) := by
  unfold mAndV
  rw [h, h2]
  show (Option.bind (some (decide p)) _) = _
  by_cases hp : p <;> simp [hp, cB, toB]
theorem v_andV {o : Option Bool} (h : m env = some (cB (decide p))) (h2 : p → EV ma env o cB) : EV (mAndV m ma) env (if p then o else some false) cB := fun x e => by
  unfold mAndV
  rw [h]
  show (Option.bind (some (decide p)) _) = _
  by_cases hp : p
  · rw [if_pos hp] at e
    rw [Option.bind_some, if_pos (decide_eq_true hp), h2 hp x e]; rfl
  · rw [if_neg hp] at e
    cases e
    rw [Option.bind_some, if_neg (by simpa using hp)]; rfl
theorem e_boolP {b : Bool} (h : m env = some (cB b)) : m env = some (cB (decide (b = true))) := by
  rw [h]
  cases b <;> rfl
theorem e_notP (h : m env = some (cB (decide p))) : mNotV m env = some (cB (decide ¬p)) := by
  rw [e_notV h]
  by_cases hp : p <;> simp [hp]
end
theorem v_fn {f : FM} {ds : List D} {t : Option α} (h : ml env = some ds) (hf : ∀ x, t = some x → f (frzD ds) = some (c x)) [NoF c] : EV (mFn f ml) env t c := fun x e => by
  unfold mFn
  rw [h, Option.bind_some, hf x e, Option.bind_some, NoF.no]; rfl
end
end Ow

namespace Ow
open PySem L2 Ty
section
variable {α β γ σ ρ : Type} {env : Env} {P P1 P2 : Pat} {ma mb m : PM} {mt mu : BM} {ml mi : LM} {c c' : α → D} {d : D} {v : V}


theorem w_L {o : Fl} {xs : List α} (h : m env = some (cL o c xs)) : wL m env = some (xs.map c) := by
  unfold wL
  rw [h]; rfl
theorem w_R {r : Env → Option (Int × Int)} {a b : Int} (h : r env = some (a, b)) : EVL (wR r) env (rng a b) cI := fun x e => by
  obtain ⟨h1, rfl⟩ := rng_of e
  unfold wR
  rw [h, Option.bind_some, if_pos (decide_eq_true h1)]
  unfold rgDn span
  rw [List.map_map]; rfl
theorem enD_enu : ∀ (i : Nat) (xs : List α), enD i (xs.map c) = (enu i xs).map (cT (k2 cI (k1 c)))
  | _, [] => rfl
  | i, x :: xs => by rw [List.map_cons, enD, enD_enu (i + 1) xs, enu, List.map_cons]; rfl
theorem w_E {o : Fl} {xs : List α} (h : m env = some (cL o c xs)) : wE m env = some ((enu 0 xs).map (cT (k2 cI (k1 c)))) := by
  unfold wE
  rw [h, Option.bind_some, ← enD_enu]; rfl
theorem EV.hoistL {oa : Option (List α)} {o : List α → Option β} {c2 : β → D} (h : EVL ml env oa c) (k : ∀ a, ml env = some (a.map c) → EV m env (o a) c2) : EV m env (oa.bind o) c2 := fun x e => by
  obtain ⟨a, h1, h2⟩ := bsome e
  exact k a (h a h1) x h2
theorem ES.hoistL {oa : Option (List α)} {o : List α → Option β} {ms : SM} {K : β → O → Prop} {Q : β → Pat} (h : EVL ml env oa c) (k : ∀ a, ml env = some (a.map c) → ES ms env (o a) K Q) : ES ms env (oa.bind o) K Q := fun x e => by
  obtain ⟨a, h1, h2⟩ := bsome e
  exact k a (h a h1) x h2

def BDt (g : Tg) (d : D) (P P1 : Pat) : Prop := ∀ e, Mt P e → ∃ e1, bD g d e = some e1 ∧ Mt P1 e1
def BDs (gs : List Tg) (ds : List D) (P P1 : Pat) : Prop := gs.length = ds.length ∧ ∀ e, Mt P e → ∃ e1, bDs gs ds e = some e1 ∧ Mt P1 e1
theorem b_nm {j : Nat} : BDt (.nm j) d P (P.set j (some d)) := fun e h => ⟨_, bD_nm _ _ _, h.set⟩
theorem b_tp {gs : List Tg} {ds : List D} (h : BDs gs ds P P1) : BDt (.tp gs) (.n .tup ds) P P1 := fun e he => by
  obtain ⟨e1, h1, h2⟩ := h.2 e he
  exact ⟨e1, by rw [bD, if_pos h.1.symm, h1], h2⟩
theorem b_nil : BDs [] [] P P := ⟨rfl, fun e h => ⟨e, by rw [bDs], h⟩⟩
theorem b_cons {g : Tg} {gs : List Tg} {ds : List D} (h : BDt g d P P1) (h2 : BDs gs ds P1 P2) : BDs (g :: gs) (d :: ds) P P2 := ⟨by simp [h2.1], fun e he => by
  obtain ⟨e1, g1, g2⟩ := h e he
  obtain ⟨e2, g3, g4⟩ := h2.2 e1 g2
  exact ⟨e2, by rw [bDs, g1, Option.bind_some, g3], g4⟩⟩
theorem Mt.wipe : ∀ {vs : List Nat} {P : Pat} {env : Env}, Mt P env → Mt (wipeD P vs) (wipeD env vs)
  | [], _, _, h => h
  | v :: vs, _, _, h => (Mt.wipe (vs := vs) h).set


theorem v_lcm {c2 : β → D} {g : Tg} {me : PM} {vs : List Nat} {xs : List α} {f : α → β} {Px : α → Pat} (w : mi env = some (xs.map c)) (h : Mt P env) (hb : ∀ x, BDt g (c x) (wipeD P vs) (Px x)) (he : ∀ x e, Mt (Px x) e → me e = some (c2 (f x))) :
    EV (mLc mi g bYes me vs) env (lcm xs f) (cL .o c2) := fun x e => by
  unfold lcm at e
  split at e
  · rename_i hl
    cases e
    unfold mLc
    rw [w, Option.bind_some, if_pos (by rw [List.length_map]; exact hl)]
    have : ∀ xs : List α, lcD g bYes me (wipeD env vs) (xs.map c) = some ((xs.map f).map c2) := fun xs => by
      induction xs with
      | nil => rfl
      | cons x xs ih =>
        obtain ⟨e1, g1, g2⟩ := hb x _ h.wipe
        rw [List.map_cons, lcD, g1, Option.bind_some]
        show Option.bind (some true) _ = _
        rw [Option.bind_some, if_pos rfl, he x e1 g2, Option.bind_some, ih]; rfl
    rw [this]; rfl
  · cases e
theorem v_lcp {c2 : β → D} {g : Tg} {me : PM} {vs : List Nat} {xs : List α} {p : α → Option Bool} {f : α → Option β} {Px : α → Pat} (w : mi env = some (xs.map c)) (h : Mt P env) (hb : ∀ x, BDt g (c x) (wipeD P vs) (Px x)) (ht : ∀ x e, Mt (Px x) e → EVB mt e (p x)) (he : ∀ x e, Mt (Px x) e → EV me e (f x) c2) :
    EV (mLc mi g mt me vs) env (lcp xs p f) (cL .o c2) := fun x e => by
  unfold lcp at e
  split at e
  · rename_i hl
    unfold mLc
    rw [w, Option.bind_some, if_pos (by rw [List.length_map]; exact hl)]
    have : ∀ (xs : List α) (ys : List β), lcO p f xs = some ys → lcD g mt me (wipeD env vs) (xs.map c) = some (ys.map c2) := fun xs => by
      induction xs with
      | nil => intro ys hy; cases hy; rfl
      | cons x xs ih =>
        intro ys hy
        rw [lcO] at hy
        obtain ⟨b, hb1, hy⟩ := bsome hy
        obtain ⟨e1, g1, g2⟩ := hb x _ h.wipe
        rw [List.map_cons, lcD, g1, Option.bind_some, ht x e1 g2 b hb1, Option.bind_some]
        cases b with
        | true =>
          rw [if_pos rfl] at hy
          obtain ⟨y, hy1, hy⟩ := bsome hy
          cases hr : lcO p f xs with
          | none => rw [hr] at hy; cases hy
          | some zs =>
            rw [hr] at hy
            cases hy
            rw [if_pos rfl, he x e1 g2 y hy1, Option.bind_some, ih zs hr]; rfl
        | false =>
          rw [if_neg (by decide)] at hy
          rw [if_neg (by decide)]
          exact ih ys hy
    rw [this xs x e]; rfl
  · cases e
theorem vb_yes : EVB bYes env (some true) := fun x e => by cases e; rfl
theorem vb_p {p : Prop} [Decidable p] (h : mt env = some (decide p)) : EVB mt env (some (decide p)) := EVB.tot h


variable {K : α → O → Prop} {Q : α → Pat} {o oa ob : Option α} {n mS mA mB : SM} {me : EM}
theorem s_skip {a : α} (h : Mt (Q a) env) (hK : K a .nx) : ES sNx env (some a) K Q := fun x e => by
  cases e
  exact ⟨.nx, env, rfl, hK, h⟩
theorem s_none : ES (fun _ => none) env (none : Option α) K Q := fun x e => by cases e
theorem s_last (h : ES (sSeq mS sNx) env o K Q) : ES mS env o K Q := fun x e => by
  obtain ⟨fl, e1, h1, h2, h3⟩ := h x e
  unfold sSeq at h1
  obtain ⟨y, hy, h4⟩ := bind_some h1
  obtain ⟨f, e2⟩ := y
  refine ⟨f, e2, hy, ?_⟩
  cases f <;> (cases h4; exact ⟨h2, h3⟩)
theorem s_seq {τ : Type} {oa : Option τ} {o : τ → Option α} {Pa : τ → Pat} (h : ES mS env oa (fun _ fl => fl = .nx) Pa) (h2 : ∀ a e, Mt (Pa a) e → ES n e (o a) K Q) : ES (sSeq mS n) env (oa.bind o) K Q := fun x e => by
  obtain ⟨a, h3, h4⟩ := bsome e
  obtain ⟨fl, e1, h5, rfl, h7⟩ := h a h3
  obtain ⟨fl, e2, h8, h9⟩ := h2 a e1 h7 x h4
  exact ⟨fl, e2, by unfold sSeq; rw [h5]; exact h8, h9⟩
theorem s_let {τ : Type} {ct : τ → D} {a : τ} {i : Nat} {o : τ → Option α} (hm : m env = some (ct a)) (h : Mt P env) (h2 : ∀ a e, Mt (P.set i (some (ct a))) e → ES n e (o a) K Q) : ES (sSeq (sSet i (lift m)) n) env (lt a o) K Q := fun x e => by
  obtain ⟨fl, e2, h8, h9⟩ := h2 a _ (h.set (o := some (ct a))) x e
  exact ⟨fl, e2, by unfold sSeq sSet lift; rw [hm]; exact h8, h9⟩
theorem s_setV {τ : Type} {ct : τ → D} {oa : Option τ} {i : Nat} {o : τ → Option α} (hm : EV m env oa ct) (h : Mt P env) (h2 : ∀ a e, Mt (P.set i (some (ct a))) e → ES n e (o a) K Q) : ES (sSeq (sSet i (lift m)) n) env (oa.bind o) K Q := fun x e => by
  obtain ⟨a, h3, h4⟩ := bsome e
  exact s_let (hm a h3) h h2 x h4
theorem s_setE {τ : Type} {oa : Option τ} {i : Nat} {o : τ → Option α} {k : τ → D × Pat} (hm : EE me env oa k) (h2 : ∀ a e, Mt ((k a).2.set i (some (k a).1)) e → ES n e (o a) K Q) : ES (sSeq (sSet i me) n) env (oa.bind o) K Q := fun x e => by
  obtain ⟨a, h3, h4⟩ := bsome e
  obtain ⟨e1, h5, h6⟩ := hm a h3
  obtain ⟨fl, e2, h8, h9⟩ := h2 a _ h6.set x h4
  exact ⟨fl, e2, by unfold sSeq sSet; rw [h5]; exact h8, h9⟩
theorem s_drop {τ : Type} {oa : Option τ} {o : τ → Option α} {k : τ → D × Pat} (hm : EE me env oa k) (h2 : ∀ a e, Mt (k a).2 e → ES n e (o a) K Q) : ES (sSeq (sDrop me) n) env (oa.bind o) K Q := fun x e => by
  obtain ⟨a, h3, h4⟩ := bsome e
  obtain ⟨e1, h5, h6⟩ := hm a h3
  obtain ⟨fl, e2, h8, h9⟩ := h2 a _ h6 x h4
  exact ⟨fl, e2, by unfold sSeq sDrop; rw [h5]; exact h8, h9⟩
theorem s_ret {a : α} (hm : m env = some d) (h : Mt (Q a) env) (hK : K a (.rt d)) : ES (sRet (lift m)) env (some a) K Q := fun x e => by
  cases e
  exact ⟨.rt d, env, by unfold sRet lift; rw [hm]; rfl, hK, h⟩
theorem s_retO {ct : α → D} (hm : EV m env o ct) (h : ∀ a, Mt (Q a) env) (hK : ∀ a, K a (.rt (ct a))) : ES (sRet (lift m)) env o K Q := fun x e => ⟨_, env, by unfold sRet lift; rw [hm x e]; rfl, hK x, h x⟩
theorem s_retE {τ : Type} {oa : Option τ} {w : τ → α} {k : τ → D × Pat} (hm : EE me env oa k) (h : ∀ a e, Mt (k a).2 e → Mt (Q (w a)) e) (hK : ∀ a, K (w a) (.rt (k a).1)) : ES (sRet me) env (oa.bind fun a => some (w a)) K Q := fun x e => by
  obtain ⟨a, h3, h4⟩ := bsome e
  cases h4
  obtain ⟨e1, h5, h6⟩ := hm a h3
  exact ⟨_, e1, by unfold sRet; rw [h5]; rfl, hK a, h a e1 h6⟩
theorem s_frz {i : Nat} {τ : Type} {ct ct' : τ → D} [Fz ct ct'] {a : τ} (h : Mt P env) (hi : P[i]? = some (some (ct a))) (h2 : ∀ e, Mt (P.set i (some (ct' a))) e → ES mS e o K Q) : ES (fun env => mS (frzAt i env)) env o K Q := by
  have : frzAt i env = env.set i (some (ct' a)) := by
    unfold frzAt
    rw [h.join hi]
    dsimp only
    rw [Fz.fz (c := ct)]
  show ES (fun env => mS (frzAt i env)) env o K Q
  intro x e
  obtain ⟨fl, e2, h8, h9⟩ := h2 _ (h.set (o := some (ct' a))) x e
  exact ⟨fl, e2, by show mS (frzAt i env) = _; rw [this]; exact h8, h9⟩

section
variable {p : Prop} [Decidable p]
theorem e_dec {b : Bool} (h : mt env = some b) : mt env = some (decide (b = true)) := by
  rw [h]
  cases b <;> rfl
theorem if_go (ht : mt env = some (decide p)) : sIf (liftT mt) mA mB env = if p then mA env else mB env := by
  unfold sIf liftT
  rw [ht, Option.map_some, Option.bind_some]
  by_cases hp : p <;> simp [hp]
theorem s_if (ht : mt env = some (decide p)) (hA : p → ES mA env oa K Q) (hB : ¬p → ES mB env ob K Q) : ES (sIf (liftT mt) mA mB) env (if p then oa else ob) K Q := fun x e => by
  rw [if_go ht]
  by_cases hp : p
  · rw [if_pos hp] at e ⊢; exact hA hp x e
  · rw [if_neg hp] at e ⊢; exact hB hp x e
theorem seq_pass {mS n : SM} {e e1 : Env} {fl : O} (h : mS e = some (fl, e1)) (hf : fl ≠ .nx) : sSeq mS n e = some (fl, e1) := by
  unfold sSeq
  rw [h, Option.bind_some]
  cases fl <;> first | rfl | exact absurd rfl hf
theorem s_ifx (ht : mt env = some (decide p)) (hA : p → ES mA env oa (fun x fl => K x fl ∧ fl ≠ .nx) Q) (hB : ¬p → ES (sSeq mB n) env ob K Q) : ES (sSeq (sIf (liftT mt) mA mB) n) env (if p then oa else ob) K Q := fun x e => by
  by_cases hp : p
  · rw [if_pos hp] at e
    obtain ⟨fl, e1, h1, h2, h3⟩ := hA hp x e
    exact ⟨fl, e1, seq_pass (by rw [if_go ht, if_pos hp]; exact h1) h2.2, h2.1, h3⟩
  · rw [if_neg hp] at e
    obtain ⟨fl, e1, h1, h2, h3⟩ := hB hp x e
    refine ⟨fl, e1, ?_, h2, h3⟩
    unfold sSeq at h1 ⊢
    rw [if_go ht, if_neg hp]; exact h1
theorem s_if2 (ht : mt env = some (decide p)) (hA : p → ES (sSeq mA n) env oa K Q) (hB : ¬p → ES (sSeq mB n) env ob K Q) : ES (sSeq (sIf (liftT mt) mA mB) n) env (if p then oa else ob) K Q := fun x e => by
  by_cases hp : p
  · rw [if_pos hp] at e
    obtain ⟨fl, e1, h1, h2, h3⟩ := hA hp x e
    refine ⟨fl, e1, ?_, h2, h3⟩
    unfold sSeq at h1 ⊢
    rw [if_go ht, if_pos hp]; exact h1
  · rw [if_neg hp] at e
    obtain ⟨fl, e1, h1, h2, h3⟩ := hB hp x e
    refine ⟨fl, e1, ?_, h2, h3⟩
    unfold sSeq at h1 ⊢
    rw [if_go ht, if_neg hp]; exact h1
end
theorem s_sk (h : ES n env o K Q) : ES (sSeq sNx n) env o K Q := h
theorem s_assoc {mC : SM} (h : ES (sSeq mA (sSeq mB mC)) env o K Q) : ES (sSeq (sSeq mA mB) mC) env o K Q := fun x e => by
  obtain ⟨fl, e1, h1, h2⟩ := h x e
  refine ⟨fl, e1, ?_, h2⟩
  unfold sSeq at h1 ⊢
  cases ha : mA env with
  | none => rw [ha] at h1; cases h1
  | some y =>
    rw [ha] at h1
    obtain ⟨f, e2⟩ := y
    cases f <;> first | exact h1 | (rw [← h1]; rfl)

section
variable {τ : Type} {oc : Option τ} {mc : TM} {p : τ → Prop} [DecidablePred p] {Pa : τ → Pat} {fa fb : τ → Option α}
theorem s_ifE (hc : ET mc env oc (fun a => (decide (p a), Pa a))) (hA : ∀ a e, Mt (Pa a) e → p a → ES mA e (fa a) K Q) (hB : ∀ a e, Mt (Pa a) e → ¬p a → ES mB e (fb a) K Q) : ES (sIf mc mA mB) env (oc.bind fun a => if p a then fa a else fb a) K Q := fun x e => by
  obtain ⟨a, h3, h4⟩ := bsome e
  obtain ⟨e1, h5, h6⟩ := hc a h3
  unfold sIf
  rw [h5, Option.bind_some]
  by_cases hp : p a
  · rw [if_pos hp] at h4
    rw [if_pos (decide_eq_true hp)]
    exact hA a e1 h6 hp x h4
  · rw [if_neg hp] at h4
    rw [if_neg (by simpa using hp)]
    exact hB a e1 h6 hp x h4
end


def lpB (cr : ρ → D) : Lp σ ρ → O → Prop
  | .go _, fl => fl = .nx ∨ fl = .ct
  | .br _, fl => fl = .bk
  | .rt r, fl => fl = .rt (cr r)
def lpD (cr : ρ → D) : Lp σ ρ → O → Prop
  | .go _, fl => fl = .nx
  | .br _, fl => fl = .nx
  | .rt r, fl => fl = .rt (cr r)
def lpQ (Pl : σ → Pat) (Pr : ρ → Pat) : Lp σ ρ → Pat
  | .go s => Pl s
  | .br s => Pl s
  | .rt r => Pr r
theorem s_for {g : Tg} {mb : SM} {xs : List α} {s0 : σ} {f : σ → α → Option σ} {Pl : σ → Pat} {Px : σ → α → Pat} (w : mi env = some (xs.map c)) [Pu c] (h : Mt (Pl s0) env) (hb : ∀ s x, BDt g (c x) (Pl s) (Px s x))
    (hs : ∀ s x e, Mt (Px s x) e → ES mb e (f s x) (fun _ fl => fl = .nx ∨ fl = .ct) Pl) : ES (sFor mi g mb) env (forO xs s0 f) (fun _ fl => fl = .nx) Pl := fun y e => by
  unfold sFor
  rw [w, Option.bind_some, if_pos (pureL_cod xs)]
  clear w
  induction xs generalizing s0 env with
  | nil => cases e; exact ⟨.nx, env, rfl, rfl, h⟩
  | cons x xs ih =>
    rw [forO] at e
    obtain ⟨s1, h1, h2⟩ := bsome e
    obtain ⟨e1, g1, g2⟩ := hb s0 x env h
    obtain ⟨fl, e2, g3, g4, g5⟩ := hs s0 x e1 g2 s1 h1
    rw [List.map_cons, forD, g1, Option.bind_some, g3, Option.bind_some]
    rcases g4 with rfl | rfl
    · exact ih g5 h2
    · exact ih g5 h2
theorem s_forR {g : Tg} {mb : SM} {xs : List α} {s0 : σ} {cr : ρ → D} {f : σ → α → Option (Lp σ ρ)} {Pl : σ → Pat} {Pr : ρ → Pat} {Px : σ → α → Pat} (w : mi env = some (xs.map c)) [Pu c] (h : Mt (Pl s0) env) (hb : ∀ s x, BDt g (c x) (Pl s) (Px s x))
    (hs : ∀ s x e, Mt (Px s x) e → ES mb e (f s x) (lpB cr) (lpQ Pl Pr)) : ES (sFor mi g mb) env (forR xs s0 f) (lpD cr) (lpQ Pl Pr) := fun y e => by
  unfold sFor
  rw [w, Option.bind_some, if_pos (pureL_cod xs)]
  clear w
  induction xs generalizing s0 env with
  | nil => cases e; exact ⟨.nx, env, rfl, rfl, h⟩
  | cons x xs ih =>
    rw [forR] at e
    obtain ⟨r, h1, h2⟩ := bsome e
    obtain ⟨e1, g1, g2⟩ := hb s0 x env h
    obtain ⟨fl, e2, g3, g4, g5⟩ := hs s0 x e1 g2 r h1
    rw [List.map_cons, forD, g1, Option.bind_some, g3, Option.bind_some]
    cases r with
    | go s1 =>
      rcases g4 with rfl | rfl
      · exact ih g5 h2
      · exact ih g5 h2
    | br s1 =>
      cases g4
      cases h2
      exact ⟨.nx, e2, rfl, rfl, g5⟩
    | rt v =>
      cases g4
      cases h2
      exact ⟨_, e2, rfl, rfl, g5⟩
theorem s_wh {mb : SM} {s0 : σ} {k : Nat} {cd : σ → Option Bool} {f : σ → Option σ} {Pl : σ → Pat} (h : Mt (Pl s0) env) (hc : ∀ s e, Mt (Pl s) e → EVB mt e (cd s)) (hs : ∀ s e, Mt (Pl s) e → ES mb e (f s) (fun _ fl => fl = .nx ∨ fl = .ct) Pl) :
    ES (whD (liftT mt) mb k) env (whO k s0 cd f) (fun _ fl => fl = .nx) Pl := fun y e => by
  induction k generalizing s0 env with
  | zero => cases e
  | succ k ih =>
    rw [whO] at e
    obtain ⟨b, h1, h2⟩ := bsome e
    rw [whD]
    unfold liftT
    rw [hc s0 env h b h1, Option.map_some, Option.bind_some]
    cases b with
    | true =>
      rw [if_pos rfl] at h2 ⊢
      obtain ⟨s1, h3, h4⟩ := bsome h2
      obtain ⟨fl, e2, g3, g4, g5⟩ := hs s0 env h s1 h3
      rw [g3, Option.bind_some]
      rcases g4 with rfl | rfl
      · exact ih g5 h4
      · exact ih g5 h4
    | false =>
      rw [if_neg (by decide)] at h2
      rw [if_neg (fun z => by cases z)]
      cases h2
      exact ⟨.nx, env, rfl, rfl, h⟩
theorem s_aft {cr : ρ → D} {ol : Option (Lp σ ρ)} {f : σ → Option α} {w : ρ → α} {Pl : σ → Pat} {Pr : ρ → Pat} (h : ES mS env ol (lpD cr) (lpQ Pl Pr)) (h2 : ∀ s e, Mt (Pl s) e → ES n e (f s) K Q) (h3 : ∀ r e, Mt (Pr r) e → Mt (Q (w r)) e) (hK : ∀ r, K (w r) (.rt (cr r))) : ES (sSeq mS n) env (aft ol f fun r => some (w r)) K Q := fun x e => by
  unfold aft at e
  obtain ⟨r, h4, h5⟩ := bsome e
  obtain ⟨fl, e1, h6, h7, h8⟩ := h r h4
  cases r with
  | go s =>
    cases h7
    obtain ⟨fl, e2, h9, h10⟩ := h2 s e1 h8 x h5
    exact ⟨fl, e2, by unfold sSeq; rw [h6]; exact h9, h10⟩
  | br s =>
    cases h7
    obtain ⟨fl, e2, h9, h10⟩ := h2 s e1 h8 x h5
    exact ⟨fl, e2, by unfold sSeq; rw [h6]; exact h9, h10⟩
  | rt v =>
    cases h7
    cases h5
    exact ⟨_, e1, by unfold sSeq; rw [h6]; rfl, hK v, h3 v e1 h8⟩


class Nx (c : α → D) : Prop where
  nx : ∀ x, (c x).isx = false
instance : Nx cI := ⟨fun _ => rfl⟩
instance : Nx cB := ⟨fun _ => rfl⟩
instance : Nx cU := ⟨fun _ => rfl⟩
instance {o : Fl} {c : α → D} : Nx (cL o c) := ⟨fun _ => rfl⟩
instance {k : α → List D} : Nx (cT k) := ⟨fun _ => rfl⟩
instance {o : Fl} {k : α → List D} : Nx (cR o k) := ⟨fun _ => rfl⟩
instance {c : α → D} [Nx c] : Nx (cO c) := ⟨fun x => by cases x <;> first | rfl | exact Nx.nx (c := c) _⟩
def fnK (c : α → D) (x : α) : O → Prop
  | .rt d => d = c x
  | .nx => c x = .s .non
  | _ => False
theorem run_p [Nx c] {k : Nat} {ds : List D} (h : ES mS (initD k ds) o (fnK c) Q) : ∀ x, o = some x → runP k mS ds = some (c x) := fun x e => by
  obtain ⟨fl, e1, h1, h2, h3⟩ := h x e
  unfold runP
  rw [h1, Option.bind_some]
  cases fl with
  | rt d => cases h2; dsimp only; rw [Nx.nx (c := c)]; rfl
  | nx =>
    have h2 : c x = .s .non := h2
    show some (D.s .non) = _
    rw [h2]
  | bk => exact h2.elim
  | ct => exact h2.elim
theorem pick_mt : ∀ {mu : List Nat} {P : Pat} {e : Env} {os : List D}, Mt P e → pickD mu P = some os → pickD mu e = some os
  | [], _, _, _, _, h => h
  | i :: is, P, e, os, hm, h => by
    unfold pickD at h ⊢
    obtain ⟨d, h1, h2⟩ := bind_some h
    have hi : P[i]? = some (some d) := by
      cases q : P[i]? with
      | none => rw [q] at h1; cases h1
      | some z => rw [q] at h1; cases z with
        | none => cases h1
        | some z => cases h1; rfl
    rw [hm.join hi, Option.bind_some]
    cases q : pickD is (P.set i none) with
    | none => rw [q] at h2; cases h2
    | some zs =>
      rw [q] at h2
      rw [pick_mt (hm.set (i := i) (o := none)) q]; exact h2
theorem run_m {k : Nat} {mu : List Nat} {ds : List D} {os : α → List D} (h : ES mS (initD k ds) o (fnK c) Q) (hp : ∀ x, pickD mu (Q x) = some (os x)) (hx : ∀ x, (c x).isx = false := by intro x; first | rfl | exact Nx.nx _) : ∀ x, o = some x → runM k mu mS ds = some (c x, os x) := fun x e => by
  obtain ⟨fl, e1, h1, h2, h3⟩ := h x e
  unfold runM
  rw [h1, Option.bind_some]
  have q := pick_mt h3 (hp x)
  cases fl with
  | rt d =>
    cases h2
    dsimp only
    rw [hx, q]; rfl
  | nx =>
    have h2 : c x = .s .non := h2
    dsimp only
    rw [q, h2]; rfl
  | bk => exact h2.elim
  | ct => exact h2.elim
end
end Ow

namespace Ow
open PySem L2 Ty
section
variable {α β γ σ ρ ζ τ : Type} {env : Env} {P P1 P2 : Pat} {ma mb m : PM} {mt mu : BM} {ml mi : LM} {c c' : α → D} {cz : ζ → D} {d : D} {v : V}
variable {K : β → O → Prop} {Q : β → Pat} {n mS : SM} {me m1 m2 : EM} {i : Nat} {pm : Env → Option (List Nat)} {x : α} {up : ζ → α}

theorem ES.bindE {oa : Option τ} {o : τ → Option β} {ms : SM} (f : ∀ a, oa = some a → ES ms env (o a) K Q) : ES ms env (oa.bind o) K Q := fun x e => by
  obtain ⟨a, h1, h2⟩ := bsome e
  exact f a h1 x h2
theorem EE.bindE {oa : Option τ} {o : τ → Option β} {k : β → D × Pat} (f : ∀ a, oa = some a → EE me env (o a) k) : EE me env (oa.bind o) k := fun x e => by
  obtain ⟨a, h1, h2⟩ := bsome e
  exact f a h1 x h2

structure PLs (pm : Env → Option (List Nat)) (env : Env) (i : Nat) (x : α) (c : α → D) (z : ζ) (cz : ζ → D) (up : ζ → α) : Prop where
  ex : ∃ p, pm env = some p ∧ atD p (c x) = some (cz z) ∧ ∀ (F : List D → Option (List D)) (ds ds' : List D) (z' : ζ), cz z = .n (.lst .o) ds → F ds = some ds' → cz z' = .n (.lst .o) ds' → modD p F (c x) = some (c (up z'))
  sl : env[i]?.join = some (c x)
theorem pl_name (h : Mt P env) (e : P[i]? = some (some (c x))) : PLs (plName i) env i x c x c id := by
  refine ⟨⟨[], by unfold plName; rw [h.join e]; rfl, rfl, fun F ds ds' z' h1 h2 h3 => ?_⟩, h.join e⟩
  rw [h1, modD, h2, Option.map_some]
  show some _ = some (c z')
  rw [h3]
theorem atD_sn : ∀ (p : List Nat) (j : Nat) (d : D) (e : D) (x : D), atD p d = some e → e.kids[j]? = some x → atD (p ++ [j]) d = some x
  | [], j, d, e, x, h1, h2 => by
    cases h1
    show atD [j] _ = _
    rw [atD, h2]; rfl
  | k :: p, j, d, e, x, h1, h2 => by
    unfold atD at h1
    obtain ⟨u, h4, h5⟩ := bind_some h1
    show atD (k :: (p ++ [j])) d = _
    rw [atD, h4, Option.bind_some, atD_sn p j u e x h5 h2]
theorem s_app {xs : List ζ} {y : ζ} {o : List ζ → Option β} {up : List ζ → α} (h : PLs pm env i x c xs (cL .o cz) up) (hy : m env = some (cz y)) (hm : Mt P env) (h2 : ∀ z e, Mt (P.set i (some (c (up z)))) e → ES n e (o z) K Q) : ES (sSeq (sApp i pm (lift m)) n) env ((app xs y).bind o) K Q := ES.bindE fun z e => by
  unfold app at e
  split at e
  · rename_i hl
    cases e
    obtain ⟨⟨p, g1, g2, g3⟩, hs⟩ := h
    have g4 := g3 (fun ds => if ds.length < 16777216 then some (ds ++ [cz y]) else none) (xs.map cz) ((xs ++ [y]).map cz) (xs ++ [y]) rfl (by rw [List.length_map, if_pos hl, List.map_append]; rfl) rfl
    intro w hw
    obtain ⟨fl, e2, q1, q2⟩ := h2 _ _ (hm.set (i := i) (o := some (c (up (xs ++ [y]))))) w hw
    refine ⟨fl, e2, ?_, q2⟩
    unfold sSeq sApp lift
    rw [g1, Option.bind_some, hy, Option.map_some, Option.bind_some, hs, Option.bind_some]
    dsimp only
    rw [g4]; exact q1
  · cases e
theorem s_appE {xs : List ζ} {oy : Option τ} {y : τ → ζ} {Py : τ → Pat} {o : τ → List ζ → Option β} {up : List ζ → α} (h : PLs pm env i x c xs (cL .o cz) up) (hy : EE me env oy (fun a => (cz (y a), Py a))) (h2 : ∀ a z e, Mt ((Py a).set i (some (c (up z)))) e → ES n e (o a z) K Q) : ES (sSeq (sApp i pm me) n) env (oy.bind fun a => (app xs (y a)).bind (o a)) K Q := ES.bindE fun a ha => ES.bindE fun z e => by
  unfold app at e
  split at e
  · rename_i hl
    cases e
    obtain ⟨⟨p, g1, g2, g3⟩, hs⟩ := h
    obtain ⟨e1, f1, f2⟩ := hy a ha
    have g4 := g3 (fun ds => if ds.length < 16777216 then some (ds ++ [cz (y a)]) else none) (xs.map cz) ((xs ++ [y a]).map cz) (xs ++ [y a]) rfl (by rw [List.length_map, if_pos hl, List.map_append]; rfl) rfl
    intro w hw
    obtain ⟨fl, e2, q1, q2⟩ := h2 a _ _ (f2.set (i := i) (o := some (c (up (xs ++ [y a]))))) w hw
    refine ⟨fl, e2, ?_, q2⟩
    unfold sSeq sApp
    rw [g1, Option.bind_some, f1, Option.bind_some, hs, Option.bind_some]
    dsimp only
    rw [g4]; exact q1
  · cases e
theorem s_put {xs : List ζ} {y : ζ} {k : Int} {o : List ζ → Option β} {up : List ζ → α} (hy : m env = some (cz y)) (h : PLs pm env i x c xs (cL .o cz) up) (hk : mb env = some (cI k)) (hm : Mt P env) (h2 : ∀ z e, Mt (P.set i (some (c (up z)))) e → ES n e (o z) K Q) : ES (sSeq (sPut i pm mb (lift m)) n) env ((putI xs k y).bind o) K Q := ES.bindE fun z e => by
  unfold putI at e
  rw [← ixN_Z] at e
  cases hj : ixN xs.length k with
  | none => rw [hj] at e; cases e
  | some j =>
    rw [hj] at e
    cases e
    obtain ⟨⟨p, g1, g2, g3⟩, hs⟩ := h
    have g4 := g3 (fun ds => (ixN ds.length k).map fun j => ds.set j (cz y)) (xs.map cz) ((xs.map cz).set j (cz y)) (xs.set j y) rfl (by rw [List.length_map, hj]; rfl) (by rw [cL, List.map_set])
    intro w hw
    obtain ⟨fl, e2, q1, q2⟩ := h2 _ _ (hm.set (i := i) (o := some (c (up (xs.set j y))))) w hw
    refine ⟨fl, e2, ?_, q2⟩
    unfold sSeq sPut lift
    rw [hy, Option.map_some, Option.bind_some, g1, Option.bind_some, hk, Option.bind_some]
    show Option.bind (Option.bind (some k) _) _ = _
    rw [Option.bind_some, hs, Option.bind_some]
    dsimp only
    rw [g4]; exact q1
theorem eraseIdx_mp {f : ζ → D} : ∀ (xs : List ζ) (j : Nat), (xs.eraseIdx j).map f = (xs.map f).eraseIdx j
  | [], _ => rfl
  | x :: xs, 0 => rfl
  | x :: xs, j + 1 => by rw [List.eraseIdx_cons_succ, List.map_cons, eraseIdx_mp xs j]; rfl
theorem s_putR {y : D} {k : Int} {ds ds' : List D} {x' : α} {o : Option β} (hy : m env = some y) (hm : Mt P env) (e : P[i]? = some (some (c x))) (hk : mb env = some (cI k)) (hd : c x = .n (.lst .o) ds) (hd' : ((ixN ds.length k).map fun j => ds.set j y) = some ds') (hx : c x' = .n (.lst .o) ds') (h2 : ∀ e, Mt (P.set i (some (c x'))) e → ES n e o K Q) : ES (sSeq (sPut i (plName i) mb (lift m)) n) env o K Q := fun w hw => by
  obtain ⟨fl, e2, q1, q2⟩ := h2 _ (hm.set (i := i) (o := some (c x'))) w hw
  refine ⟨fl, e2, ?_, q2⟩
  unfold sSeq sPut lift plName
  rw [hy, Option.map_some, Option.bind_some, hm.join e, Option.map_some, Option.bind_some, hk, Option.bind_some]
  show Option.bind (Option.bind (some (c x)) fun d => _) _ = _
  rw [Option.bind_some, hd]
  simp only [modD, hd', Option.map_some, Option.bind_some]
  rw [← hx]
  exact q1
theorem s_ins {xs : List ζ} {y : ζ} {k : Int} {o : List ζ → Option β} {up : List ζ → α} (h : PLs pm env i x c xs (cL .o cz) up) (hk : mb env = some (cI k)) (hy : m env = some (cz y)) (hm : Mt P env) (h2 : ∀ z e, Mt (P.set i (some (c (up z)))) e → ES n e (o z) K Q) : ES (sSeq (sIns i pm (lift mb) (lift m)) n) env ((insI xs k y).bind o) K Q := ES.bindE fun z e => by
  unfold insI at e
  split at e
  · rename_i hl
    cases e
    obtain ⟨⟨p, g1, g2, g3⟩, hs⟩ := h
    have g4 := g3 (fun ds => if (ds.length < 16777216 ∧ 0 ≤ k ∧ k < 2 ^ 63) then some (ds.take k.toNat ++ [cz y] ++ ds.drop k.toNat) else none) (xs.map cz) ((xs.take k.toNat ++ [y] ++ xs.drop k.toNat).map cz) (xs.take k.toNat ++ [y] ++ xs.drop k.toNat) rfl (by
      rw [List.length_map, if_pos ⟨hl.1, hl.2.1, by omega⟩, List.map_append, List.map_append, List.map_take, List.map_drop]; rfl) rfl
    intro w hw
    obtain ⟨fl, e2, q1, q2⟩ := h2 _ _ (hm.set (i := i) (o := some (c (up (xs.take k.toNat ++ [y] ++ xs.drop k.toNat))))) w hw
    refine ⟨fl, e2, ?_, q2⟩
    unfold sSeq sIns lift
    rw [g1, Option.bind_some, hk, Option.map_some, Option.bind_some, hy, Option.map_some, Option.bind_some]
    show Option.bind (Option.bind (some k) _) _ = _
    rw [Option.bind_some, hs, Option.bind_some]
    dsimp only
    rw [g4]; exact q1
  · cases e


theorem s_retM {w : β} (hm : Mt P env) (e : P[i]? = some (some d)) (h : ∀ e, Mt (P.set i none) e → Mt (Q w) e) (hK : K w (.rt d)) : ES (sRet (eMove i)) env (some w) K Q := fun x hx => by
  cases hx
  exact ⟨_, _, by unfold sRet eMove; rw [hm.join e]; rfl, hK, h _ hm.set⟩
theorem ee_opL {f : D → D → Option V} {oa : Option α} {da : α → D} {Pa : α → Pat} {db : α → D} {w : α → V} (ha : EE m1 env oa (fun a => (da a, Pa a))) (hb : ∀ a e, Mt (Pa a) e → mb e = some (db a)) (hf : ∀ a, f (da a) (db a) = some (w a)) (hs : ∀ a, scl (w a) = true) :
    EE (eOp2 f m1 (lift mb)) env oa (fun a => (.s (w a), Pa a)) := fun a h1 => by
  obtain ⟨e1, h3, h4⟩ := ha a h1
  refine ⟨e1, ?_, h4⟩
  unfold eOp2 lift
  rw [h3, Option.bind_some, hb a e1 h4, Option.map_some, Option.bind_some, hf a, Option.bind_some]
  show Option.map _ (if _ then _ else _) = _
  rw [if_pos (hs a)]; rfl
theorem ee_opR {f : D → D → Option V} {ob : Option γ} {da : D} {db : γ → D} {Pb : γ → Pat} {w : γ → V} (ha : ma env = some da) (hb : EE m2 env ob (fun b => (db b, Pb b))) (hf : ∀ b, f da (db b) = some (w b)) (hs : ∀ b, scl (w b) = true) :
    EE (eOp2 f (lift ma) m2) env ob (fun b => (.s (w b), Pb b)) := fun b h1 => by
  obtain ⟨e1, h3, h4⟩ := hb b h1
  refine ⟨e1, ?_, h4⟩
  unfold eOp2 lift
  rw [ha, Option.map_some, Option.bind_some, h3, Option.bind_some, hf b, Option.bind_some]
  show Option.map _ (if _ then _ else _) = _
  rw [if_pos (hs b)]; rfl
theorem ee_opLp {f : D → D → Option V} {oa : Option α} {da : α → D} {Pa : α → Pat} {db : α → D} {z : α → Option Int} (ha : EE m1 env oa (fun a => (da a, Pa a))) (hb : ∀ a e, Mt (Pa a) e → mb e = some (db a)) (hf : ∀ a w, z a = some w → f (da a) (db a) = some (.int w)) :
    EE (eOp2 f m1 (lift mb)) env (oa.bind fun a => (z a).bind fun w => some (a, w)) (fun x => (cI x.2, Pa x.1)) := EE.bindE fun a h1 => EE.bindE fun w h2 => fun x e => by
  cases e
  obtain ⟨e1, h3, h4⟩ := ha a h1
  refine ⟨e1, ?_, h4⟩
  unfold eOp2 lift
  rw [h3, Option.bind_some, hb a e1 h4, Option.map_some, Option.bind_some, hf a w h2]; rfl
theorem pf_mul {i j w : Int} (h : pmul i j = some w) : fMul (cI i) (cI j) = some (.int w) := by
  unfold pmul at h
  split at h
  · rename_i g
    cases h
    exact fMul_int (wide_mulB g.1 g.2)
  · cases h
theorem ee_popE {xs : List ζ} {oa : Option τ} {k : τ → Int} {Pa : τ → Pat} {up : List ζ → α} (h : PLs pm env i x c xs (cL .o cz) up) (hk : EE me env oa (fun a => (cI (k a), Pa a))) : EE (ePopAt i pm me) env (oa.bind fun a => (popI xs (k a)).bind fun r => some (a, r)) (fun r => (cz r.2.1, (Pa r.1).set i (some (c (up r.2.2))))) := EE.bindE fun a ha => EE.bindE fun r e => fun y hy => by
  cases hy
  unfold popI at e
  split at e
  · rename_i hl
    rw [← ixN_Z] at e
    obtain ⟨j, hj, e⟩ := bsome e
    cases hz : xs[j]? with
    | none => rw [hz] at e; cases e
    | some z =>
      rw [hz] at e
      cases e
      obtain ⟨⟨p, g1, g2, g3⟩, hs⟩ := h
      obtain ⟨e1, f1, f2⟩ := hk a ha
      have g4 := g3 (fun _ => some ((xs.map cz).eraseIdx j)) (xs.map cz) ((xs.map cz).eraseIdx j) (xs.eraseIdx j) rfl rfl (by rw [cL, eraseIdx_mp])
      refine ⟨_, ?_, f2.set⟩
      unfold ePopAt
      rw [g1, Option.bind_some, f1, Option.bind_some]
      show Option.bind (some (k a)) _ = _
      rw [Option.bind_some, hs, Option.bind_some, g2, Option.bind_some]
      show (if (xs.map cz).length ≤ 16777216 then _ else _) = _
      rw [List.length_map, if_pos hl, hj, Option.bind_some, List.getElem?_map, hz, Option.map_some, Option.bind_some, g4]; rfl
  · cases e
theorem et_B {oa : Option γ} {b : γ → Bool} {Pa : γ → Pat} (ha : EE me env oa (fun a => (cB (b a), Pa a))) : ET (eB me) env oa (fun a => (b a, Pa a)) := fun a h1 => by
  obtain ⟨e1, h3, h4⟩ := ha a h1
  exact ⟨e1, by unfold eB; rw [h3]; rfl, h4⟩

def EA (as : List As) (env : Env) (o : Option γ) (k : γ → List D × Pat) : Prop := ∀ x, o = some x → ∃ e, evA as env = some ((k x).1, e) ∧ Mt (k x).2 e
theorem ea_nil (h : Mt P env) : EA [] env (some ()) (fun _ => ([], P)) := fun x _ => ⟨env, rfl, h⟩
theorem ea_bor {as : List As} {o : Option γ} {k : γ → List D × Pat} (h : EA as env o k) : EA (.bor i :: as) env o k := fun x e => h x e
theorem ea_mv {as : List As} {o : Option γ} {k : γ → List D × Pat} (h : EA as env o k) : EA (.mv i :: as) env o k := fun x e => h x e
theorem ea_ev {as : List As} {o : Option γ} {ds : γ → List D} {Pa : γ → Pat} (hm : m env = some d) (h : EA as env o (fun a => (ds a, Pa a))) : EA (.ev (lift m) :: as) env o (fun a => (d :: ds a, Pa a)) := fun x e => by
  obtain ⟨e1, h1, h2⟩ := h x e
  exact ⟨e1, by unfold evA lift; rw [hm, Option.map_some, Option.bind_some, h1]; rfl, h2⟩
theorem ea_evE {as : List As} {oa : Option γ} {da : γ → D} {Pa : γ → Pat} {ds : γ → List D} (hm : EE me env oa (fun a => (da a, Pa a))) (h : ∀ a e, Mt (Pa a) e → EA as e (some ()) (fun _ => (ds a, Pa a))) : EA (.ev me :: as) env oa (fun a => (da a :: ds a, Pa a)) := fun x e => by
  obtain ⟨e1, h1, h2⟩ := hm x e
  obtain ⟨e2, h3, h4⟩ := h x e1 h2 () rfl
  exact ⟨e2, by unfold evA; rw [h1, Option.bind_some, h3]; rfl, h4⟩
theorem getj {P : Pat} {i : Nat} (h : P[i]?.join = some d) : P[i]? = some (some d) := by
  cases q : P[i]? with
  | none => rw [q] at h; cases h
  | some z => rw [q] at h; cases z with
    | none => cases h
    | some z => cases h; rfl
theorem ins_mt : ∀ {as : List As} {ds : List D} {P P' : Pat} {e : Env} {is : List D}, Mt P e → insA as ds P = some (is, P') → ∃ e', insA as ds e = some (is, e') ∧ Mt P' e'
  | [], _, P, P', e, is, h, q => by
    cases q
    exact ⟨e, rfl, h⟩
  | .ev m :: r, [], P, P', e, is, h, q => by simp at q
  | .tm m :: r, [], P, P', e, is, h, q => by simp at q
  | .ev m :: r, d :: ds, P, P', e, is, h, q => by
    unfold insA at q ⊢
    cases z : insA r ds P with
    | none => rw [z] at q; cases q
    | some y =>
      rw [z] at q
      cases q
      obtain ⟨e', h1, h2⟩ := ins_mt (as := r) h z
      exact ⟨e', by rw [h1]; rfl, h2⟩
  | .tm m :: r, d :: ds, P, P', e, is, h, q => by
    unfold insA at q ⊢
    cases z : insA r ds P with
    | none => rw [z] at q; cases q
    | some y =>
      rw [z] at q
      cases q
      obtain ⟨e', h1, h2⟩ := ins_mt (as := r) h z
      exact ⟨e', by rw [h1]; rfl, h2⟩
  | .bor i :: r, ds, P, P', e, is, h, q => by
    unfold insA at q ⊢
    obtain ⟨d, h1, q⟩ := bind_some q
    rw [h.join (getj h1), Option.bind_some]
    cases z : insA r ds P with
    | none => rw [z] at q; cases q
    | some y =>
      rw [z] at q
      cases q
      obtain ⟨e', h1, h2⟩ := ins_mt (as := r) h z
      exact ⟨e', by rw [h1]; rfl, h2⟩
  | .mv i :: r, ds, P, P', e, is, h, q => by
    unfold insA at q ⊢
    obtain ⟨d, h1, q⟩ := bind_some q
    rw [h.join (getj h1), Option.bind_some]
    cases z : insA r ds (P.set i none) with
    | none => rw [z] at q; cases q
    | some y =>
      rw [z] at q
      cases q
      obtain ⟨e', h1, h2⟩ := ins_mt (as := r) (h.set (i := i) (o := none)) z
      exact ⟨e', by rw [h1]; rfl, h2⟩
theorem put_mt : ∀ {as : List As} {os : List D} {P P' : Pat} {e : Env}, Mt P e → putA as os P = some P' → ∃ e', putA as os e = some e' ∧ Mt P' e'
  | [], [], P, P', e, h, q => by
    cases q
    exact ⟨e, rfl, h⟩
  | [], _ :: _, _, _, _, _, q => by simp at q
  | .ev m :: r, os, P, P', e, h, q => by
    unfold putA at q ⊢
    exact put_mt (as := r) h q
  | .bor i :: r, os, P, P', e, h, q => by
    unfold putA at q ⊢
    exact put_mt (as := r) h q
  | .mv i :: r, [], P, P', e, h, q => by simp at q
  | .tm m :: r, [], P, P', e, h, q => by simp at q
  | .mv i :: r, o :: os, P, P', e, h, q => by
    unfold putA at q ⊢
    exact put_mt (as := r) (h.set (i := i) (o := some o)) q
  | .tm m :: r, o :: os, P, P', e, h, q => by
    unfold putA at q ⊢
    exact put_mt (as := r) h q
theorem all_mt {is : List Nat} (h : Mt P env) (q : (is.all fun i => (P[i]?.join).isSome) = true) : (is.all fun i => (env[i]?.join).isSome) = true := by
  rw [List.all_eq_true] at q ⊢
  intro j hj
  have := q j hj
  cases z : P[j]?.join with
  | none => rw [z] at this; cases this
  | some d => rw [h.join (getj z)]; rfl
theorem ee_call {f : FMu} {as : List As} {oa : Option τ} {ds : τ → List D} {Pa : τ → Pat} {is : τ → List D} {Pi : τ → Pat} {t : τ → Option ρ} {dr : ρ → D} {os : ρ → List D} {Pf : ρ → Pat} (hm : Mt P env) (hs : ((muS as ++ boS as).all fun i => (P[i]?.join).isSome) = true) (ha : EA as env oa (fun a => (ds a, Pa a)))
    (hi : ∀ a, insA as (ds a) (Pa a) = some (is a, Pi a)) (hf : ∀ a r, t a = some r → f (is a) = some (dr r, os r)) (hn : ∀ r, ((dr r).noF && noFL (os r)) = true) (hp : ∀ a r, putA as (os r) (Pi a) = some (Pf r)) : EE (eCallM f as) env (oa.bind t) (fun r => (dr r, Pf r)) := EE.bindE fun a h1 => fun r h2 => by
  obtain ⟨e1, h3, h4⟩ := ha a h1
  obtain ⟨e2, h5, h6⟩ := ins_mt h4 (hi a)
  obtain ⟨e3, h7, h8⟩ := put_mt h6 (hp a r)
  refine ⟨e3, ?_, h8⟩
  unfold eCallM
  rw [all_mt hm hs, if_neg (fun z => by cases z), h3, Option.bind_some]
  dsimp only
  rw [h5, Option.bind_some]
  dsimp only
  rw [hf a r h2, Option.bind_some]
  dsimp only
  rw [if_pos (hn r), h7]; rfl
theorem ee_call0 {f : FMu} {as : List As} {ds : List D} {is : List D} {Pi : Pat} {t : Option ρ} {dr : ρ → D} {os : ρ → List D} {Pf : ρ → Pat} (hm : Mt P env) (hs : ((muS as ++ boS as).all fun i => (P[i]?.join).isSome) = true) (ha : EA as env (some ()) (fun _ => (ds, P)))
    (hi : insA as ds P = some (is, Pi)) (hf : ∀ r, t = some r → f is = some (dr r, os r)) (hn : ∀ r, ((dr r).noF && noFL (os r)) = true) (hp : ∀ r, putA as (os r) Pi = some (Pf r)) : EE (eCallM f as) env t (fun r => (dr r, Pf r)) :=
  ee_call (t := fun _ : Unit => t) (ds := fun _ => ds) (Pa := fun _ => P) (is := fun _ => is) (Pi := fun _ => Pi) hm hs ha (fun _ => hi) (fun _ => hf) hn (fun _ => hp)



section
variable {κ ν : Type} [DecidableEq κ]
def cD (o : Fl) (ck : κ → Key) (cv : ν → V) (kvs : List (κ × ν)) : D := dicD o (kvs.map fun e => (ck e.1, cv e.2))
def ckI (x : Int) : Key := .inl x
def ckS (x : Str) : Key := .inr x
def cvI (x : Int) : V := .int x
def cvB (x : Bool) : V := .bl x
class CK (ck : κ → Key) : Prop where
  inj : ∀ a b, ck a = ck b → a = b
class CV (cv : ν → V) : Prop where
  sc : ∀ x, scl (cv x) = true
instance : CK ckI := ⟨fun a b h => by cases h; rfl⟩
instance : CK ckS := ⟨fun a b h => by cases h; rfl⟩
instance : CV cvI := ⟨fun _ => rfl⟩
instance : CV cvB := ⟨fun _ => rfl⟩
variable {ck : κ → Key} {cv : ν → V} {kvs : List (κ × ν)} {k : κ} {w : ν} {o : Fl} {dk : D}
theorem sclD_cod [CV cv] : ∀ kvs : List (κ × ν), sclD (kvs.map fun e => D.s (cv e.2)) = some (kvs.map fun e => cv e.2)
  | [] => rfl
  | e :: kvs => by rw [List.map_cons, sclD, if_pos (CV.sc e.2), sclD_cod kvs]; rfl
theorem dicP_cod [CV cv] (hn : nw o = true) (kvs : List (κ × ν)) : dicP (cD o ck cv kvs) = some (kvs.map fun e => (ck e.1, cv e.2)) := by
  unfold cD dicD dicP
  dsimp only
  rw [List.map_map, List.map_map, if_pos (by rw [hn, List.length_map, List.length_map]; simp)]
  rw [show (kvs.map ((fun p : Key × V => D.s p.2) ∘ fun e => (ck e.1, cv e.2))) = kvs.map fun e => D.s (cv e.2) from rfl, sclD_cod, Option.map_some]
  congr 1
  clear hn
  induction kvs with
  | nil => rfl
  | cons e r ih => rw [List.map_cons, List.map_cons, List.map_cons, List.zip_cons_cons, ih]; rfl
theorem putK_cod [CK ck] (kvs : List (κ × ν)) (k : κ) (v : ν) : putK (kvs.map fun e => (ck e.1, cv e.2)) (ck k) (cv v) = (dput kvs k v).map fun e => (ck e.1, cv e.2) := by
  unfold putK dput
  have h1 : ((kvs.map fun e => (ck e.1, cv e.2)).any fun kv => decide (kv.1 = ck k)) = dhas kvs k := by
    unfold dhas
    rw [List.any_map]
    congr 1
    funext e
    show decide (ck e.1 = ck k) = decide (e.1 = k)
    rw [Bool.eq_iff_iff, decide_eq_true_iff, decide_eq_true_iff]
    exact ⟨CK.inj _ _, fun h => by rw [h]⟩
  rw [h1]
  split
  · rw [List.map_map, List.map_map]
    apply List.map_congr_left
    intro e _
    show (if ck e.1 = ck k then (ck e.1, cv v) else (ck e.1, cv e.2)) = (fun e => (ck e.1, cv e.2)) (if e.1 = k then (e.1, v) else e)
    by_cases h : e.1 = k
    · rw [if_pos h, if_pos (by rw [h])]
    · rw [if_neg h, if_neg (fun z => h (CK.inj _ _ z))]
  · rw [List.map_append]; rfl
theorem v_dc [CK ck] [CV cv] {g : Tg} {mx mv : PM} {vs : List Nat} {xs : List α} {p : α → Option Bool} {f : α → Option (κ × ν)} {Px : α → Pat} {dx : κ → D} (w : mi env = some (xs.map c)) (h : Mt P env) (hb : ∀ x, BDt g (c x) (wipeD P vs) (Px x)) (ht : ∀ x e, Mt (Px x) e → EVB mt e (p x)) (hk : ∀ k, keyD (dx k) = some (ck k))
    (he : ∀ x e r, Mt (Px x) e → f x = some r → mx e = some (dx r.1) ∧ mv e = some (.s (cv r.2))) : EV (mDc mi g mt mx mv vs) env (dcp xs p f) (cD .o ck cv) := fun x e => by
  unfold dcp at e
  split at e
  · rename_i hl
    unfold mDc
    rw [w, Option.bind_some, if_pos (by rw [List.length_map]; exact hl)]
    have : ∀ (xs : List α) (m r : List (κ × ν)), dcO p f xs m = some r → dcD g mt mx mv (wipeD env vs) (xs.map c) (m.map fun e => (ck e.1, cv e.2)) = some (r.map fun e => (ck e.1, cv e.2)) := fun xs => by
      induction xs with
      | nil => intro m r hy; cases hy; rfl
      | cons x xs ih =>
        intro m r hy
        rw [dcO] at hy
        obtain ⟨b, hb1, hy⟩ := bsome hy
        obtain ⟨e1, g1, g2⟩ := hb x _ h.wipe
        rw [List.map_cons, dcD, g1, Option.bind_some, ht x e1 g2 b hb1, Option.bind_some]
        cases b with
        | true =>
          rw [if_pos rfl] at hy
          obtain ⟨y, hy1, hy⟩ := bsome hy
          obtain ⟨q1, q2⟩ := he x e1 y g2 hy1
          rw [if_pos rfl, q1, Option.bind_some, hk, Option.bind_some, q2, Option.bind_some]
          show Option.bind (if _ then _ else _) _ = _
          rw [if_pos (CV.sc y.2), Option.bind_some, putK_cod]
          exact ih _ r hy
        | false =>
          rw [if_neg (by decide)] at hy
          rw [if_neg (by decide)]
          exact ih m r hy
    have := this xs [] x e
    rw [List.map_nil] at this
    rw [this]; rfl
  · cases e
end
end
end Ow

namespace Ow
open PySem L2 Ty
theorem le_nil : Le [] [] := trivial
theorem le_none {p : Option D} {P P' : Pat} (h : Le P P') : Le (p :: P) (none :: P') := h
theorem le_some {d : D} {P P' : Pat} (h : Le P P') : Le (some d :: P) (some d :: P') := ⟨rfl, h⟩
theorem fz_nil : frzD [] = [] := rfl
theorem fz_cons {α : Type} {c c' : α → D} [Fz c c'] {x : α} {ds ds' : List D} (h : frzD ds = ds') : frzD (c x :: ds) = c' x :: ds' := by rw [frzD, h, Fz.fz (c := c)]
theorem l_nil : ([] : List D) = [] := rfl
theorem l_cons {d d' : D} {ds ds' : List D} (h : d = d') (h2 : ds = ds') : d :: ds = d' :: ds' := by rw [h, h2]
theorem e_cI {env : Env} (i : Int) : mC (.int i) env = some (cI i) := rfl
theorem e_cB {env : Env} (i : Bool) : mC (.bl i) env = some (cB i) := rfl
theorem v_pure {α : Type} {env : Env} {m : PM} {o : Option α} {c : α → D} [Pu c] (h : EV m env o c) : EV (mPure m) env o c := fun x e => e_pureC (h x e)
theorem isi_of {d : D} {n T : String} {b : Bool} (h : tyN d = some n) (hk : kitB n T = some b) : isiD T d = some (.bl b) := by
  unfold isiD
  rw [h, Option.bind_some, hk]; rfl
section
variable {α β : Type} {env : Env} {P : Pat} {m mb : PM} {c : α → D} {K : β → O → Prop} {Q : β → Pat} {n : SM} {i : Nat}
theorem s_putRn {x x' : α} {y : D} {k : Int} {ds ds' : List D} {o : α → Option β} (hy : m env = some y) (hm : Mt P env) (e : P[i]? = some (some (c x))) (hk : mb env = some (cI k)) (hd : c x = .n (.lst .o) ds) (hd' : ((ixN ds.length k).map fun j => ds.set j y) = some ds') (hx : c x' = .n (.lst .o) ds') (h2 : ∀ z e, Mt (P.set i (some (c z))) e → ES n e (o z) K Q) : ES (sSeq (sPut i (plName i) mb (lift m)) n) env (lt x' o) K Q := s_putR hy hm e hk hd hd' hx (h2 x')
end


section
variable {α β γ τ σ ρ ζ : Type} {env : Env} {P : Pat} {m ma mb : PM} {c c' : α → D} {K : β → O → Prop} {Q : β → Pat} {n mS : SM} {me : EM} {i : Nat} {pm : Env → Option (List Nat)} {x : α} {cz : ζ → D}
theorem pick_steps (xs : List α) (lo hi : Option Int) (st : Int) (h : st ≠ 0) : pickG xs lo hi (some st) = (stepsOf xs.length lo hi st).filterMap fun i => xs[i]? := by
  unfold pickG
  congr 1
  unfold pickN stepsOf sliceRange sliceBounds bdS
  by_cases hp : 0 < st
  · cases lo <;> cases hi <;> simp [hp]
  · cases lo <;> cases hi <;> simp [hp]
theorem v_sl3 [Pu c] {o : Fl} {xs : List α} {lo hi st : Env → Option (Option Int)} {a b : Option Int} {z : Int} (h1 : m env = some (cL o c xs)) (h2 : lo env = some a) (h3 : hi env = some b) (h4 : st env = some (some z)) : EV (mSl3 m lo hi st) env (slS xs a b z) (cL .o c) := fun ys e => by
  unfold slS at e
  split at e
  · cases e
  · rename_i hz
    cases e
    unfold mSl3
    rw [h1, Option.bind_some, h2, Option.bind_some, h3, Option.bind_some, h4, Option.bind_some]
    unfold cL
    dsimp only
    rw [pickG_map, pick_steps _ _ _ _ hz, if_pos ⟨fun q => hz (Option.some.inj q), pureL_cod _⟩]
theorem ee_mk {k : Kd} {as : List As} {oa : Option γ} {ds : γ → List D} {Pa : γ → Pat} (ha : EA as env oa (fun a => (ds a, Pa a))) (hv : allEv as = true := by rfl) (hl : ∀ a, (ds a).length ≤ 16777216 := by exact fun _ => Nat.le_of_ble_eq_true rfl) : EE (eMk k as) env oa (fun a => (.n k (ds a), Pa a)) := fun a h => by
  obtain ⟨e1, h1, h2⟩ := ha a h
  refine ⟨e1, ?_, h2⟩
  unfold eMk
  rw [if_pos hv, h1, Option.bind_some, if_pos (hl a)]
theorem pM_of {f : FM} {ds ds' : List D} {d : D} (h : frzD ds = ds') (h2 : f ds' = some d) : pM f ds = some (d, []) := by
  unfold pM
  rw [h, h2]; rfl
theorem xor_one (i : Int) : Builtin.bitXor i 1 = i + 1 - 2 * (i % 2) := by
  rw [PyProof.Rows.bitXor_and, PyProof.Rows.bitAnd_m1]
theorem e_xorT {i : Int} (h1 : ma env = some (cI i)) (h2 : mb env = some (cI 1)) : mOp2 fXor ma mb env = some (cI (i + 1 - 2 * (i % 2))) := by
  exact e_op2 h1 h2 (by
    show some (V.int (Builtin.bitXor i 1)) = _
    rw [xor_one])
theorem ee_callP {f : FMu} {as : List As} {oa : Option τ} {ds : τ → List D} {Pa : τ → Pat} {is : τ → List D} {t : τ → Option ρ} {dr : ρ → D} (hm : Mt P env) (hs : ((muS as ++ boS as).all fun i => (P[i]?.join).isSome) = true) (ha : EA as env oa (fun a => (ds a, Pa a)))
    (hi : ∀ a, insA as (ds a) (Pa a) = some (is a, Pa a)) (hf : ∀ a r, t a = some r → f (is a) = some (dr r, [])) (hn : ∀ r, (dr r).noF = true) (hp : ∀ a, putA as [] (Pa a) = some (Pa a)) : EE (eCallM f as) env (oa.bind fun a => (t a).bind fun r => some (a, r)) (fun x => (dr x.2, Pa x.1)) := EE.bindE fun a h1 => EE.bindE fun r h2 => fun x hx => by
  cases hx
  obtain ⟨e1, h3, h4⟩ := ha a h1
  obtain ⟨e2, h5, h6⟩ := ins_mt h4 (hi a)
  obtain ⟨e3, h7, h8⟩ := put_mt h6 (hp a)
  refine ⟨e3, ?_, h8⟩
  unfold eCallM
  rw [all_mt hm hs, if_neg (fun z => by cases z), h3, Option.bind_some]
  dsimp only
  rw [h5, Option.bind_some]
  dsimp only
  rw [hf a r h2, Option.bind_some]
  dsimp only
  rw [if_pos (by rw [hn]; rfl), h7]; rfl
theorem s_forE {g : Tg} {mb : SM} [Fz c c'] {oa : Option τ} {xs : τ → List α} {fl : Fl} {Pa : τ → Pat} {o : τ → Option β} (hm : EE me env oa (fun a => (cL fl c (xs a), Pa a))) (h2 : ∀ a e, Mt (Pa a) e → ES (sSeq (sFor (fun _ => some ((xs a).map c')) g mb) n) e (o a) K Q) : ES (sSeq (sForE me g mb) n) env (oa.bind o) K Q := ES.bindE fun a ha => fun w hw => by
  obtain ⟨e1, h3, h4⟩ := hm a ha
  obtain ⟨fl2, e2, q1, q2⟩ := h2 a e1 h4 w hw
  refine ⟨fl2, e2, ?_, q2⟩
  have : sForE me g mb env = sFor (fun _ => some ((xs a).map c')) g mb e1 := by
    unfold sForE sFor
    rw [h3, Option.bind_some]
    dsimp only
    rw [cL, D.frz, frzL_cod]
    rfl
  unfold sSeq at q1 ⊢
  rw [this]; exact q1
theorem s_asgE {g : Tg} {oa : Option τ} {d : τ → D} {Pa Pb : τ → Pat} {o : τ → Option β} (hm : EE me env oa (fun a => (d a, Pa a))) (hb : ∀ a, BDt g (d a) (Pa a) (Pb a)) (h2 : ∀ a e, Mt (Pb a) e → ES n e (o a) K Q) : ES (sSeq (sAsgE g me) n) env (oa.bind o) K Q := ES.bindE fun a ha => fun w hw => by
  obtain ⟨e1, h3, h4⟩ := hm a ha
  obtain ⟨e2, h5, h6⟩ := hb a e1 h4
  obtain ⟨fl2, e3, q1, q2⟩ := h2 a e2 h6 w hw
  refine ⟨fl2, e3, ?_, q2⟩
  unfold sSeq sAsgE
  rw [h3, Option.bind_some, h5]; exact q1
end
section
variable {α β γ τ σ ρ ζ : Type} {env : Env} {P : Pat} {m ma mb : PM} {c c' : α → D} {K : β → O → Prop} {Q : β → Pat} {n mS : SM} {me m1 : EM} {i : Nat}
def ET1 (m : EM) (env : Env) (d : D) (P1 : Pat) : Prop := ∃ e, m env = some (d, e) ∧ Mt P1 e
theorem t1_move {d : D} (hm : Mt P env) (e : P[i]? = some (some d)) : ET1 (eMove i) env d (P.set i none) := ⟨_, by unfold eMove; rw [hm.join e]; rfl, hm.set⟩
theorem ee_cat {P1 : Pat} {fl fl2 : Fl} {xs : List α} {oy : Option (List α)} {mr : PM} (hl : ET1 m1 env (cL fl c xs) P1) (hr : ∀ e, Mt P1 e → EV mr e oy (cL fl2 c)) (hn : (nw fl && nw fl2) = true := by rfl) : EE (eCat m1 (lift mr)) env (oy.bind fun ys => cat xs ys) (fun z => (cL .o c z, P1)) := EE.bindE fun ys hy => fun z hz => by
  obtain ⟨e1, h1, h2⟩ := hl
  refine ⟨e1, ?_, h2⟩
  unfold cat at hz
  split at hz
  · rename_i hlen
    cases hz
    unfold eCat lift
    rw [h1, Option.bind_some]
    dsimp only
    rw [hr e1 h2 ys hy, Option.map_some, Option.bind_some]
    have : fCat (cL fl c xs) (cL fl2 c ys) = some ((xs ++ ys).map c) := by
      unfold fCat cL
      dsimp only
      rw [if_pos (by rw [hn]; simpa using hlen), List.map_append]
    dsimp only
    rw [this]; rfl
  · cases hz
theorem ea_evT {as : List As} {d : D} {ds : List D} {P1 P2 : Pat} (hm : ET1 me env d P1) (h : ∀ e, Mt P1 e → EA as e (some ()) (fun _ => (ds, P2))) : EA (.ev me :: as) env (some ()) (fun _ => (d :: ds, P2)) := fun x _ => by
  obtain ⟨e1, h1, h2⟩ := hm
  obtain ⟨e2, h3, h4⟩ := h e1 h2 () rfl
  exact ⟨e2, by unfold evA; rw [h1, Option.bind_some, h3]; rfl, h4⟩
theorem s_retU {w : β} {d : D} {P1 : Pat} (hm : EE me env (some ()) (fun _ => (d, P1))) (h : ∀ e, Mt P1 e → Mt (Q w) e) (hK : K w (.rt d)) : ES (sRet me) env (some w) K Q := fun x hx => by
  cases hx
  obtain ⟨e1, h3, h4⟩ := hm () rfl
  exact ⟨_, e1, by unfold sRet; rw [h3]; rfl, hK, h e1 h4⟩
theorem ee_tup2U {d1 d2 : D} {m2 : EM} {P1 P2 : Pat} (ha : ET1 m1 env d1 P1) (hb : ∀ e, Mt P1 e → ET1 m2 e d2 P2) : EE (eTup2 m1 m2) env (some ()) (fun _ => (.n .tup [d1, d2], P2)) := fun x _ => by
  obtain ⟨e1, h1, h2⟩ := ha
  obtain ⟨e2, h3, h4⟩ := hb e1 h2
  exact ⟨e2, by unfold eTup2; rw [h1, Option.bind_some, h3]; rfl, h4⟩
end
section
variable {α : Type}
def kk2 (y : α × α) : List α := [y.1, y.2]
def kk3 (y : α × α × α) : List α := [y.1, y.2.1, y.2.2]
def kk4 (y : α × α × α × α) : List α := [y.1, y.2.1, y.2.2.1, y.2.2.2]
def kk5 (y : α × α × α × α × α) : List α := [y.1, y.2.1, y.2.2.1, y.2.2.2.1, y.2.2.2.2]
def kk6 (y : α × α × α × α × α × α) : List α := [y.1, y.2.1, y.2.2.1, y.2.2.2.1, y.2.2.2.2.1, y.2.2.2.2.2]
end
end Ow

namespace Ow
open PySem L2 Ty
section
variable {κ ν : Type} [DecidableEq κ] {env : Env} {m : PM} {ck : κ → Key} {cv : ν → V} {o : Fl}
theorem e_lenD [CV cv] {kvs : List (κ × ν)} (h : m env = some (cD o ck cv kvs)) (hn : nw o = true := by rfl) : mCall fLenD (lCons m lNil) env = some (cI kvs.length) := e_call1 h (by rw [fLenD, dicP_cod hn, Option.map_some, List.length_map])
end
section
variable {env : Env} {ma mb : PM}
end
section
variable {β ζ ζ0 τ : Type} {env : Env} {P : Pat} {me : EM} {K : β → O → Prop} {Q : β → Pat} {n : SM} {i : Nat} {c0 : ζ0 → D} {cz : ζ → D} {xs0 : List ζ0}
end
section
variable {κ ν : Type} {ck : κ → Key} {cv : ν → V}
theorem frzD_sc : ∀ kvs : List (Key × V), frzD (kvs.map fun p => D.s p.2) = kvs.map fun p => D.s p.2
  | [] => rfl
  | v :: vs => by rw [List.map_cons, frzD, frzD_sc vs]; rfl
instance : Fz (cD .o ck cv) (cD .s ck cv) := ⟨fun x => by rw [cD, dicD, D.frz, frzD_sc]; rfl⟩
instance : Fz (cD .s ck cv) (cD .s ck cv) := ⟨fun x => by rw [cD, dicD, D.frz, frzD_sc]; rfl⟩
end
section
variable {κ ν : Type} [DecidableEq κ] {env : Env} {ma mb : PM} {ck : κ → Key} {cv : ν → V} {o : Fl} {dk : D}
theorem noFL_sc : ∀ kvs : List (Key × V), noFL (kvs.map fun p => D.s p.2) = true
  | [] => rfl
  | v :: vs => by rw [List.map_cons, noFL, noFL_sc vs]; rfl
instance : NoF (cD .o ck cv) := ⟨fun x => by rw [cD, dicD, D.noF, noFL_sc]; rfl⟩
end
end Ow

namespace Ty
def once (xs : List Int) : List Int := xs.foldl (fun l x => if x ∈ l then l else l ++ [x]) []
@[irreducible] def dist (xs : List Int) : Option Int := if xs.length < 4000 then some ((once xs).length : Int) else none
theorem dist_ok {xs : List Int} (h : xs.length < 4000) : dist xs = some ((once xs).length : Int) := by unfold dist; rw [if_pos h]
end Ty

namespace Ow
open PySem L2 Ty
end Ow

namespace Ow
open PySem L2 Ty
section
variable {ν : Type} {env : Env} {m : PM} {cv : ν → V} {o : Fl}
end
end Ow

namespace Ow
open PySem L2 Ty
section
variable {α β : Type} {env : Env} {P : Pat} {m : PM} {K : α → O → Prop} {Q : α → Pat} {n : SM} {o : Option α} {d : D}
theorem s_dropP (hm : m env = some d) (h : Mt P env) (h2 : ∀ e, Mt P e → ES n e o K Q) : ES (sSeq (sDrop (lift m)) n) env o K Q := fun x e => by
  obtain ⟨fl, e2, h8, h9⟩ := h2 env h x e
  exact ⟨fl, e2, by unfold sSeq sDrop lift; rw [hm]; exact h8, h9⟩
end
end Ow

namespace Ow
open PySem L2 Ty
section
variable {env : Env} {ma mb : PM} {o : Fl}
end
end Ow

namespace Ty
inductive Rx (α : Type) where
  | ok (a : α)
  | ex (n : String)
def bx {α β : Type} (o : Option (Rx α)) (f : α → Option β) (w : String → β) : Option β := o.bind fun r => match r with
  | .ok a => f a
  | .ex n => some (w n)
def okX {α : Type} (o : Option (Rx α)) : Option α := o.bind fun r => match r with
  | .ok a => some a
  | .ex _ => none
def mapX {α β : Type} (o : Option (Rx α)) (f : α → β) : Option (Rx β) := o.map fun r => match r with
  | .ok a => .ok (f a)
  | .ex n => .ex n
def tabS (R : List String) (d : String) (n : String) : Option Bool := if n ∈ R then some (n == d || d == "FloorError" || d == "ValueError") else none
def tryL {σ ρ : Type} (o : Option (Lp σ (Rx ρ))) (h : String → Option (Lp σ ρ)) : Option (Lp σ ρ) := o.bind fun r => match r with
  | .go s => some (.go s)
  | .br s => some (.go s)
  | .rt (.ok r) => some (.rt r)
  | .rt (.ex n) => h n
@[simp] theorem bx_ok {α β : Type} {a : α} {f : α → Option β} {w : String → β} : bx (some (.ok a)) f w = f a := rfl
@[simp] theorem bx_ex {α β : Type} {n : String} {f : α → Option β} {w : String → β} : bx (some (.ex n)) f w = some (w n) := rfl
@[simp] theorem okX_ok {α : Type} {a : α} : okX (some (.ok a)) = some a := rfl
@[simp] theorem mapX_ok {α β : Type} {a : α} {f : α → β} : mapX (some (.ok a)) f = some (.ok (f a)) := rfl
@[simp] theorem mapX_ex {α β : Type} {n : String} {f : α → β} : mapX (some (.ex n)) f = some (.ex n) := rfl
@[simp] theorem tryL_go {σ ρ : Type} {s : σ} {h : String → Option (Lp σ ρ)} : tryL (some (.go s)) h = some (.go s) := rfl
@[simp] theorem tryL_rt {σ ρ : Type} {r : ρ} {h : String → Option (Lp σ ρ)} : tryL (some (.rt (.ok r))) h = some (.rt r) := rfl
@[simp] theorem tryL_ex {σ ρ : Type} {n : String} {h : String → Option (Lp σ ρ)} : tryL (some (.rt (.ex n))) h = h n := rfl
def okT (xs : List Nat) : Bool := xs.all (decide <| · < 1114112)
def Txt := {xs : List Nat // okT xs = true}
instance : DecidableEq Txt := fun a b => if h : a.1 = b.1 then isTrue (Subtype.ext h) else isFalse fun q => h (congrArg (·.1) q)
end Ty
namespace Ty
def fb (xs : List Int) : Option Unit := if ∀ i ∈ xs, i.natAbs < 2 ^ 250 then some () else none
end Ty
namespace Ty
def b2i (b : Bool) : Int := if b = true then 1 else 0
@[simp] theorem b2i_t : b2i true = 1 := rfl
@[simp] theorem b2i_f : b2i false = 0 := rfl
end Ty

namespace Ow
open PySem L2 Ty
section
variable {α β γ σ ρ τ : Type}
def cX (c : α → D) : Rx α → D
  | .ok a => c a
  | .ex n => .s (.ty n)

def mkS (xs : List Nat) : Str := ⟨xs.toArray⟩
def cS (x : Txt) : D := .s (.str (mkS x.1))
instance : Pu cS := ⟨fun _ => rfl⟩
instance : NoF cS := ⟨fun _ => rfl⟩
instance : Fz cS cS := ⟨fun _ => rfl⟩
instance : Nx cS := ⟨fun _ => rfl⟩
def cW (s : Str) (c : α → D) : Option α → D
  | none => .s (.str s)
  | some a => c a
instance {s : Str} {c : α → D} [Pu c] : Pu (cW s c) := ⟨fun x => by cases x <;> first | rfl | exact Pu.pu (c := c) _⟩
instance {s : Str} {c : α → D} [NoF c] : NoF (cW s c) := ⟨fun x => by cases x <;> first | rfl | exact NoF.no (c := c) _⟩
instance {s : Str} {c c' : α → D} [Fz c c'] : Fz (cW s c) (cW s c') := ⟨fun x => by cases x <;> first | rfl | exact Fz.fz (c := c) _⟩
instance {κ ν : Type} {o : Fl} {ck : κ → Key} {cv : ν → V} : Nx (cD o ck cv) := ⟨fun _ => rfl⟩
instance {s : Str} {c : α → D} [Nx c] : Nx (cW s c) := ⟨fun x => by cases x <;> first | rfl | exact Nx.nx (c := c) _⟩
def pS (x : Txt) : PyData := .str (mkS x.1)
theorem mkS_inj {x y : List Nat} : mkS x = mkS y ↔ x = y := by
  constructor
  · intro h
    have h := congrArg (fun s : Str => s.cps.toList) h
    simpa [mkS] using h
  · intro h; rw [h]
instance : Pd pS := ⟨0, fun x => by
  have := x.2
  show PyData.strOk (mkS x.1) = true
  unfold PyData.strOk mkS
  simpa [okT] using this, fun _ => Nat.le_refl _, fun x y => by
  simp only [pS, PyData.eqv, beq_iff_eq, mkS_inj]
  exact ⟨fun h => Subtype.ext h, fun h => by rw [h]⟩⟩
instance : Dt cS pS := ⟨fun _ => rfl⟩
class StrOk (s : Str) : Prop where
  ok : PyData.strOk s = true
class Pn (p : α → PyData) : Prop where
  s1 : ∀ x s, PyData.eqv (p x) (.str s) = false
  s2 : ∀ x s, PyData.eqv (.str s) (p x) = false
  n1 : ∀ x, PyData.eqv (p x) .none = false
  n2 : ∀ x, PyData.eqv .none (p x) = false
instance {p : α → PyData} : Pn (pL p) := ⟨fun _ _ => by simp [pL, PyData.eqv], fun _ _ => by simp [pL, PyData.eqv], fun _ => by simp [pL, PyData.eqv], fun _ => by simp [pL, PyData.eqv]⟩
instance {p : α → List PyData} : Pn (pT p) := ⟨fun _ _ => by simp [pT, PyData.eqv], fun _ _ => by simp [pT, PyData.eqv], fun _ => by simp [pT, PyData.eqv], fun _ => by simp [pT, PyData.eqv]⟩
instance {p : α → List PyData} : Pn (pR p) := ⟨fun _ _ => by simp [pR, PyData.eqv], fun _ _ => by simp [pR, PyData.eqv], fun _ => by simp [pR, PyData.eqv], fun _ => by simp [pR, PyData.eqv]⟩
instance : Pn pI := ⟨fun _ _ => by simp [pI, PyData.eqv], fun _ _ => by simp [pI, PyData.eqv], fun _ => by simp [pI, PyData.eqv], fun _ => by simp [pI, PyData.eqv]⟩
instance : Pn pB := ⟨fun _ _ => by simp [pB, PyData.eqv], fun _ _ => by simp [pB, PyData.eqv], fun _ => by simp [pB, PyData.eqv], fun _ => by simp [pB, PyData.eqv]⟩
def pW (s : Str) (p : α → PyData) : Option α → PyData
  | none => .str s
  | some a => p a
def pO (p : α → PyData) : Option α → PyData
  | none => .none
  | some a => p a
instance {s : Str} {p : α → PyData} [Pd p] [Pn p] [StrOk s] : Pd (pW s p) := ⟨Pd.dep p, fun x => by
  cases x with
  | none => exact StrOk.ok
  | some a => exact Pd.can (p := p) a, fun x => by
  cases x with
  | none => exact Nat.zero_le _
  | some a => exact Pd.deep (p := p) a, fun x y => by
  cases x <;> cases y <;> simp [pW, Pn.s1, Pn.s2, Pd.inj, PyData.eqv]⟩
instance {p : α → PyData} [Pd p] [Pn p] : Pd (pO p) := ⟨Pd.dep p, fun x => by
  cases x with
  | none => rfl
  | some a => exact Pd.can (p := p) a, fun x => by
  cases x with
  | none => exact Nat.zero_le _
  | some a => exact Pd.deep (p := p) a, fun x y => by
  cases x <;> cases y <;> simp [pO, Pn.n1, Pn.n2, Pd.inj, PyData.eqv]⟩
instance {s : Str} {c : α → D} {p : α → PyData} [Dt c p] : Dt (cW s c) (pW s p) := ⟨fun x => by cases x <;> first | rfl | exact Dt.dt (c := c) _⟩
instance {c : α → D} {p : α → PyData} [Dt c p] : Dt (cO c) (pO p) := ⟨fun x => by cases x <;> first | rfl | exact Dt.dt (c := c) _⟩


variable {env : Env} {P : Pat} {K : β → O → Prop} {Q : β → Pat} {n mS mb : SM} {me : EM} {m : PM} {ml : LM} {c : α → D} {o : Option β}

variable {cr : ρ → D} {Pl : σ → Pat} {Pr : ρ → Pat} {ol o1 o2 : Option (Lp σ ρ)}
end
end Ow
namespace Ow
open PySem L2 Ty
section
variable {β : Type} {env : Env} {K : β → O → Prop} {Q : β → Pat}
def FJ (env : Env) : List Fp → List Int → Prop
  | [], [] => True
  | .c x :: ms, is => x.length ≤ 1000 ∧ FJ env ms is
  | .v m :: ms, i :: is => m env = some (cI i) ∧ FJ env ms is
  | _, _ => False
def tbQ {σ ρ : Type} (Pl : σ → Pat) (Pr : ρ → Pat) (Px : Pat) : Lp σ (Rx ρ) → Pat
  | .go s => Pl s
  | .br s => Pl s
  | .rt (.ok r) => Pr r
  | .rt (.ex _) => Px
end
end Ow
namespace Ow
open PySem L2 Ty
section
variable {α β : Type} {env : Env} {m : PM} {ml : LM}
end
end Ow
namespace Ow
open PySem L2 Ty
section
variable {β : Type} {env : Env} {P : Pat} {K : β → O → Prop} {Q : β → Pat} {n : SM} {m : PM} {o : Option β}
end
end Ow
namespace Ow
open PySem L2 Ty
end Ow
namespace Ow
open PySem L2 Ty
end Ow
namespace Ow
open PySem L2 Ty
end Ow

namespace Ty
variable {α β : Type}
def lcqO (p : α → Option Bool) (b : α → Option (List β)) : List α → Option (List β)
  | [] => some []
  | x :: xs => (p x).bind fun q => if q = true then (b x).bind fun r => (lcqO p b xs).map (r ++ ·) else lcqO p b xs
@[irreducible] def lcq (xs : List α) (p : α → Option Bool) (b : α → Option (List β)) : Option (List β) := (lcqO p b xs).bind fun rs => if rs.length ≤ 16777216 then some rs else none
section
variable {σ : Type}
def lceO (p : σ → α → Option Bool) (f : σ → α → Option (β × σ)) : List α → σ → Option (List β × σ)
  | [], s => some ([], s)
  | x :: xs, s => (p s x).bind fun b => if b = true then (f s x).bind fun r => (lceO p f xs r.2).map fun y => (r.1 :: y.1, y.2) else lceO p f xs s
@[irreducible] def lce (xs : List α) (s : σ) (p : σ → α → Option Bool) (f : σ → α → Option (β × σ)) : Option (List β × σ) := if xs.length ≤ 16777216 then lceO p f xs s else none
end
section
variable {σ ρ : Type}
def forWR : List α → σ → (σ → α → Option (Lp (σ × α) (ρ × α))) → Option (Lp (σ × List α) (ρ × List α))
  | [], s, _ => some (.go (s, []))
  | x :: xs, s, f => (f s x).bind fun r => match r with
    | .go q => (forWR xs q.1 f).map fun z => match z with
      | .go p => .go (p.1, q.2 :: p.2)
      | .br p => .br (p.1, q.2 :: p.2)
      | .rt p => .rt (p.1, q.2 :: p.2)
    | .br q => some (.go (q.1, q.2 :: xs))
    | .rt q => some (.rt (q.1, q.2 :: xs))
end
def tx (xs : List Nat) (h : okT xs = true := by rfl) : Txt := ⟨xs, h⟩
end Ty

namespace Ow
open PySem L2 Ty
section
variable {α β γ σ ρ : Type} {env : Env} {P P1 P2 : Pat} {ma mb m : PM} {mt mu : BM} {ml mi : LM} {c c' : α → D} {d : D} {v : V}

def cQ (c : α → D) (xs : List α) : D := .n .ktp (xs.map c)
instance [Pu c] : Pu (cQ c) := ⟨fun xs => by rw [cQ, D.pure, pureL_cod]; rfl⟩
instance [NoF c] : NoF (cQ c) := ⟨fun xs => by rw [cQ, D.noF, noFL_cod]; rfl⟩
instance [Fz c c'] : Fz (cQ c) (cQ c') := ⟨fun xs => by rw [cQ, D.frz, frzL_cod]; rfl⟩
end
end Ow

set_option maxHeartbeats 1000000

namespace Ow
open PySem L2 PySem.Spec PyProof.Rows
section
variable {prog : Program} {w : World} {A : Around} {E : Value → Shared → Prop} {s : Shared}
end
def IteT (K : PySem.W.Frag) (a : Addr) : It :=
  ⟨fun i H => ∃ (xs : List V) (x : V), SqT K H a xs ∧ xs[i]? = some x, fun i H v H' => ∃ T x, v = .ref T ∧ H T = none ∧ H' = upd H T (.tup [.int (i : Nat), x]) ∧ ∀ xs, SqT K H a xs → xs[i]? = some x, fun i H => ∃ xs : List V, SqT K H a xs ∧ xs.length ≤ i⟩
def iEnumT (K : PySem.W.Frag) (ta : TA) : TI := fun σ H R => ta σ H fun vs H1 => ∃ a xs, vs = [.ref a] ∧ SqT K H1 a xs ∧ R (IteT K a) H1
section
variable {K : PySem.W.Frag}
end
section
variable {X : Cx} {a : Expr} {ma : PM} {pos p tpos : Pos}
@[simp] def wET (m : PM) : LM := fun env => (m env).bind fun x => (asT x).map (enD 0)
end

def ItzTL (K : PySem.W.Frag) (a b : Addr) : It :=
  ⟨fun i H => ∃ (xs ys : List V) (x y : V), SqT K H a xs ∧ SqL K H b ys ∧ xs[i]? = some x ∧ ys[i]? = some y,
    fun i H v H' => ∃ T x y, v = .ref T ∧ H T = none ∧ H' = upd H T (.tup [x, y]) ∧ (∀ xs, SqT K H a xs → xs[i]? = some x) ∧ ∀ ys, SqL K H b ys → ys[i]? = some y,
    fun i H => ∃ xs ys : List V, SqT K H a xs ∧ SqL K H b ys ∧ min xs.length ys.length ≤ i⟩
def iZipTL (K : PySem.W.Frag) (ta : TA) : TI := fun σ H R => ta σ H fun vs H1 => ∃ a b xs ys, vs = [.ref a, .ref b] ∧ SqT K H1 a xs ∧ SqL K H1 b ys ∧ R (ItzTL K a b) H1
section
variable {K : PySem.W.Frag}
end
section
variable {X : Cx} {a b : Expr} {ma mb : PM} {pos p tpos : Pos}
@[simp] def wZTL (m n : PM) : LM := fun env => (m env).bind fun x => (n env).bind fun y => (asT x).bind fun ds => (asL y).map fun es => List.zipWith (fun x y => D.n .tup [x, y]) ds es
end

section
variable {X : Cx} {o e : Expr} {ma mb : PM} {apos cpos : Pos}
def rIndexT (K : PySem.W.Frag) : V → List V → Hp → VK → Prop := fun x xs H Q => ∃ (a : Addr) (ns : List Int) (i : Int), x = V.ref a ∧ xs = [.int i] ∧ SqT K H a (ns.map V.int) ∧ i ∈ ns ∧ Q (.int (ns.idxOf i : Nat)) H
def fIdxT : D → D → Option V
  | .n .ktp ds, .s (.int i) => (intsD ds).bind fun ns => if i ∈ ns then some (.int (ns.idxOf i : Nat)) else none
  | _, _ => none
def mIdxT (ma mb : PM) : PM := fun env => (ma env).bind fun x => (mb env).bind fun y => (fIdxT x y).bind sv
end
section
open Ty
end
section
open Ty
end
end Ow
namespace Ow
open PySem L2 Ty
section
variable {α β ρ σ : Type} {env : Env} {P : Pat} {c : α → D} {i : Nat}
end
end Ow

set_option maxHeartbeats 1000000

namespace Ow
open PySem L2
def mDinV (mx my : PM) : PM := fun env => (mDin mx my env).map fun b => .s (.bl b)
def mDninV (mx my : PM) : PM := fun env => (mDnin mx my env).map fun b => .s (.bl b)
section
variable {X : Cx} {k : Nat} {i o : Expr} {mx my : PM} {pos : Pos}
end
section
open Ty
end
end Ow

namespace Ow
open PySem L2 Ty
section
variable {α β γ σ τ ρ : Type} {env : Env} {P P1 P2 : Pat} {ma mb m : PM} {mt mu : BM} {ml : LM} {mi : IM} {me m1 m2 : EM} {c c' : α → D} {d : D}


def EEL (m : IM) (env : Env) (o : Option α) (k : α → List D × Pat) : Prop := ∀ x, o = some x → ∃ e, m env = some ((k x).1, e) ∧ Mt (k x).2 e



theorem ee_callQ {f : FMu} {as : List As} {oa : Option τ} {ds : τ → List D} {Pa : τ → Pat} {is : τ → List D} {Pi : τ → Pat} {t : τ → Option ρ} {dr : ρ → D} {os : ρ → List D} {Pf : τ → ρ → Pat} (hm : Mt P env) (hs : ((muS as ++ boS as).all fun i => (P[i]?.join).isSome) = true) (ha : EA as env oa (fun a => (ds a, Pa a)))
    (hi : ∀ a, insA as (ds a) (Pa a) = some (is a, Pi a)) (hf : ∀ a r, t a = some r → f (is a) = some (dr r, os r)) (hn : ∀ r, ((dr r).noF && noFL (os r)) = true) (hp : ∀ a r, putA as (os r) (Pi a) = some (Pf a r)) : EE (eCallM f as) env (oa.bind fun a => (t a).bind fun r => some (a, r)) (fun x => (dr x.2, Pf x.1 x.2)) := EE.bindE fun a h1 => EE.bindE fun r h2 => fun x hx => by
  cases hx
  obtain ⟨e1, h3, h4⟩ := ha a h1
  obtain ⟨e2, h5, h6⟩ := ins_mt h4 (hi a)
  obtain ⟨e3, h7, h8⟩ := put_mt h6 (hp a r)
  refine ⟨e3, ?_, h8⟩
  unfold eCallM
  rw [all_mt hm hs, if_neg (fun z => by cases z), h3, Option.bind_some]
  dsimp only
  rw [h5, Option.bind_some]
  dsimp only
  rw [hf a r h2, Option.bind_some]
  dsimp only
  rw [if_pos (hn r), h7]; rfl

theorem s_forWR {i j : Nat} {mb : SM} {xs : List α} {s0 : σ} {f : σ → α → Option (Lp (σ × α) (ρ × α))} {cr : ρ → D} {Pl : σ → Pat} {Pr : ρ → Pat} (hm : Mt P env) (e : P[i]? = some (some (cL .o c xs))) (h : ∀ e, Mt (P.set i none) e → Mt (Pl s0) e)
    (hs : ∀ s x e, Mt ((Pl s).set j (some (c x))) e → ES mb e (f s x) (lpB (fun r : ρ × α => cr r.1)) (lpQ (fun r : σ × α => (Pl r.1).set j (some (c r.2))) (fun r : ρ × α => (Pr r.1).set j (some (c r.2))))) (hj : ∀ s, j < (Pl s).length) (hn : ∀ s, (Pl s).set j none = Pl s) (hj2 : ∀ s, j < (Pr s).length) (hn2 : ∀ s, (Pr s).set j none = Pr s) :
    ES (sForR i j mb) env (forWR xs s0 f) (lpD (fun r : ρ × List α => cr r.1)) (lpQ (fun r : σ × List α => (Pl r.1).set i (some (cL .o c r.2))) (fun r : ρ × List α => (Pr r.1).set i (some (cL .o c r.2)))) := fun r hr => by
  have key : ∀ (xs : List α) (s0 : σ) (env : Env) (done : List D) (r : Lp (σ × List α) (ρ × List α)), Mt (Pl s0) env → forWR xs s0 f = some r → ∃ o l e, forRD j mb done (xs.map c) env = some (o, l, e) ∧
      (match r with | .go q => o = .nx ∧ l = done ++ q.2.map c ∧ Mt (Pl q.1) e | .br q => False | .rt q => o = .rt (cr q.1) ∧ l = done ++ q.2.map c ∧ Mt (Pr q.1) e) := fun xs => by
    induction xs with
    | nil =>
      intro s0 env done r h hr
      cases hr
      exact ⟨.nx, done, env, by rw [List.map_nil, forRD], rfl, by simp, h⟩
    | cons x xs ih =>
      intro s0 env done r h hr
      rw [forWR] at hr
      obtain ⟨r1, h1, hr⟩ := bsome hr
      obtain ⟨fl, e1, g1, g2, g3⟩ := hs s0 x (env.set j (some (c x))) h.set r1 h1
      rw [List.map_cons, forRD, g1, Option.bind_some]
      cases r1 with
      | go q =>
        have g3 : Mt ((Pl q.1).set j (some (c q.2))) e1 := g3
        have g4 : e1[j]?.join = some (c q.2) := g3.join (by rw [List.getElem?_set, if_pos rfl, if_pos (hj q.1)])
        have g6 : Mt (Pl q.1) (e1.set j none) := by
          have := g3.set (i := j) (o := none)
          rw [List.set_set, hn] at this
          exact this
        dsimp only at hr
        obtain ⟨z, hz, e2⟩ := map_some hr
        obtain ⟨o, l, e3, g7, g8⟩ := ih q.1 (e1.set j none) (done ++ [c q.2]) z g6 hz
        refine ⟨o, l, e3, ?_, ?_⟩
        · rcases g2 with rfl | rfl
          · dsimp only
            rw [g4, Option.bind_some, g7]
          · dsimp only
            rw [g4, Option.bind_some, g7]
        · subst e2
          cases z with
          | go p => exact ⟨g8.1, by rw [g8.2.1]; simp, g8.2.2⟩
          | br p => exact g8.elim
          | rt p => exact ⟨g8.1, by rw [g8.2.1]; simp, g8.2.2⟩
      | br q =>
        have g2 : fl = .bk := g2
        subst g2
        have g3 : Mt ((Pl q.1).set j (some (c q.2))) e1 := g3
        have g4 : e1[j]?.join = some (c q.2) := g3.join (by rw [List.getElem?_set, if_pos rfl, if_pos (hj q.1)])
        have g6 : Mt (Pl q.1) (e1.set j none) := by
          have := g3.set (i := j) (o := none)
          rw [List.set_set, hn] at this
          exact this
        cases hr
        refine ⟨.nx, _, _, by dsimp only; rw [g4, Option.bind_some], rfl, by simp, g6⟩
      | rt q =>
        have g2 : fl = .rt (cr q.1) := g2
        subst g2
        have g3 : Mt ((Pr q.1).set j (some (c q.2))) e1 := g3
        have g4 : e1[j]?.join = some (c q.2) := g3.join (by rw [List.getElem?_set, if_pos rfl, if_pos (hj2 q.1)])
        have g6 : Mt (Pr q.1) (e1.set j none) := by
          have := g3.set (i := j) (o := none)
          rw [List.set_set, hn2] at this
          exact this
        cases hr
        refine ⟨.rt (cr q.1), _, _, by dsimp only; rw [g4, Option.bind_some], rfl, by simp, g6⟩
  obtain ⟨o, l, e1, g1, g2⟩ := key xs s0 (env.set i none) [] r (h _ hm.set) hr
  have run : sForR i j mb env = some (o, e1.set i (some (.n (.lst .o) l))) := by
    unfold sForR
    rw [hm.join e, Option.bind_some]
    show Option.map _ (forRD j mb [] (xs.map c) (env.set i none)) = _
    rw [g1]; rfl
  cases r with
  | go q =>
    obtain ⟨rfl, rfl, g3⟩ := g2
    exact ⟨.nx, _, run, rfl, by rw [List.nil_append]; exact g3.set⟩
  | br q => exact g2.elim
  | rt q =>
    obtain ⟨rfl, rfl, g3⟩ := g2
    exact ⟨.rt (cr q.1), _, run, rfl, by rw [List.nil_append]; exact g3.set⟩

theorem pure_mt {is : List Nat} (h : Mt P env) (hp : (is.all fun i => (P[i]?.join).any D.pure) = true) : (is.all fun i => (env[i]?.join).any D.pure) = true := by
  rw [List.all_eq_true] at hp ⊢
  intro i hi
  have := hp i hi
  cases e : P[i]?.join with
  | none => rw [e] at this; cases this
  | some d =>
    rw [e] at this
    have e2 : P[i]? = some (some d) := by
      cases q : P[i]? with
      | none => rw [q] at e; cases e
      | some z => rw [q] at e; simp at e; rw [e]
    rw [h.join e2]
    exact this
theorem ee_callN {f : FMu} {as : List As} {oa : Option τ} {ds : τ → List D} {Pa : τ → Pat} {is : τ → List D} {Pi : τ → Pat} {t : τ → Option ρ} {dr : ρ → D} {os : ρ → List D} {Pf : ρ → Pat} (hm : Mt P env) (hs : ((muS as ++ boS as).all fun i => (P[i]?.join).isSome) = true) (ha : EA as env oa (fun a => (ds a, Pa a)))
    (hi : ∀ a, insA as (ds a) (Pa a) = some (is a, Pi a)) (hf : ∀ a r, t a = some r → f (is a) = some (dr r, os r)) (hn : ∀ a, ((boS as).all fun i => ((Pa a)[i]?.join).any D.pure) = true) (hp : ∀ a r, putA as (os r) (Pi a) = some (Pf r)) : EE (eCallN f as) env (oa.bind t) (fun r => (dr r, Pf r)) := EE.bindE fun a h1 => fun r h2 => by
  obtain ⟨e1, h3, h4⟩ := ha a h1
  obtain ⟨e2, h5, h6⟩ := ins_mt h4 (hi a)
  obtain ⟨e3, h7, h8⟩ := put_mt h6 (hp a r)
  refine ⟨e3, ?_, h8⟩
  unfold eCallN
  rw [all_mt hm hs, if_neg (fun z => by cases z), h3, Option.bind_some]
  dsimp only
  rw [h5, Option.bind_some]
  dsimp only
  rw [hf a r h2, Option.bind_some]
  dsimp only
  rw [if_pos (pure_mt h4 (hn a)), h7]; rfl
theorem ee_callN0 {f : FMu} {as : List As} {ds : List D} {is : List D} {Pi : Pat} {t : Option ρ} {dr : ρ → D} {os : ρ → List D} {Pf : ρ → Pat} (hm : Mt P env) (hs : ((muS as ++ boS as).all fun i => (P[i]?.join).isSome) = true) (ha : EA as env (some ()) (fun _ => (ds, P)))
    (hi : insA as ds P = some (is, Pi)) (hf : ∀ r, t = some r → f is = some (dr r, os r)) (hn : ((boS as).all fun i => (P[i]?.join).any D.pure) = true) (hp : ∀ r, putA as (os r) Pi = some (Pf r)) : EE (eCallN f as) env t (fun r => (dr r, Pf r)) :=
  ee_callN (t := fun _ : Unit => t) (ds := fun _ => ds) (Pa := fun _ => P) (is := fun _ => is) (Pi := fun _ => Pi) hm hs ha (fun _ => hi) (fun _ => hf) (fun _ => hn) (fun _ => hp)
end
end Ow

set_option maxHeartbeats 1000000

namespace Ow
open PySem L2
def setT : List Nat → T → T → T
  | [], _, v => v
  | j :: p, t, v => match t.kids[j]? with
    | some u => rek t (t.kids.set j (setT p u v))
    | none => t
def setD : List Nat → D → D → D
  | [], _, v => v
  | j :: p, .n k ds, v => match ds[j]? with
    | some x => .n k (ds.set j (setD p x v))
    | none => .n k ds
  | _ :: _, .s x, _ => .s x
section
variable {K : PySem.W.Frag} {H : Hp}
theorem atT_cons {j : Nat} {p : List Nat} {t u : T} (h : atT (j :: p) t = some u) : ∃ c, t.kids[j]? = some c ∧ atT p c = some u := by
  rw [atT] at h
  exact bind_some h
theorem setT_cons {j : Nat} {p : List Nat} {t c v : T} (h : t.kids[j]? = some c) : setT (j :: p) t v = rek t (t.kids.set j (setT p c v)) := by
  rw [setT, h]
theorem setT_val : ∀ {p : List Nat} {t u v : T}, atT p t = some u → v.val = u.val → (setT p t v).val = t.val
  | [], t, u, v, h, e => by
    rw [atT] at h
    cases h
    exact e
  | j :: p, t, u, v, h, e => by
    obtain ⟨c, h1, h2⟩ := atT_cons h
    rw [setT_cons h1, rek_val]
theorem rek_kids {t c : T} {j : Nat} (h : t.kids[j]? = some c) (ts : List T) : (rek t ts).kids = ts := by
  cases t with
  | s v => simp [T.kids] at h
  | n k a us => rfl
  | w z k a us => rfl
theorem setT_co {b : Addr} : ∀ {p : List Nat} {t u v : T}, atT p t = some u → (setT p t v).co b + u.co b = t.co b + v.co b
  | [], t, u, v, h => by
    rw [atT] at h
    cases h
    rw [setT]; omega
  | j :: p, t, u, v, h => by
    obtain ⟨c, h1, h2⟩ := atT_cons h
    have ih := setT_co (b := b) (v := v) h2
    have q := coL_set (b := b) (v := setT p c v) h1
    rw [setT_cons h1]
    cases t with
    | s v => simp [T.kids] at h1
    | n k a us => rw [rek, T.co, T.co]; rw [T.kids] at q ⊢; omega
    | w z k a us => rw [rek, T.co, T.co]; rw [T.kids] at q ⊢; omega
theorem setT_cu {b : Addr} : ∀ {p : List Nat} {t u v : T}, atT p t = some u → (setT p t v).cu b + u.cu b = t.cu b + v.cu b
  | [], t, u, v, h => by
    rw [atT] at h
    cases h
    rw [setT]; omega
  | j :: p, t, u, v, h => by
    obtain ⟨c, h1, h2⟩ := atT_cons h
    have ih := setT_cu (b := b) (v := v) h2
    have q := cuL_set (b := b) (v := setT p c v) h1
    rw [setT_cons h1]
    cases t with
    | s v => simp [T.kids] at h1
    | n k a us => rw [rek, T.cu, T.cu]; rw [T.kids] at q ⊢; omega
    | w z k a us => rw [rek, T.cu, T.cu]; rw [T.kids] at q ⊢; omega
theorem satL_put {ts : List T} {j : Nat} {v : T} (s : satL K H ts) (hv : v.sat K H) : satL K H (ts.set j v) := by
  rw [satL_iff] at s ⊢
  intro t ht
  rcases List.mem_or_eq_of_mem_set ht with q | q
  · exact s t q
  · rw [q]; exact hv
theorem setT_sat : ∀ {p : List Nat} {t u v : T}, atT p t = some u → v.val = u.val → t.sat K H → v.sat K H → (setT p t v).sat K H
  | [], t, u, v, h, e, s, sv => sv
  | j :: p, t, u, v, h, e, s, sv => by
    obtain ⟨c, h1, h2⟩ := atT_cons h
    have sk := kids_sat s
    have ih := setT_sat h2 e (sat_at sk h1) sv
    have ev := vals_set h1 (setT_val h2 e)
    rw [setT_cons h1]
    cases t with
    | s v => simp [T.kids] at h1
    | n k a us =>
      rw [T.kids] at ev sk ⊢
      refine ⟨?_, satL_put sk ih⟩
      rw [ev]; exact s.1
    | w z k a us =>
      rw [T.kids] at ev sk ⊢
      refine ⟨?_, satL_put sk ih⟩
      rw [ev]; exact s.1
theorem setT_er : ∀ {p : List Nat} {t v : T}, (setT p t v).er = setD p t.er v.er
  | [], t, v => rfl
  | j :: p, t, v => by
    cases h : t.kids[j]? with
    | none =>
      have hk := kids_er t
      rw [setT, h]
      cases t with
      | s x => rfl
      | n k a us =>
        rw [T.er, setD]
        have : (erL us)[j]? = none := by rw [erL_map, List.getElem?_map]; rw [T.kids] at h; rw [h]; rfl
        rw [this]
      | w z k a us =>
        rw [T.er, setD]
        have : (erL us)[j]? = none := by rw [erL_map, List.getElem?_map]; rw [T.kids] at h; rw [h]; rfl
        rw [this]
    | some c =>
      rw [setT_cons h]
      have ih := setT_er (p := p) (t := c) (v := v)
      cases t with
      | s x => simp [T.kids] at h
      | n k a us =>
        rw [T.kids] at h ⊢
        have e : (erL us)[j]? = some c.er := by rw [erL_map, List.getElem?_map, h]; rfl
        rw [rek, T.er, T.er, setD, e, erL_set, ih]
      | w z k a us =>
        rw [T.kids] at h ⊢
        have e : (erL us)[j]? = some c.er := by rw [erL_map, List.getElem?_map, h]; rfl
        rw [rek, T.er, T.er, setD, e, erL_set, ih]
theorem atT_set : ∀ {p : List Nat} {t u v : T}, atT p t = some u → atT p (setT p t v) = some v
  | [], t, u, v, h => rfl
  | j :: p, t, u, v, h => by
    obtain ⟨c, h1, h2⟩ := atT_cons h
    rw [setT_cons h1, atT, rek_kids h1, List.getElem?_set_self (List.getElem?_eq_some_iff.mp h1).1, Option.bind_some]
    exact atT_set h2
theorem setT_set : ∀ {p : List Nat} {t u v w : T}, atT p t = some u → setT p (setT p t v) w = setT p t w
  | [], t, u, v, w, h => rfl
  | j :: p, t, u, v, w, h => by
    obtain ⟨c, h1, h2⟩ := atT_cons h
    have hl := (List.getElem?_eq_some_iff.mp h1).1
    have e : (setT (j :: p) t v).kids[j]? = some (setT p c v) := by rw [setT_cons h1, rek_kids h1, List.getElem?_set_self hl]
    rw [setT_cons e, setT_set h2, setT_cons h1, setT_cons h1, rek_kids h1, List.set_set]
    cases t with
    | s x => simp [T.kids] at h1
    | n k a us => rfl
    | w z k a us => rfl
end
@[simp] def sAlias (i j : Nat) (pm : Env → Option (List Nat)) (mb : SM) : SM := fun env => (pm env).bind fun p => (env[i]?.join).bind fun d => (atD p d).bind fun u => (mb ((env.set i none).set j (some u))).bind fun x => match x.1 with
  | .nx => (x.2[j]?.join).bind fun u' => some (.nx, (x.2.set j none).set i (some (setD p d u')))
  | _ => none
section
variable {X : Cx} {P : List Nat} {mb nS : SM} {a : Expr} {b1 : Stmt} {rest : List Stmt} {pm : Env → Option (List Nat)}
end
end Ow

set_option maxHeartbeats 1000000
namespace Ow
open PySem L2 Ty
section
variable {X : Cx} {P : List Nat} {mb nS : SM} {a : Expr} {b1 : Stmt} {rest : List Stmt} {pm : Env → Option (List Nat)}
end

section
variable {α β γ σ ρ ζ τ κ : Type} {env : Env} {P P1 P2 : Pat} {mb m : PM} {c : α → D} {cz : ζ → D} {cj : κ → D}
variable {K : β → O → Prop} {Q : β → Pat} {n mS : SM} {i : Nat} {pm : Env → Option (List Nat)} {x : α} {up : ζ → α}
theorem setD_app : ∀ {p q : List Nat} {d e v : D}, atD p d = some e → setD (p ++ q) d v = setD p d (setD q e v)
  | [], q, d, e, v, h => by cases h; rfl
  | j :: p, q, d, e, v, h => by
    rw [atD] at h
    obtain ⟨u, h1, h2⟩ := bind_some h
    cases d with
    | s x => simp [D.kids] at h1
    | n k ds =>
      have h1' : ds[j]? = some u := h1
      show setD (j :: (p ++ q)) _ _ = _
      rw [setD, setD, h1']
      dsimp only
      rw [setD_app h2]
structure PLt (pm : Env → Option (List Nat)) (env : Env) (i : Nat) (x : α) (c : α → D) (z : ζ) (cz : ζ → D) (up : ζ → α) : Prop where
  ex : ∃ p, pm env = some p ∧ atD p (c x) = some (cz z) ∧ (∀ z', setD p (c x) (cz z') = c (up z')) ∧ ∀ (q : List Nat) (F : List D → Option (List D)) (z' : ζ), modD q F (cz z) = some (cz z') → modD (p ++ q) F (c x) = some (c (up z'))
  sl : env[i]?.join = some (c x)
theorem plt_name (h : Mt P env) (e : P[i]? = some (some (c x))) : PLt (plName i) env i x c x c id :=
  ⟨⟨[], by unfold plName; rw [h.join e]; rfl, rfl, fun z' => rfl, fun q F z' h => h⟩, h.join e⟩
theorem PLt.s {z : ζ} (h : PLt pm env i x c z cz up) : PLs pm env i x c z cz up := by
  obtain ⟨⟨p, h1, h2, h3, h4⟩, hs⟩ := h
  refine ⟨⟨p, h1, h2, fun F ds ds' z' g1 g2 g3 => ?_⟩, hs⟩
  have := h4 [] F z' (by rw [g1, modD, g2, g3]; rfl)
  rw [List.append_nil] at this
  exact this
theorem plt_any {k : Int} {j : Nat} {z : ζ} {zj : κ} {upj : κ → ζ} {kd : Kd} {ds : List D} (hkd : kd = .tup ∨ kd = .lst .o) (h : PLt pm env i x c z cz up) (hk : mb env = some (cI k)) (hz : cz z = .n kd ds) (hj : ixN ds.length k = some j) (hd : ds[j]? = some (cj zj)) (hu : ∀ y, D.n kd (ds.set j (cj y)) = cz (upj y)) :
    PLt (plItem i pm mb) env i x c zj cj fun y => up (upj y) := by
  obtain ⟨⟨p, h1, h2, h3, h4⟩, hs⟩ := h
  have ha : atD [j] (cz z) = some (cj zj) := by rw [hz, atD]; show Option.bind ds[j]? _ = _; rw [hd]; rfl
  refine ⟨⟨p ++ [j], ?_, atD_sn p j _ _ _ h2 (by rw [hz]; exact hd), fun y => ?_, fun q F y hm => ?_⟩, hs⟩
  · unfold plItem
    rw [h1, Option.bind_some, hk, Option.bind_some]
    show Option.bind (some k) _ = _
    rw [Option.bind_some, hs, Option.bind_some, h2, Option.bind_some, hz]
    rcases hkd with rfl | rfl <;> (dsimp only; rw [hj]; rfl)
  · rw [setD_app h2, hz, setD, hd]
    dsimp only
    rw [setD, hu, h3]
  · rw [List.append_assoc]
    refine h4 ([j] ++ q) F (upj y) ?_
    rw [hz, ← hu]
    rcases hkd with rfl | rfl <;> (show modD (j :: q) F _ = _; rw [modD, hd, Option.bind_some, hm]; rfl)
theorem plt_tup {k : Int} {j : Nat} {z : ζ} {zj : κ} {upj : κ → ζ} {ds : List D} (h : PLt pm env i x c z cz up) (hk : mb env = some (cI k)) (hz : cz z = .n .tup ds) (hj : ixN ds.length k = some j) (hd : ds[j]? = some (cj zj)) (hu : ∀ y, D.n .tup (ds.set j (cj y)) = cz (upj y)) :
    PLt (plItem i pm mb) env i x c zj cj fun y => up (upj y) := plt_any (.inl rfl) h hk hz hj hd hu
end
end Ow
namespace Ow
open PySem L2 Ty
def sFrz (i : Nat) (m : SM) : SM := fun env => m (frzAt i env)
section
variable {X : Cx} {P : List Nat} {mS : SM} {rest : List Stmt}
theorem sss_frzN (i : Nat) (h : SSs X P rest mS) : SSs X P rest (sFrz i mS) := sss_frz i h
end
section
variable {β : Type} {env : Env} {P : Pat} {o : Option β} {K : β → O → Prop} {Q : β → Pat} {mS n : SM}
theorem s_frzN {i : Nat} {τ : Type} {ct ct' : τ → D} [Fz ct ct'] {a : τ} (h : Mt P env) (hi : P[i]? = some (some (ct a))) (h2 : ∀ e, Mt (P.set i (some (ct' a))) e → ES mS e o K Q) : ES (sFrz i mS) env o K Q := s_frz h hi h2
end
end Ow

set_option maxHeartbeats 1000000

namespace Ow
open PySem L2
def ixL : D → Int → Option Nat
  | .n (.lst _) ds, n => ixN ds.length n
  | _, _ => none
@[simp] def sAliasE (i j : Nat) (pm : Env → Option (List Nat)) (me : EM) (mb : SM) : SM := fun env => (pm env).bind fun p => (me env).bind fun y => (toI y.1).bind fun n => (y.2[i]?.join).bind fun d => (atD p d).bind fun c => (ixL c n).bind fun q => sAlias i j (fun _ => some (p ++ [q])) mb y.2
section
variable {X : Cx} {P : List Nat} {mb nS : SM} {me : EM} {a b : Expr} {b1 : Stmt} {rest : List Stmt} {pm : Env → Option (List Nat)}
end
section
open Ty
variable {α β τ ζ : Type} {env : Env} {P P1 P2 : Pat} {c : α → D} {cz : ζ → D} {K : β → O → Prop} {Q : β → Pat} {n : SM} {i : Nat} {pm : Env → Option (List Nat)} {x : α}
end
end Ow

set_option maxHeartbeats 1000000

namespace Ow
open PySem L2
@[simp] def sForMP (i j : Nat) (pm : Env → Option (List Nat)) (mb : SM) : SM := fun env => (pm env).bind fun p => (env[i]?.join).bind fun d => (atD p d).bind fun u => match u with
  | .n (.lst .o) ds => (forMD j mb [] ds (env.set i none)).map fun x => (.nx, x.2.set i (some (setD p d (.n (.lst .o) x.1))))
  | _ => none
section
variable {X : Cx} {pos : Pos} {P : List Nat} {mb : SM} {body : List Stmt} {ae : Expr} {pm : Env → Option (List Nat)}
theorem ss_forMP {y : Str} (i j : Nat) (hij : i ≠ j) (hc : X.calm = true) (hp : PassesOwn (model X.prog X.w) X.A X.env X.xe) (hN : X.N.Nodup) (ho : SPl X i ae pm) (hb : SSs X (j :: i :: P) body mb) (hP : j ∉ P)
    (hj : X.N[j]? = some y := by rfl) (hy : Loc X.env.scope y := by first | exact .inl rfl | exact .inr rfl) (hf : X.fn y = true ∨ X.env.scope.names.lookup y = some .local := by first | exact .inl rfl | exact .inr rfl | assumption)
    {ty : Pos} (hs : ∀ z, foldedSetIterable ae X.env z = pure z := by intro _; rfl) :
    SS X P (.For (.Name y ty) ae body [] pos) (sForMP i j pm mb) :=
  PS.weak (ps_for hp hc (pi_list ho.pe) (pg_name (i := j) hN hj hy hf) hb hs) fun De σ H ⟨env, o, e', hm, r, s, w, k⟩ => by
    obtain ⟨p, hpm, hm⟩ := bind_some hm
    obtain ⟨d, hd, hm⟩ := bind_some hm
    obtain ⟨dq, hdq, hm⟩ := bind_some hm
    split at hm
    case h_2 => cases hm
    rename_i ds
    obtain ⟨z, hz, e1⟩ := map_some hm
    cases e1
    refine ⟨env, p, hpm, r, s, fun H1 x1 tt uu h1 hat => ?_⟩
    obtain ⟨tq, z1, z2⟩ := join_get hd
    rw [h1] at z1
    cases z1
    subst z2
    have c0 : Cf X.K H env σ H1 [] env := (Cf.start r s w).ex x1
    obtain ⟨uq, g1, g2, g3⟩ := atD_run (c0.satE.get h1) hdq
    rw [hat] at g1
    cases g1
    obtain ⟨a, ts, rfl, h3, h4, h5⟩ := rdN g3 g2 rfl (by simp)
    have hl : ts.length = ds.length := len_er h3
    have hsk : (setT p tt (.s (.ref a))).sat X.K H1 := setT_sat hat rfl (c0.satE.get h1) trivial
    have at5 : atT p (setT p tt (.s (.ref a))) = some (.s (.ref a)) := atT_set hat
    refine ⟨a, rfl, ⟨_, .inl (.inl h4)⟩, ?_⟩
    have hσi : σ[i]? = some (some tt.val) := r.2 i _ h1
    have ilt : i < env.length := (List.getElem?_eq_some_iff.mp h1).1
    refine ⟨fun n mm σi Hi => n ≤ ts.length ∧ mm = ts.length - n ∧ ∃ (dn rs : List T) (envi : TEnv), vals (dn ++ rs) = vals ts ∧ dn.length = n ∧ forMD j mb (erL dn) (erL rs) (erE envi) = some z ∧ Cf X.K H env σi Hi (setT p tt (.s (.ref a)) :: T.n (.lst .o) a ((vals ts).map T.s) :: (dn ++ rs)) envi ∧ σi[i]? = some (some tt.val) ∧ ∀ q ∈ P, σi[q]? = σ[q]?,
      ⟨ts.length, Nat.zero_le _, rfl, [], ts, env.set i none, rfl, rfl, by rw [h3, erE_set]; exact hz, ?_, hσi, fun _ _ => rfl⟩, fun n mm σi Hi W => ?_⟩
    · refine c0.less c0.rel.drop ⟨hsk, skel_sat h4, h5⟩ (c0.satE.set fun u hu => by cases hu) (fun b => ?_) fun b => ?_
      · have q1 := coE_set (a := b) none h1
        have q3 := setT_co (b := b) (v := T.s (.ref a)) hat
        simp only [coL, oT, T.co, skel_co, List.nil_append] at q1 q3 ⊢
        omega
      · have q1 := cuE_set (a := b) none h1
        have q3 := setT_cu (b := b) (v := T.s (.ref a)) hat
        simp only [cuL, oT, T.cu, skel_cu, List.nil_append] at q1 q3 ⊢
        omega
    obtain ⟨le, ms, dn, rs, envi, hvs, hdn, hf, c, pi, pq⟩ := W
    have hnode : Hi a = some (.lst (vals ts)) := by
      have := c.satF.2.1.1.1
      rw [skel_vals] at this
      exact this
    have hlen : dn.length + rs.length = ts.length := by
      have := congrArg List.length hvs
      simpa using this
    cases rs with
    | nil =>
      refine .inl ⟨⟨_, .inl (.inl hnode), by rw [List.length_map]; simp at hlen; omega⟩, ?_⟩
      rw [erL, forMD] at hf
      cases hf
      rw [List.append_nil] at hvs c
      have hil : i < envi.length := by
        have := c.rel.1
        have q := (List.getElem?_eq_some_iff.mp pi).1
        omega
      have r2 : Rel σi (envi.set i (some (setT p tt (T.n (.lst .o) a dn)))) := by
        refine ⟨by rw [List.length_set, c.rel.1], fun q u hu => ?_⟩
        rw [List.getElem?_set] at hu
        by_cases e : i = q
        · subst e
          rw [if_pos rfl, if_pos hil] at hu
          cases hu
          rw [setT_val (v := T.n (.lst .o) a dn) hat rfl]
          exact pi
        · rw [if_neg e] at hu
          exact c.rel.2 q u hu
      refine k [] σi (envi.set i (some (setT p tt (T.n (.lst .o) a dn)))) Hi (by rw [erE_set]; show List.set _ _ (some (setT p tt _).er) = _; rw [setT_er]; rfl) (c.less r2 trivial (c.satE.set fun u hu => ?_) (fun b => ?_) fun b => ?_) pq rfl
      · cases hu
        have := setT_sat at5 (v := T.n (.lst .o) a dn) rfl c.satF.1 ⟨⟨by rw [hvs]; exact hnode, rfl⟩, c.satF.2.2⟩
        rw [setT_set hat] at this
        exact this
      · have q2 := set_co (env := envi) (j := i) (t := setT p tt (T.n (.lst .o) a dn)) (a := b)
        have q3 := setT_co (b := b) (v := T.n (.lst .o) a dn) at5
        rw [setT_set hat] at q3
        simp only [coL, T.co, skel_co] at q2 q3 ⊢
        omega
      · have q2 := set_cu (env := envi) (j := i) (t := setT p tt (T.n (.lst .o) a dn)) (a := b)
        have q3 := setT_cu (b := b) (v := T.n (.lst .o) a dn) at5
        rw [setT_set hat] at q3
        simp only [cuL, T.cu, skel_cu] at q2 q3 ⊢
        omega
    | cons u rs =>
      have hn : n < ts.length := by simp at hlen; omega
      have hx : (vals ts)[n]? = some u.val := by
        rw [← hvs, vals, List.map_append, List.getElem?_append_right (by rw [List.length_map]; omega), List.length_map, hdn, Nat.sub_self]
        rfl
      refine .inr ⟨⟨_, _, .inl (.inl hnode), hx⟩, fun σ' H' => ∃ m', m' < mm ∧ (n + 1 ≤ ts.length ∧ m' = ts.length - (n + 1) ∧ ∃ (dn rs : List T) (envi : TEnv), vals (dn ++ rs) = vals ts ∧ dn.length = n + 1 ∧ forMD j mb (erL dn) (erL rs) (erE envi) = some z ∧ Cf X.K H env σ' H' (setT p tt (.s (.ref a)) :: T.n (.lst .o) a ((vals ts).map T.s) :: (dn ++ rs)) envi ∧ σ'[i]? = some (some tt.val) ∧ ∀ q ∈ P, σ'[q]? = σ[q]?), fun σ' H' h => h, fun x H3 hy => ?_⟩
      obtain ⟨rfl, hy⟩ := hy
      have hy2 := hy _ (.inl (.inl hnode))
      rw [hx] at hy2
      cases hy2
      rw [erL, forMD] at hf
      obtain ⟨y2, hb2, hf⟩ := bind_some hf
      have sF := c.satF
      have sR := satL_append.mp sF.2.2
      have c2 : Cf X.K H env (σi.set j (some u.val)) H3 (setT p tt (.s (.ref a)) :: T.n (.lst .o) a ((vals ts).map T.s) :: (dn ++ rs)) (envi.set j (some u)) := c.less c.rel.set ⟨sF.1, sF.2.1, satL_append.mpr ⟨sR.1, sR.2.2⟩⟩ (c.satE.set fun v hv => by cases hv; exact sR.2.1) (fun b => by
          have := set_co (env := envi) (j := j) (t := u) (a := b)
          simp only [coL, coL_append] at this ⊢
          omega) fun b => by
          have := set_cu (env := envi) (j := j) (t := u) (a := b)
          simp only [cuL, cuL_append] at this ⊢
          omega
      refine ⟨envi.set j (some u), y2.1, y2.2, by rw [erE_set]; exact hb2, c2.rel, c2.satE, c2.base, fun F σ3 env3 H4 e3 c4 p4 => ?_⟩
      have c5 := c2.step c4
      have pii : σ3[i]? = some (some tt.val) := by rw [p4 i (by simp), List.getElem?_set, if_neg (fun q => hij q.symm)]; exact pi
      have p5 : ∀ q ∈ P, σ3[q]? = σ[q]? := fun q hq => by
        rw [p4 q (by simp [hq]), List.getElem?_set, if_neg (fun e => hP (by rw [e]; exact hq))]
        exact pq q hq
      have fin : F = [] → ((y2.2[j]?.join).bind fun d' => forMD j mb (erL dn ++ [d']) (erL rs) (y2.2.set j none)) = some z → ∃ m', m' < mm ∧ (n + 1 ≤ ts.length ∧ m' = ts.length - (n + 1) ∧ ∃ (dn rs : List T) (envi : TEnv), vals (dn ++ rs) = vals ts ∧ dn.length = n + 1 ∧ forMD j mb (erL dn) (erL rs) (erE envi) = some z ∧ Cf X.K H env σ3 H4 (setT p tt (.s (.ref a)) :: T.n (.lst .o) a ((vals ts).map T.s) :: (dn ++ rs)) envi ∧ σ3[i]? = some (some tt.val) ∧ ∀ q ∈ P, σ3[q]? = σ[q]?) := fun hF hf => by
        subst hF
        obtain ⟨d', hd', hf⟩ := bind_some hf
        rw [← e3] at hd' hf
        obtain ⟨u', g1, rfl⟩ := join_get hd'
        have hval : u'.val = u.val := by
          have := c5.rel.2 j u' g1
          rw [p4 j (by simp), List.getElem?_set, if_pos rfl] at this
          split at this
          · exact (Option.some.inj (Option.some.inj this)).symm
          · cases this
        refine ⟨mm - 1, by omega, by omega, by omega, dn ++ [u'], rs, env3.set j none, ?_, by simp [hdn], ?_, ?_, pii, p5⟩
        · rw [← hvs]
          simp [vals, hval]
        · rw [erL_append, erE_set]
          exact hf
        · have sF5 := c5.satF
          have sR5 := satL_append.mp sF5.2.2
          refine c5.less c5.rel.drop ⟨sF5.1, sF5.2.1, satL_append.mpr ⟨satL_append.mpr ⟨sR5.1, c5.satE.get g1, trivial⟩, sR5.2⟩⟩ (c5.satE.set fun v hv => by cases hv) (fun b => ?_) fun b => ?_
          · have := coE_set (a := b) none g1
            simp only [coL, coL_append, oT, List.nil_append] at this ⊢
            omega
          · have := cuE_set (a := b) none g1
            simp only [cuL, cuL_append, oT, List.nil_append] at this ⊢
            omega
      obtain ⟨yo, ye⟩ := y2
      cases yo with
      | nx => exact fun hF => fin hF hf
      | ct => exact fun hF => fin hF hf
      | bk => cases hf
      | rt d => cases hf
end

section
open Ty
variable {α β σ ζ : Type} {env : Env} {P : Pat} {cw : α → D} {c : ζ → D} {i : Nat} {x : α} {pm : Env → Option (List Nat)}
theorem s_forMP {j : Nat} {mb : SM} {xs : List ζ} {s0 : σ} {f : σ → ζ → Option (σ × ζ)} {Pl : σ → Pat} {up : List ζ → α} (hp : PLt pm env i x cw xs (cL .o c) up) (hm : Mt P env) (h : ∀ e, Mt (P.set i none) e → Mt (Pl s0) e)
    (hs : ∀ s x e, Mt ((Pl s).set j (some (c x))) e → ES mb e (f s x) (fun _ fl => fl = .nx ∨ fl = .ct) (fun r => (Pl r.1).set j (some (c r.2)))) (hj : ∀ s, j < (Pl s).length) (hn : ∀ s, (Pl s).set j none = Pl s) :
    ES (sForMP i j pm mb) env (forW xs s0 f) (fun _ fl => fl = .nx) (fun r => (Pl r.1).set i (some (cw (up r.2)))) := fun r hr => by
  have key : ∀ (xs : List ζ) (s0 : σ) (env : Env) (done : List D) (r : σ × List ζ), Mt (Pl s0) env → forW xs s0 f = some r → ∃ e, forMD j mb done (xs.map c) env = some (done ++ r.2.map c, e) ∧ Mt (Pl r.1) e := fun xs => by
    induction xs with
    | nil =>
      intro s0 env done r h hr
      cases hr
      exact ⟨env, by rw [List.map_nil, forMD]; simp, h⟩
    | cons x xs ih =>
      intro s0 env done r h hr
      rw [forW] at hr
      obtain ⟨r1, h1, hr⟩ := bsome hr
      obtain ⟨r2, h2, hr⟩ := bsome hr
      cases hr
      obtain ⟨fl, e1, g1, g2, g3⟩ := hs s0 x (env.set j (some (c x))) h.set r1 h1
      have g4 : e1[j]?.join = some (c r1.2) := g3.join (by rw [List.getElem?_set, if_pos rfl, if_pos (hj r1.1)])
      have g6 : Mt (Pl r1.1) (e1.set j none) := by
        have := g3.set (i := j) (o := none)
        rw [List.set_set, hn] at this
        exact this
      obtain ⟨e2, g7, g8⟩ := ih r1.1 (e1.set j none) (done ++ [c r1.2]) r2 g6 h2
      refine ⟨e2, ?_, g8⟩
      rw [List.map_cons, forMD, g1, Option.bind_some]
      rcases g2 with rfl | rfl
      · dsimp only
        rw [g4, Option.bind_some, g7]; simp
      · dsimp only
        rw [g4, Option.bind_some, g7]; simp
  obtain ⟨e1, g1, g2⟩ := key xs s0 (env.set i none) [] r (h _ hm.set) hr
  obtain ⟨⟨p, k1, k2, k3, _⟩, ks⟩ := hp
  refine ⟨.nx, _, ?_, rfl, g2.set⟩
  unfold sForMP
  rw [k1, Option.bind_some, ks, Option.bind_some, k2, Option.bind_some]
  show Option.map _ (forMD j mb [] (xs.map c) (env.set i none)) = _
  rw [g1]
  show some (O.nx, e1.set i (some (setD p (cw x) (cL .o c r.2)))) = _
  rw [k3]
end
end Ow

namespace Lw
open PySem L2 Ow
def topS (i : Nat) : Stmt := PySem.Challenge.pw_ringfloor_k42_cut_along_a_round.main.body.getD i (.Pass ⟨0, 0, 0, 0⟩)
structure Fs where
  f_mate_of : Addr
  f_count_ends : Addr
  f_homes_of : Addr
  f_behind_of : Addr
  f_begun_least : Addr
  f_is_walk : Addr
  f_is_round : Addr
  f_check_round : Addr
  f_visits_of : Addr
  f_between : Addr
  f_cut_along : Addr
  f__law_mixed : Addr
  f__law_take : Addr
  f__law_whole : Addr
  f__law_row : Addr
  f__law_rows : Addr
  f__law_least : Addr
  f__law_put : Addr
  f__law_lay_ends : Addr
  f__law_shuffled : Addr
  f__law_named : Addr
  f__law_mate : Addr
  f__law_seats : Addr
  f__law_ringed : Addr
  f__law_turn : Addr
  f__law_begun : Addr
  f__law_cut : Addr
  f__law_three : Addr
  f__law_fours : Addr
  f__law_great : Addr
  f_law : Addr
structure Ds where
  f_mate_of : FuncData
  f_count_ends : FuncData
  f_homes_of : FuncData
  f_behind_of : FuncData
  f_begun_least : FuncData
  f_is_walk : FuncData
  f_is_round : FuncData
  f_check_round : FuncData
  f_visits_of : FuncData
  f_between : FuncData
  f_cut_along : FuncData
  f__law_mixed : FuncData
  f__law_take : FuncData
  f__law_whole : FuncData
  f__law_row : FuncData
  f__law_rows : FuncData
  f__law_least : FuncData
  f__law_put : FuncData
  f__law_lay_ends : FuncData
  f__law_shuffled : FuncData
  f__law_named : FuncData
  f__law_mate : FuncData
  f__law_seats : FuncData
  f__law_ringed : FuncData
  f__law_turn : FuncData
  f__law_begun : FuncData
  f__law_cut : FuncData
  f__law_three : FuncData
  f__law_fours : FuncData
  f__law_great : FuncData
  f_law : FuncData
structure Tx (K : PySem.W.Frag) (mg : PySem.Str → Option Value) (f : Fs) (fd : Ds) : Prop where
  F_mate_of : Fun K "mate_of" "mate_of" (topS 4) f.f_mate_of fd.f_mate_of
  g_mate_of : mg "mate_of" = some (.ref f.f_mate_of)
  b_mate_of : Binds K fd.f_mate_of ["end"] []
  F_count_ends : Fun K "count_ends" "count_ends" (topS 5) f.f_count_ends fd.f_count_ends
  g_count_ends : mg "count_ends" = some (.ref f.f_count_ends)
  b_count_ends : Binds K fd.f_count_ends ["rows"] []
  F_homes_of : Fun K "homes_of" "homes_of" (topS 6) f.f_homes_of fd.f_homes_of
  g_homes_of : mg "homes_of" = some (.ref f.f_homes_of)
  b_homes_of : Binds K fd.f_homes_of ["drawing"] []
  F_behind_of : Fun K "behind_of" "behind_of" (topS 7) f.f_behind_of fd.f_behind_of
  g_behind_of : mg "behind_of" = some (.ref f.f_behind_of)
  b_behind_of : Binds K fd.f_behind_of ["drawing"] []
  F_begun_least : Fun K "begun_least" "begun_least" (topS 8) f.f_begun_least fd.f_begun_least
  g_begun_least : mg "begun_least" = some (.ref f.f_begun_least)
  b_begun_least : Binds K fd.f_begun_least ["row"] []
  F_is_walk : Fun K "is_walk" "is_walk" (topS 10) f.f_is_walk fd.f_is_walk
  g_is_walk : mg "is_walk" = some (.ref f.f_is_walk)
  b_is_walk : Binds K fd.f_is_walk ["drawing", "ends"] []
  F_is_round : Fun K "is_round" "is_round" (topS 11) f.f_is_round fd.f_is_round
  g_is_round : mg "is_round" = some (.ref f.f_is_round)
  b_is_round : Binds K fd.f_is_round ["drawing", "ends"] []
  F_check_round : Fun K "check_round" "check_round" (topS 12) f.f_check_round fd.f_check_round
  g_check_round : mg "check_round" = some (.ref f.f_check_round)
  b_check_round : Binds K fd.f_check_round ["drawing", "ends"] []
  F_visits_of : Fun K "visits_of" "visits_of" (topS 13) f.f_visits_of fd.f_visits_of
  g_visits_of : mg "visits_of" = some (.ref f.f_visits_of)
  b_visits_of : Binds K fd.f_visits_of ["walk"] []
  F_between : Fun K "between" "between" (topS 14) f.f_between fd.f_between
  g_between : mg "between" = some (.ref f.f_between)
  b_between : Binds K fd.f_between ["behind", "one", "other"] []
  F_cut_along : Fun K "cut_along" "cut_along" (topS 16) f.f_cut_along fd.f_cut_along
  g_cut_along : mg "cut_along" = some (.ref f.f_cut_along)
  b_cut_along : Binds K fd.f_cut_along ["drawing", "turn"] []
  F__law_mixed : Fun K "_law_mixed" "_law_mixed" (topS 18) f.f__law_mixed fd.f__law_mixed
  g__law_mixed : mg "_law_mixed" = some (.ref f.f__law_mixed)
  b__law_mixed : Binds K fd.f__law_mixed ["_law_cell", "_law_k", "_law_many"] []
  F__law_take : Fun K "_law_take" "_law_take" (topS 19) f.f__law_take fd.f__law_take
  g__law_take : mg "_law_take" = some (.ref f.f__law_take)
  b__law_take : Binds K fd.f__law_take ["_law_box", "_law_many"] []
  F__law_whole : Fun K "_law_whole" "_law_whole" (topS 20) f.f__law_whole fd.f__law_whole
  g__law_whole : mg "_law_whole" = some (.ref f.f__law_whole)
  b__law_whole : Binds K fd.f__law_whole ["_law_found"] []
  F__law_row : Fun K "_law_row" "_law_row" (topS 21) f.f__law_row fd.f__law_row
  g__law_row : mg "_law_row" = some (.ref f.f__law_row)
  b__law_row : Binds K fd.f__law_row ["_law_found", "_law_due"] []
  F__law_rows : Fun K "_law_rows" "_law_rows" (topS 22) f.f__law_rows fd.f__law_rows
  g__law_rows : mg "_law_rows" = some (.ref f.f__law_rows)
  b__law_rows : Binds K fd.f__law_rows ["_law_found", "_law_due"] []
  F__law_least : Fun K "_law_least" "_law_least" (topS 23) f.f__law_least fd.f__law_least
  g__law_least : mg "_law_least" = some (.ref f.f__law_least)
  b__law_least : Binds K fd.f__law_least ["_law_row_here"] []
  F__law_put : Fun K "_law_put" "_law_put" (topS 24) f.f__law_put fd.f__law_put
  g__law_put : mg "_law_put" = some (.ref f.f__law_put)
  b__law_put : Binds K fd.f__law_put ["_law_rows_here", "_law_at", "_law_end"] []
  F__law_lay_ends : Fun K "_law_lay_ends" "_law_lay_ends" (topS 25) f.f__law_lay_ends fd.f__law_lay_ends
  g__law_lay_ends : mg "_law_lay_ends" = some (.ref f.f__law_lay_ends)
  b__law_lay_ends : Binds K fd.f__law_lay_ends ["_law_box", "_law_rows_here", "_law_first", "_law_behind_last"] []
  F__law_shuffled : Fun K "_law_shuffled" "_law_shuffled" (topS 26) f.f__law_shuffled fd.f__law_shuffled
  g__law_shuffled : mg "_law_shuffled" = some (.ref f.f__law_shuffled)
  b__law_shuffled : Binds K fd.f__law_shuffled ["_law_box", "_law_many"] []
  F__law_named : Fun K "_law_named" "_law_named" (topS 27) f.f__law_named fd.f__law_named
  g__law_named : mg "_law_named" = some (.ref f.f__law_named)
  b__law_named : Binds K fd.f__law_named ["_law_box", "_law_rows_here"] []
  F__law_mate : Fun K "_law_mate" "_law_mate" (topS 28) f.f__law_mate fd.f__law_mate
  g__law_mate : mg "_law_mate" = some (.ref f.f__law_mate)
  b__law_mate : Binds K fd.f__law_mate ["_law_end"] []
  F__law_seats : Fun K "_law_seats" "_law_seats" (topS 29) f.f__law_seats fd.f__law_seats
  g__law_seats : mg "_law_seats" = some (.ref f.f__law_seats)
  b__law_seats : Binds K fd.f__law_seats ["_law_rows_here"] []
  F__law_ringed : Fun K "_law_ringed" "_law_ringed" (topS 30) f.f__law_ringed fd.f__law_ringed
  g__law_ringed : mg "_law_ringed" = some (.ref f.f__law_ringed)
  b__law_ringed : Binds K fd.f__law_ringed ["_law_box", "_law_k", "_law_places", "_law_ties"] []
  F__law_turn : Fun K "_law_turn" "_law_turn" (topS 31) f.f__law_turn fd.f__law_turn
  g__law_turn : mg "_law_turn" = some (.ref f.f__law_turn)
  b__law_turn : Binds K fd.f__law_turn ["_law_box", "_law_names", "_law_k"] []
  F__law_begun : Fun K "_law_begun" "_law_begun" (topS 32) f.f__law_begun fd.f__law_begun
  g__law_begun : mg "_law_begun" = some (.ref f.f__law_begun)
  b__law_begun : Binds K fd.f__law_begun ["_law_row_here", "_law_end"] []
  F__law_cut : Fun K "_law_cut" "_law_cut" (topS 33) f.f__law_cut fd.f__law_cut
  g__law_cut : mg "_law_cut" = some (.ref f.f__law_cut)
  b__law_cut : Binds K fd.f__law_cut ["_law_rows_here", "_law_turn_here"] []
  F__law_three : Fun K "_law_three" "_law_three" (topS 34) f.f__law_three fd.f__law_three
  g__law_three : mg "_law_three" = some (.ref f.f__law_three)
  b__law_three : Binds K fd.f__law_three ["_law_told", "_law_due"] []
  F__law_fours : Fun K "_law_fours" "_law_fours" (topS 35) f.f__law_fours fd.f__law_fours
  g__law_fours : mg "_law_fours" = some (.ref f.f__law_fours)
  b__law_fours : Binds K fd.f__law_fours ["_law_r", "_law_c", "_law_s"] []
  F__law_great : Fun K "_law_great" "_law_great" (topS 36) f.f__law_great fd.f__law_great
  g__law_great : mg "_law_great" = some (.ref f.f__law_great)
  b__law_great : Binds K fd.f__law_great ["_law_box"] []
  F_law : Fun K "law" "law" (topS 37) f.f_law fd.f_law
  g_law : mg "law" = some (.ref f.f_law)
  b_law : Binds K fd.f_law ["_law_script"] []
  m_all : mg "all" = none
  m_bool : mg "bool" = none
  m_enumerate : mg "enumerate" = none
  m_int : mg "int" = none
  m_isinstance : mg "isinstance" = none
  m_len : mg "len" = none
  m_list : mg "list" = none
  m_max : mg "max" = none
  m_min : mg "min" = none
  m_range : mg "range" = none
  m_sum : mg "sum" = none
  m_tuple : mg "tuple" = none
section
variable {P : Program} {w : World} {K : PySem.W.Frag} {mg : PySem.Str → Option Value} {base : Heap} {f : Fs} {fd : Ds}

abbrev nn_mate_of : List PySem.Str := ["end"]
theorem sc_mate_of : FnScope nn_mate_of ["end"] (defScope (topS 4)) := ⟨rfl, rfl, rfl, by decide +kernel, rfl, by decide +kernel, by decide +kernel⟩
def bb_mate_of : SM := (sRet (lift (mOp2 fXor (mVar 0) (mC (.int 1)))))
def ff_mate_of : FM := runP 1 bb_mate_of
theorem ok_mate_of (T : Tx K mg f fd) : FnOk P w K mg base CX0 1 f.f_mate_of fd.f_mate_of ["end"] (spP K 1 ff_mate_of) :=
  have sc := sc_mate_of
  fn_pure T.F_mate_of sc (by decide) fun cdv A outer s H E hr => (sss_one (ss_ret (se_p (sp_xor (sb_var 0) (SP.sb sp_int)))))

abbrev nn_count_ends : List PySem.Str := ["rows", "row"]
theorem sc_count_ends : FnScope nn_count_ends ["rows"] (defScope (topS 5)) := ⟨rfl, rfl, rfl, by decide +kernel, rfl, by decide +kernel, by decide +kernel⟩
def bb_count_ends : SM := (sRet (lift (mCall fSum (lCons (mLc (wL (mVar 0)) (.nm 1) bYes (mCall fLen (lCons (mVar 1) lNil)) [1]) lNil))))
def ff_count_ends : FM := runP 2 bb_count_ends
theorem ok_count_ends (T : Tx K mg f fd) : FnOk P w K mg base CX0 1 f.f_count_ends fd.f_count_ends ["rows"] (spP K 1 ff_count_ends) :=
  have sc := sc_count_ends
  fn_pure T.F_count_ends sc (by decide) fun cdv A outer s H E hr => (sss_one (ss_ret (se_p (sp_callB (cr_sum rfl) opn_sum bt_sum T.m_sum (sba_cons (SP.sb (sp_lc (own := [("row", 1)]) rfl sc.nd (si_list (sb_var 0)) (okb (N := nn_count_ends) (sc := defScope (topS 5)) (by decide +kernel)) (fun _ _ _ _ _ => (sg_name 1 sc.nd)) (fun _ _ _ _ _ => sts_nil) (fun _ _ _ _ _ => (sp_callB call_len_seq opn_len bt_len T.m_len (sba_cons (sb_var 1) sba_nil))) (by simp [Tg.sl, slL]))) sba_nil)))))

abbrev nn_begun_least : List PySem.Str := ["row", "at"]
theorem sc_begun_least : FnScope nn_begun_least ["row"] (defScope (topS 8)) := ⟨rfl, rfl, rfl, by decide +kernel, rfl, by decide +kernel, by decide +kernel⟩
def bb_begun_least : SM := (sSeq (sIf (liftT (mNotT (mTru (mVar 0)))) (sRet (lift (mk (.lst .o) lNil))) sNx) (sSeq (sSet 1 (lift (mIdx (mVar 0) (mCall fMinL (lCons (mVar 0) lNil))))) (sRet (lift (mCat (mSl (mVar 0) (oYes (mVar 1)) oNo) (mSl (mVar 0) oNo (oYes (mVar 1))))))))
def ff_begun_least : FM := runP 2 bb_begun_least
theorem ok_begun_least (T : Tx K mg f fd) : FnOk P w K mg base CX0 1 f.f_begun_least fd.f_begun_least ["row"] (spP K 1 ff_begun_least) :=
  have sc := sc_begun_least
  fn_pure T.F_begun_least sc (by decide) fun cdv A outer s H E hr => (sss_cons (ss_if (set_t (st_not (st_tru (sb_var 0)))) (sss_one (ss_ret (se_p (sp_lst spa_nil)))) sss_nil) (sss_cons (ss_set 1 sc.nd (by decide) (se_p (sp_index (sb_var 0) (SP.sb (sp_callB (cr_min rfl) opn_min bt_min T.m_min (sba_cons (sb_var 0) sba_nil)))))) (sss_one (ss_ret (se_p (sp_cat (SP.sb (sp_slice (sb_var 0) (so_some (sb_var 1)) so_none)) (SP.sb (sp_slice (sb_var 0) so_none (so_some (sb_var 1))))))))))

abbrev nn_between : List PySem.Str := ["behind", "one", "other", "found", "end"]
theorem sc_between : FnScope nn_between ["behind", "one", "other"] (defScope (topS 14)) := ⟨rfl, rfl, rfl, by decide +kernel, rfl, by decide +kernel, by decide +kernel⟩
def bb_between : SM := (sSeq (sSet 3 (lift (mk (.lst .o) lNil))) (sSeq (sSet 4 (lift (mPure (mItem (mVar 0) (mVar 1))))) (sSeq (whD (liftT (mB (mOp2 fNe (mVar 4) (mVar 2)))) (sSeq (sApp 3 (plName 3) (lift (mPure (mVar 4)))) (sSet 4 (lift (mPure (mItem (mVar 0) (mVar 4)))))) 100000) (sRet (eMove 3)))))
def ff_between : FM := runP 5 bb_between
theorem ok_between (T : Tx K mg f fd) : FnOk P w K mg base CX0 1 f.f_between fd.f_between ["behind", "one", "other"] (spP K 3 ff_between) :=
  have sc := sc_between
  fn_pure T.F_between sc (by decide) fun cdv A outer s H E hr => (sss_cons (ss_set 3 sc.nd (by decide) (se_p (sp_lst spa_nil))) (sss_cons (ss_set 4 sc.nd (by decide) (se_p (sp_item (sb_var 0) (sb_var 1)))) (sss_cons (ss_while 100000 PassesOwn.never (set_t (st_ne hr (sb_var 4) (sb_var 2))) (sss_cons (ss_append (spl_name 3) (se_p (sp_pure (sb_var 4)))) (sss_one (ss_set 4 sc.nd (by decide) (se_p (sp_item (sb_var 0) (sb_var 4))))))) (sss_one (ss_ret (se_move 3 (by decide)))))))

abbrev nn__law_mixed : List PySem.Str := ["_law_cell", "_law_k", "_law_many", "_law_one"]
theorem sc__law_mixed : FnScope nn__law_mixed ["_law_cell", "_law_k", "_law_many"] (defScope (topS 18)) := ⟨rfl, rfl, rfl, by decide +kernel, rfl, by decide +kernel, by decide +kernel⟩
def bb__law_mixed : SM := (sSeq (sSet 3 (lift (mOp2 fMod (mOp2 fPow (mOp2 fAdd (mOp2 fAdd (mOp2 fMod (mVar 0) (mC (.int 2147483647))) (mOp2 fMul (mC (.int 40503)) (mVar 1))) (mC (.int 17))) (mC (.int 5))) (mC (.int 2147483647))))) (sRet (lift (mOp2 fMod (mOp2 fMod (mOp2 fMul (mOp2 fMod (mOp2 fMul (mVar 3) (mOp2 fAdd (mC (.int 48271)) (mVar 1))) (mC (.int 999999937))) (mC (.int 39373))) (mC (.int 2147483629))) (mVar 2)))))
def ff__law_mixed : FM := runP 4 bb__law_mixed
theorem ok__law_mixed (T : Tx K mg f fd) : FnOk P w K mg base CX0 1 f.f__law_mixed fd.f__law_mixed ["_law_cell", "_law_k", "_law_many"] (spP K 3 ff__law_mixed) :=
  have sc := sc__law_mixed
  fn_pure T.F__law_mixed sc (by decide) fun cdv A outer s H E hr => (sss_cons (ss_set 3 sc.nd (by decide) (se_p (sp_mod (SP.sb (sp_pow (SP.sb (sp_add (SP.sb (sp_add (SP.sb (sp_mod (sb_var 0) (SP.sb sp_int))) (SP.sb (sp_mul (SP.sb sp_int) (sb_var 1))))) (SP.sb sp_int))) (SP.sb sp_int))) (SP.sb sp_int)))) (sss_one (ss_ret (se_p (sp_mod (SP.sb (sp_mod (SP.sb (sp_mul (SP.sb (sp_mod (SP.sb (sp_mul (sb_var 3) (SP.sb (sp_add (SP.sb sp_int) (sb_var 1))))) (SP.sb sp_int))) (SP.sb sp_int))) (SP.sb sp_int))) (sb_var 2))))))

abbrev nn__law_whole : List PySem.Str := ["_law_found"]
theorem sc__law_whole : FnScope nn__law_whole ["_law_found"] (defScope (topS 20)) := ⟨rfl, rfl, rfl, by decide +kernel, rfl, by decide +kernel, by decide +kernel⟩
def bb__law_whole : SM := (sRet (lift (mAndV (mIsi "int" (mVar 0)) (mNotV (mIsi "bool" (mVar 0))))))
def ff__law_whole : FM := runP 1 bb__law_whole
theorem ok__law_whole (T : Tx K mg f fd) : FnOk P w K mg base CX0 1 f.f__law_whole fd.f__law_whole ["_law_found"] (spP K 1 ff__law_whole) :=
  have sc := sc__law_whole
  fn_pure T.F__law_whole sc (by decide) fun cdv A outer s H E hr => (sss_one (ss_ret (se_p (sp_and (sp_isi T.m_isinstance T.m_int bt_int (sb_var 0) bt_isinstance) (sp_one (sp_not (sp_isi T.m_isinstance T.m_bool bt_bool (sb_var 0) bt_isinstance)))))))

abbrev nn__law_least : List PySem.Str := ["_law_row_here", "_law_at"]
theorem sc__law_least : FnScope nn__law_least ["_law_row_here"] (defScope (topS 23)) := ⟨rfl, rfl, rfl, by decide +kernel, rfl, by decide +kernel, by decide +kernel⟩
def bb__law_least : SM := (sSeq (sIf (liftT (mB (mOp2 fEq (mCall fLen (lCons (mVar 0) lNil)) (mC (.int 0))))) (sRet (lift (mk (.lst .o) lNil))) sNx) (sSeq (sSet 1 (lift (mIdx (mVar 0) (mCall fMinL (lCons (mVar 0) lNil))))) (sRet (lift (mCat (mSl (mVar 0) (oYes (mVar 1)) oNo) (mSl (mVar 0) oNo (oYes (mVar 1))))))))
def ff__law_least : FM := runP 2 bb__law_least
theorem ok__law_least (T : Tx K mg f fd) : FnOk P w K mg base CX0 1 f.f__law_least fd.f__law_least ["_law_row_here"] (spP K 1 ff__law_least) :=
  have sc := sc__law_least
  fn_pure T.F__law_least sc (by decide) fun cdv A outer s H E hr => (sss_cons (ss_if (set_t (st_eq hr (SP.sb (sp_callB call_len_seq opn_len bt_len T.m_len (sba_cons (sb_var 0) sba_nil))) (SP.sb sp_int))) (sss_one (ss_ret (se_p (sp_lst spa_nil)))) sss_nil) (sss_cons (ss_set 1 sc.nd (by decide) (se_p (sp_index (sb_var 0) (SP.sb (sp_callB (cr_min rfl) opn_min bt_min T.m_min (sba_cons (sb_var 0) sba_nil)))))) (sss_one (ss_ret (se_p (sp_cat (SP.sb (sp_slice (sb_var 0) (so_some (sb_var 1)) so_none)) (SP.sb (sp_slice (sb_var 0) so_none (so_some (sb_var 1))))))))))

abbrev nn__law_put : List PySem.Str := ["_law_rows_here", "_law_at", "_law_end", "_law_row_here", "_law_many"]
theorem sc__law_put : FnScope nn__law_put ["_law_rows_here", "_law_at", "_law_end"] (defScope (topS 24)) := ⟨rfl, rfl, rfl, by decide +kernel, rfl, by decide +kernel, by decide +kernel⟩
def bb__law_put : SM := (sSeq (sForR 0 3 (sSeq (sSet 4 (lift (mCall fMax2 (lCons (mC (.int 1)) (lCons (mCall fLen (lCons (mVar 3) lNil)) lNil))))) (sSeq (sIf (liftT (mB (mOp2 fLt (mVar 1) (mVar 4)))) (sSeq (sIns 3 (plName 3) (lift (mOp2 fAdd (mVar 1) (mC (.int 1)))) (lift (mPure (mVar 2)))) (sRet (lift (mC (.bl true))))) sNx) (sSet 1 (lift (mOp2 fSub (mVar 1) (mVar 4))))))) (sRet (lift (mC (.bl false)))))
def ff__law_put : FMu := runM 5 [0] bb__law_put
theorem ok__law_put (T : Tx K mg f fd) : FnOk P w K mg base CX0 1 f.f__law_put fd.f__law_put ["_law_rows_here", "_law_at", "_law_end"] (spM K 3 [0] ff__law_put) :=
  have sc := sc__law_put
  fn_mut T.F__law_put sc (by decide) (by decide) fun cdv A outer s H E hr => (sss_cons (ss_forR 0 3 (by decide) rfl PassesOwn.never sc.nd (sss_cons (ss_set 4 sc.nd (by decide) (se_p (sp_callB (call_max2 rfl) opn_max2 bt_max T.m_max (sba_cons (SP.sb sp_int) (sba_cons (SP.sb (sp_callB call_len_seq opn_len bt_len T.m_len (sba_cons (sb_var 3) sba_nil))) sba_nil))))) (sss_cons (ss_if (set_t (st_lt (sb_var 1) (sb_var 4))) (sss_cons (ss_insert (spl_name 3) (se_p (sp_add (sb_var 1) (SP.sb sp_int))) (se_p (sp_pure (sb_var 2)))) (sss_one (ss_ret (se_p sp_bl)))) sss_nil) (sss_one (ss_set 1 sc.nd (by decide) (se_p (sp_sub (sb_var 1) (sb_var 4))))))) (by decide)) (sss_one (ss_ret (se_p sp_bl))))

abbrev nn__law_mate : List PySem.Str := ["_law_end"]
theorem sc__law_mate : FnScope nn__law_mate ["_law_end"] (defScope (topS 28)) := ⟨rfl, rfl, rfl, by decide +kernel, rfl, by decide +kernel, by decide +kernel⟩
def bb__law_mate : SM := (sRet (lift (mOp2 fSub (mOp2 fAdd (mVar 0) (mC (.int 1))) (mOp2 fMul (mC (.int 2)) (mOp2 fMod (mVar 0) (mC (.int 2)))))))
def ff__law_mate : FM := runP 1 bb__law_mate
theorem ok__law_mate (T : Tx K mg f fd) : FnOk P w K mg base CX0 1 f.f__law_mate fd.f__law_mate ["_law_end"] (spP K 1 ff__law_mate) :=
  have sc := sc__law_mate
  fn_pure T.F__law_mate sc (by decide) fun cdv A outer s H E hr => (sss_one (ss_ret (se_p (sp_sub (SP.sb (sp_add (sb_var 0) (SP.sb sp_int))) (SP.sb (sp_mul (SP.sb sp_int) (SP.sb (sp_mod (sb_var 0) (SP.sb sp_int)))))))))

abbrev nn__law_seats : List PySem.Str := ["_law_rows_here", "_law_told", "_law_place", "_law_row_here", "_law_end"]
theorem sc__law_seats : FnScope nn__law_seats ["_law_rows_here"] (defScope (topS 29)) := ⟨rfl, rfl, rfl, by decide +kernel, rfl, by decide +kernel, by decide +kernel⟩
def bb__law_seats : SM := (sSeq (sSet 1 (lift (mRep (mk (.lst .o) (lCons (mC (.int 0)) lNil)) (mCall fSum (lCons (mLc (wL (mVar 0)) (.nm 3) bYes (mCall fLen (lCons (mVar 3) lNil)) [3]) lNil))))) (sSeq (sFor (wE (mPure (mVar 0))) (.tp [(.nm 2), (.nm 3)]) (sFrz 3 (sFor (wL (mPure (mVar 3))) (.nm 4) (sPut 1 (plName 1) (mVar 4) (lift (mPure (mVar 2))))))) (sRet (eMove 1))))
def ff__law_seats : FM := runP 5 bb__law_seats
theorem ok__law_seats (T : Tx K mg f fd) : FnOk P w K mg base CX0 1 f.f__law_seats fd.f__law_seats ["_law_rows_here"] (spP K 1 ff__law_seats) :=
  have sc := sc__law_seats
  fn_pure T.F__law_seats sc (by decide) fun cdv A outer s H E hr => (sss_cons (ss_set 1 sc.nd (by decide) (se_p (sp_rep (SP.sb (sp_lst (spa_cons sp_int spa_nil))) (SP.sb (sp_callB (cr_sum rfl) opn_sum bt_sum T.m_sum (sba_cons (SP.sb (sp_lc (own := [("_law_row_here", 3)]) rfl sc.nd (si_list (sb_var 0)) (okb (N := nn__law_seats) (sc := defScope (topS 29)) (by decide +kernel)) (fun _ _ _ _ _ => (sg_name 3 sc.nd)) (fun _ _ _ _ _ => sts_nil) (fun _ _ _ _ _ => (sp_callB call_len_seq opn_len bt_len T.m_len (sba_cons (sb_var 3) sba_nil))) (by simp [Tg.sl, slL]))) sba_nil)))))) (sss_cons (ss_for rfl PassesOwn.never (sj_enum T.m_enumerate (sp_pure (sb_var 0))) (sg_tup rfl (sgs_cons (sg_name 2 sc.nd) (sgs_cons (sg_name 3 sc.nd) sgs_nil))) (sss_frzN 3 (sss_one (ss_for rfl PassesOwn.never (sj_list (sp_pure (sb_var 3))) (sg_name 4 sc.nd) (sss_one (ss_put (se_p (sp_pure (sb_var 2))) (spl_name 1) (sb_var 4))) (by simp [Tg.sl, slL])))) (by simp [Tg.sl, slL])) (sss_one (ss_ret (se_move 1 (by decide))))))

abbrev nn__law_begun : List PySem.Str := ["_law_row_here", "_law_end", "_law_at"]
theorem sc__law_begun : FnScope nn__law_begun ["_law_row_here", "_law_end"] (defScope (topS 32)) := ⟨rfl, rfl, rfl, by decide +kernel, rfl, by decide +kernel, by decide +kernel⟩
def bb__law_begun : SM := (sSeq (sSet 2 (lift (mIdx (mVar 0) (mVar 1)))) (sRet (lift (mCat (mSl (mVar 0) (oYes (mVar 2)) oNo) (mSl (mVar 0) oNo (oYes (mVar 2)))))))
def ff__law_begun : FM := runP 3 bb__law_begun
theorem ok__law_begun (T : Tx K mg f fd) : FnOk P w K mg base CX0 1 f.f__law_begun fd.f__law_begun ["_law_row_here", "_law_end"] (spP K 2 ff__law_begun) :=
  have sc := sc__law_begun
  fn_pure T.F__law_begun sc (by decide) fun cdv A outer s H E hr => (sss_cons (ss_set 2 sc.nd (by decide) (se_p (sp_index (sb_var 0) (sb_var 1)))) (sss_one (ss_ret (se_p (sp_cat (SP.sb (sp_slice (sb_var 0) (so_some (sb_var 2)) so_none)) (SP.sb (sp_slice (sb_var 0) so_none (so_some (sb_var 2)))))))))

abbrev nn_homes_of : List PySem.Str := ["drawing", "homes", "place", "row", "end"]
theorem sc_homes_of : FnScope nn_homes_of ["drawing"] (defScope (topS 6)) := ⟨rfl, rfl, rfl, by decide +kernel, rfl, by decide +kernel, by decide +kernel⟩
def bb_homes_of : SM := (sSeq (sSet 1 (lift (mRep (mk (.lst .o) (lCons (mC (.int 0)) lNil)) (mFn ff_count_ends (lCons (mVar 0) lNil))))) (sSeq (sFor (wE (mPure (mVar 0))) (.tp [(.nm 2), (.nm 3)]) (sFrz 3 (sFor (wL (mPure (mVar 3))) (.nm 4) (sPut 1 (plName 1) (mVar 4) (lift (mPure (mVar 2))))))) (sRet (eMove 1))))
def ff_homes_of : FM := runP 5 bb_homes_of
theorem ok_homes_of (T : Tx K mg f fd) : FnOk P w K mg base CX0 2 f.f_homes_of fd.f_homes_of ["drawing"] (spP K 1 ff_homes_of) :=
  have sc := sc_homes_of
  fn_pure T.F_homes_of sc (by decide) fun cdv A outer s H E hr => (sss_cons (ss_set 1 sc.nd (by decide) (se_p (sp_rep (SP.sb (sp_lst (spa_cons sp_int spa_nil))) (SP.sb (sp_call (ok_count_ends T) rfl (hr.mono (by decide)) T.g_count_ends T.F_count_ends.kp T.b_count_ends pass0 (sba_cons (sb_var 0) sba_nil) (lcl lnl)))))) (sss_cons (ss_for rfl PassesOwn.never (sj_enum T.m_enumerate (sp_pure (sb_var 0))) (sg_tup rfl (sgs_cons (sg_name 2 sc.nd) (sgs_cons (sg_name 3 sc.nd) sgs_nil))) (sss_frzN 3 (sss_one (ss_for rfl PassesOwn.never (sj_list (sp_pure (sb_var 3))) (sg_name 4 sc.nd) (sss_one (ss_put (se_p (sp_pure (sb_var 2))) (spl_name 1) (sb_var 4))) (by simp [Tg.sl, slL])))) (by simp [Tg.sl, slL])) (sss_one (ss_ret (se_move 1 (by decide))))))

abbrev nn_behind_of : List PySem.Str := ["drawing", "behind", "row", "at", "end"]
theorem sc_behind_of : FnScope nn_behind_of ["drawing"] (defScope (topS 7)) := ⟨rfl, rfl, rfl, by decide +kernel, rfl, by decide +kernel, by decide +kernel⟩
def bb_behind_of : SM := (sSeq (sSet 1 (lift (mRep (mk (.lst .o) (lCons (mC (.int 0)) lNil)) (mFn ff_count_ends (lCons (mVar 0) lNil))))) (sSeq (sFor (wL (mPure (mVar 0))) (.nm 2) (sFor (wE (mPure (mVar 2))) (.tp [(.nm 3), (.nm 4)]) (sPut 1 (plName 1) (mItem (mVar 2) (mOp2 fSub (mVar 3) (mC (.int 1)))) (lift (mPure (mVar 4)))))) (sRet (eMove 1))))
def ff_behind_of : FM := runP 5 bb_behind_of
theorem ok_behind_of (T : Tx K mg f fd) : FnOk P w K mg base CX0 2 f.f_behind_of fd.f_behind_of ["drawing"] (spP K 1 ff_behind_of) :=
  have sc := sc_behind_of
  fn_pure T.F_behind_of sc (by decide) fun cdv A outer s H E hr => (sss_cons (ss_set 1 sc.nd (by decide) (se_p (sp_rep (SP.sb (sp_lst (spa_cons sp_int spa_nil))) (SP.sb (sp_call (ok_count_ends T) rfl (hr.mono (by decide)) T.g_count_ends T.F_count_ends.kp T.b_count_ends pass0 (sba_cons (sb_var 0) sba_nil) (lcl lnl)))))) (sss_cons (ss_for rfl PassesOwn.never (sj_list (sp_pure (sb_var 0))) (sg_name 2 sc.nd) (sss_one (ss_for rfl PassesOwn.never (sj_enum T.m_enumerate (sp_pure (sb_var 2))) (sg_tup rfl (sgs_cons (sg_name 3 sc.nd) (sgs_cons (sg_name 4 sc.nd) sgs_nil))) (sss_one (ss_put (se_p (sp_pure (sb_var 4))) (spl_name 1) (sb_item (sb_var 2) (SP.sb (sp_sub (sb_var 3) (SP.sb sp_int)))))) (by simp [Tg.sl, slL]))) (by simp [Tg.sl, slL])) (sss_one (ss_ret (se_move 1 (by decide))))))

abbrev nn_visits_of : List PySem.Str := ["walk", "at", "end"]
theorem sc_visits_of : FnScope nn_visits_of ["walk"] (defScope (topS 13)) := ⟨rfl, rfl, rfl, by decide +kernel, rfl, by decide +kernel, by decide +kernel⟩
def bb_visits_of : SM := (sRet (lift (mLc (wE (mVar 0)) (.tp [(.nm 1), (.nm 2)]) bYes (mk .tup (lCons (mFn ff_mate_of (lCons (mItem (mVar 0) (mOp2 fSub (mVar 1) (mC (.int 1)))) lNil)) (lCons (mPure (mVar 2)) lNil))) [1, 2])))
def ff_visits_of : FM := runP 3 bb_visits_of
theorem ok_visits_of (T : Tx K mg f fd) : FnOk P w K mg base CX0 2 f.f_visits_of fd.f_visits_of ["walk"] (spP K 1 ff_visits_of) :=
  have sc := sc_visits_of
  fn_pure T.F_visits_of sc (by decide) fun cdv A outer s H E hr => (sss_one (ss_ret (se_p (sp_lc (own := [("at", 1), ("end", 2)]) rfl sc.nd (si_enum T.m_enumerate (sb_var 0)) (okb (N := nn_visits_of) (sc := defScope (topS 13)) (by decide +kernel)) (fun _ _ _ _ _ => (sg_tup rfl (sgs_cons (sg_name 1 sc.nd) (sgs_cons (sg_name 2 sc.nd) sgs_nil)))) (fun _ _ _ _ _ => sts_nil) (fun _ _ _ _ _ => (sp_tup (spa_cons (sp_call (ok_mate_of T) rfl (hr.mono (by decide)) T.g_mate_of T.F_mate_of.kp T.b_mate_of pass0 (sba_cons (sb_item (sb_var 0) (SP.sb (sp_sub (sb_var 1) (SP.sb sp_int)))) sba_nil) (lcl lnl)) (spa_cons (sp_pure (sb_var 2)) spa_nil)))) (by simp [Tg.sl, slL])))))

abbrev nn__law_take : List PySem.Str := ["_law_box", "_law_many", "_law_cell", "_law_draw"]
theorem sc__law_take : FnScope nn__law_take ["_law_box", "_law_many"] (defScope (topS 19)) := ⟨rfl, rfl, rfl, by decide +kernel, rfl, by decide +kernel, by decide +kernel⟩
def bb__law_take : SM := (sSeq (sPut 0 (plName 0) (mC (.int 3)) (lift (mOp2 fAdd (mItem (mVar 0) (mC (.int 3))) (mC (.int 1))))) (sSeq (sSet 2 (lift (mC (.int 0)))) (sSeq (sIf (liftT (mAnd (mB (mOp2 fEq (mItem (mVar 0) (mC (.int 2))) (mC (.int 0)))) (mB (mOp2 fLt (mItem (mVar 0) (mC (.int 1))) (mCall fLen (lCons (mItem (mVar 0) (mC (.int 0))) lNil)))))) (sSeq (sSet 2 (lift (mPure (mItem (mItem (mVar 0) (mC (.int 0))) (mItem (mVar 0) (mC (.int 1))))))) (sSeq (sPut 0 (plName 0) (mC (.int 1)) (lift (mOp2 fAdd (mItem (mVar 0) (mC (.int 1))) (mC (.int 1))))) (sSeq (sIf (liftT (mB (mOp2 fLt (mVar 2) (mOp2 fPow (mC (.int 10)) (mC (.int 18)))))) (sRet (lift (mFn ff__law_mixed (lCons (mVar 2) (lCons (mItem (mVar 0) (mC (.int 3))) (lCons (mVar 1) lNil)))))) sNx) (sPut 0 (plName 0) (mC (.int 2)) (lift (mPure (mVar 2))))))) sNx) (sSeq (sIf (liftT (mB (mOp2 fGt (mItem (mVar 0) (mC (.int 2))) (mC (.int 0))))) (sSeq (sSet 3 (lift (mOp2 fMod (mItem (mVar 0) (mC (.int 2))) (mVar 1)))) (sSeq (sPut 0 (plName 0) (mC (.int 2)) (lift (mOp2 fDiv (mItem (mVar 0) (mC (.int 2))) (mVar 1)))) (sRet (eMove 3)))) sNx) (sSeq (sIf (liftT (mB (mOp2 fGt (mCall fLen (lCons (mItem (mVar 0) (mC (.int 0))) lNil)) (mC (.int 0))))) (sSet 2 (lift (mPure (mItem (mItem (mVar 0) (mC (.int 0))) (mOp2 fMod (mItem (mVar 0) (mC (.int 3))) (mCall fLen (lCons (mItem (mVar 0) (mC (.int 0))) lNil))))))) sNx) (sRet (lift (mFn ff__law_mixed (lCons (mVar 2) (lCons (mItem (mVar 0) (mC (.int 3))) (lCons (mVar 1) lNil)))))))))))
def ff__law_take : FMu := runM 4 [0] bb__law_take
theorem ok__law_take (T : Tx K mg f fd) : FnOk P w K mg base CX0 2 f.f__law_take fd.f__law_take ["_law_box", "_law_many"] (spM K 2 [0] ff__law_take) :=
  have sc := sc__law_take
  fn_mut T.F__law_take sc (by decide) (by decide) fun cdv A outer s H E hr => (sss_cons (ss_put (se_p (sp_add (sb_item (sb_var 0) (SP.sb sp_int)) (SP.sb sp_int))) (spl_name 0) (SP.sb sp_int)) (sss_cons (ss_set 2 sc.nd (by decide) (se_p sp_int)) (sss_cons (ss_if (set_t (st_w (sw_and (st_eq hr (sb_item (sb_var 0) (SP.sb sp_int)) (SP.sb sp_int)) (sw_and1 (st_lt (sb_item (sb_var 0) (SP.sb sp_int)) (SP.sb (sp_callB call_len_seq opn_len bt_len T.m_len (sba_cons (sb_item (sb_var 0) (SP.sb sp_int)) sba_nil)))))))) (sss_cons (ss_set 2 sc.nd (by decide) (se_p (sp_item (sb_item (sb_var 0) (SP.sb sp_int)) (sb_item (sb_var 0) (SP.sb sp_int))))) (sss_cons (ss_put (se_p (sp_add (sb_item (sb_var 0) (SP.sb sp_int)) (SP.sb sp_int))) (spl_name 0) (SP.sb sp_int)) (sss_cons (ss_if (set_t (st_lt (sb_var 2) (SP.sb (sp_pow (SP.sb sp_int) (SP.sb sp_int))))) (sss_one (ss_ret (se_p (sp_call (ok__law_mixed T) rfl (hr.mono (by decide)) T.g__law_mixed T.F__law_mixed.kp T.b__law_mixed pass0 (sba_cons (sb_var 2) (sba_cons (sb_item (sb_var 0) (SP.sb sp_int)) (sba_cons (sb_var 1) sba_nil))) (lcl (lcl (lcl lnl))))))) sss_nil) (sss_one (ss_put (se_p (sp_pure (sb_var 2))) (spl_name 0) (SP.sb sp_int)))))) sss_nil) (sss_cons (ss_if (set_t (st_gt (sb_item (sb_var 0) (SP.sb sp_int)) (SP.sb sp_int))) (sss_cons (ss_set 3 sc.nd (by decide) (se_p (sp_mod (sb_item (sb_var 0) (SP.sb sp_int)) (sb_var 1)))) (sss_cons (ss_put (se_p (sp_div (sb_item (sb_var 0) (SP.sb sp_int)) (sb_var 1))) (spl_name 0) (SP.sb sp_int)) (sss_one (ss_ret (se_move 3 (by decide)))))) sss_nil) (sss_cons (ss_if (set_t (st_gt (SP.sb (sp_callB call_len_seq opn_len bt_len T.m_len (sba_cons (sb_item (sb_var 0) (SP.sb sp_int)) sba_nil))) (SP.sb sp_int))) (sss_one (ss_set 2 sc.nd (by decide) (se_p (sp_item (sb_item (sb_var 0) (SP.sb sp_int)) (SP.sb (sp_mod (sb_item (sb_var 0) (SP.sb sp_int)) (SP.sb (sp_callB call_len_seq opn_len bt_len T.m_len (sba_cons (sb_item (sb_var 0) (SP.sb sp_int)) sba_nil))))))))) sss_nil) (sss_one (ss_ret (se_p (sp_call (ok__law_mixed T) rfl (hr.mono (by decide)) T.g__law_mixed T.F__law_mixed.kp T.b__law_mixed pass0 (sba_cons (sb_var 2) (sba_cons (sb_item (sb_var 0) (SP.sb sp_int)) (sba_cons (sb_var 1) sba_nil))) (lcl (lcl (lcl lnl))))))))))))

abbrev nn__law_row : List PySem.Str := ["_law_found", "_law_due", "_law_at", "_law_number"]
theorem sc__law_row : FnScope nn__law_row ["_law_found", "_law_due"] (defScope (topS 21)) := ⟨rfl, rfl, rfl, by decide +kernel, rfl, by decide +kernel, by decide +kernel⟩
def bb__law_row : SM := (sSeq (sIf (liftT (mOr (mNotT (mB (mIsi "list" (mVar 0)))) (mB (mOp2 fNe (mCall fLen (lCons (mVar 0) lNil)) (mCall fLen (lCons (mVar 1) lNil)))))) (sRet (lift (mC (.bl false)))) sNx) (sSeq (sFor (wE (mPure (mVar 1))) (.tp [(.nm 2), (.nm 3)]) (sIf (liftT (mOr (mNotT (mTru (mFn ff__law_whole (lCons (mItem (mVar 0) (mVar 2)) lNil)))) (mB (mOp2 fNe (mItem (mVar 0) (mVar 2)) (mVar 3))))) (sRet (lift (mC (.bl false)))) sNx)) (sRet (lift (mC (.bl true))))))
def ff__law_row : FM := runP 4 bb__law_row
theorem ok__law_row (T : Tx K mg f fd) : FnOk P w K mg base CX0 2 f.f__law_row fd.f__law_row ["_law_found", "_law_due"] (spP K 2 ff__law_row) :=
  have sc := sc__law_row
  fn_pure T.F__law_row sc (by decide) fun cdv A outer s H E hr => (sss_cons (ss_if (set_t (st_w (sw_or (st_not (st_val (SP.sb (sp_isi T.m_isinstance T.m_list bt_list (sb_var 0) bt_isinstance)))) (sw_or1 (st_ne hr (SP.sb (sp_callB call_len_seq opn_len bt_len T.m_len (sba_cons (sb_var 0) sba_nil))) (SP.sb (sp_callB call_len_seq opn_len bt_len T.m_len (sba_cons (sb_var 1) sba_nil)))))))) (sss_one (ss_ret (se_p sp_bl))) sss_nil) (sss_cons (ss_for rfl PassesOwn.never (sj_enum T.m_enumerate (sp_pure (sb_var 1))) (sg_tup rfl (sgs_cons (sg_name 2 sc.nd) (sgs_cons (sg_name 3 sc.nd) sgs_nil))) (sss_one (ss_if (set_t (st_w (sw_or (st_not (st_tru (SP.sb (sp_call (ok__law_whole T) rfl (hr.mono (by decide)) T.g__law_whole T.F__law_whole.kp T.b__law_whole pass0 (sba_cons (sb_item (sb_var 0) (sb_var 2)) sba_nil) (lcl lnl))))) (sw_or1 (st_ne hr (sb_item (sb_var 0) (sb_var 2)) (sb_var 3)))))) (sss_one (ss_ret (se_p sp_bl))) sss_nil)) (by simp [Tg.sl, slL])) (sss_one (ss_ret (se_p sp_bl)))))

abbrev nn__law_cut : List PySem.Str := ["_law_rows_here", "_law_turn_here", "_law_many", "_law_seats_here", "_law_told", "_law_at", "_law_end", "_law_ring", "_law_last", "_law_copy", "_law_row_here"]
theorem sc__law_cut : FnScope nn__law_cut ["_law_rows_here", "_law_turn_here"] (defScope (topS 33)) := ⟨rfl, rfl, rfl, by decide +kernel, rfl, by decide +kernel, by decide +kernel⟩
def bb__law_cut : SM := (sSeq (sSet 2 (lift (mCall fSum (lCons (mLc (wL (mVar 0)) (.nm 10) bYes (mCall fLen (lCons (mVar 10) lNil)) [10]) lNil)))) (sSeq (sSet 3 (lift (mFn ff__law_seats (lCons (mVar 0) lNil)))) (sSeq (sSet 4 (lift (mLc (wL (mVar 0)) (.nm 10) bYes (mCallL fList (lCons (mVar 10) lNil)) [10]))) (sSeq (sFor (wE (mPure (mVar 1))) (.tp [(.nm 5), (.nm 6)]) (sSeq (sSet 7 (lift (mFn ff__law_begun (lCons (mItem (mVar 0) (mItem (mVar 3) (mVar 6))) (lCons (mFn ff__law_mate (lCons (mItem (mVar 1) (mOp2 fSub (mVar 5) (mC (.int 1)))) lNil)) lNil))))) (sSeq (sSet 8 (lift (mIdx (mVar 7) (mVar 6)))) (sSeq (sPut 4 (plName 4) (mItem (mVar 3) (mVar 6)) (lift (mFn ff__law_least (lCons (mSl (mVar 7) oNo (oYes (mOp2 fAdd (mVar 8) (mC (.int 1))))) lNil)))) (sSeq (sSet 9 (lift (mOp2 fAdd (mOp2 fAdd (mVar 2) (mOp2 fMul (mC (.int 2)) (mOp2 fMod (mOp2 fSub (mVar 5) (mC (.int 1))) (mCall fLen (lCons (mVar 1) lNil))))) (mC (.int 1))))) (sApp 4 (plName 4) (lift (mFn ff__law_least (lCons (mCat (mCat (mk (.lst .o) (lCons (mOp2 fAdd (mVar 2) (mOp2 fMul (mC (.int 2)) (mVar 5))) lNil)) (mSl (mVar 7) (oYes (mOp2 fAdd (mVar 8) (mC (.int 1)))) oNo)) (mk (.lst .o) (lCons (mPure (mVar 9)) lNil))) lNil))))))))) (sRet (eMove 4))))))
def ff__law_cut : FM := runP 11 bb__law_cut
theorem ok__law_cut (T : Tx K mg f fd) : FnOk P w K mg base CX0 2 f.f__law_cut fd.f__law_cut ["_law_rows_here", "_law_turn_here"] (spP K 2 ff__law_cut) :=
  have sc := sc__law_cut
  fn_pure T.F__law_cut sc (by decide) fun cdv A outer s H E hr => (sss_cons (ss_set 2 sc.nd (by decide) (se_p (sp_callB (cr_sum rfl) opn_sum bt_sum T.m_sum (sba_cons (SP.sb (sp_lc (own := [("_law_row_here", 10)]) rfl sc.nd (si_list (sb_var 0)) (okb (N := nn__law_cut) (sc := defScope (topS 33)) (by decide +kernel)) (fun _ _ _ _ _ => (sg_name 10 sc.nd)) (fun _ _ _ _ _ => sts_nil) (fun _ _ _ _ _ => (sp_callB call_len_seq opn_len bt_len T.m_len (sba_cons (sb_var 10) sba_nil))) (by simp [Tg.sl, slL]))) sba_nil)))) (sss_cons (ss_set 3 sc.nd (by decide) (se_p (sp_call (ok__law_seats T) rfl (hr.mono (by decide)) T.g__law_seats T.F__law_seats.kp T.b__law_seats pass0 (sba_cons (sb_var 0) sba_nil) (lcl lnl)))) (sss_cons (ss_setLc (own := [("_law_row_here", 10)]) 4 (by decide) rfl sc.nd (si_list (sb_var 0)) (okb (N := nn__law_cut) (sc := defScope (topS 33)) (by decide +kernel)) (fun _ _ _ _ _ => (sg_name 10 sc.nd)) (fun _ _ _ _ _ => sts_nil) (fun _ _ _ _ _ => (sp_callTyL call_list_of opnl_list bt_list T.m_list (sba_cons (sb_var 10) sba_nil))) (by simp [Tg.sl, slL]) (sw_true rfl rfl rfl (by decide +kernel))) (sss_cons (ss_for rfl PassesOwn.never (sj_enum T.m_enumerate (sp_pure (sb_var 1))) (sg_tup rfl (sgs_cons (sg_name 5 sc.nd) (sgs_cons (sg_name 6 sc.nd) sgs_nil))) (sss_cons (ss_set 7 sc.nd (by decide) (se_p (sp_call (ok__law_begun T) rfl (hr.mono (by decide)) T.g__law_begun T.F__law_begun.kp T.b__law_begun pass0 (sba_cons (sb_item (sb_var 0) (sb_item (sb_var 3) (sb_var 6))) (sba_cons (SP.sb (sp_call (ok__law_mate T) rfl (hr.mono (by decide)) T.g__law_mate T.F__law_mate.kp T.b__law_mate pass0 (sba_cons (sb_item (sb_var 1) (SP.sb (sp_sub (sb_var 5) (SP.sb sp_int)))) sba_nil) (lcl lnl))) sba_nil)) (lcl (lcl lnl))))) (sss_cons (ss_set 8 sc.nd (by decide) (se_p (sp_index (sb_var 7) (sb_var 6)))) (sss_cons (ss_put (se_p (sp_call (ok__law_least T) rfl (hr.mono (by decide)) T.g__law_least T.F__law_least.kp T.b__law_least pass0 (sba_cons (SP.sb (sp_slice (sb_var 7) so_none (so_some (SP.sb (sp_add (sb_var 8) (SP.sb sp_int)))))) sba_nil) (lcl lnl))) (spl_name 4) (sb_item (sb_var 3) (sb_var 6))) (sss_cons (ss_set 9 sc.nd (by decide) (se_p (sp_add (SP.sb (sp_add (sb_var 2) (SP.sb (sp_mul (SP.sb sp_int) (SP.sb (sp_mod (SP.sb (sp_sub (sb_var 5) (SP.sb sp_int))) (SP.sb (sp_callB call_len_seq opn_len bt_len T.m_len (sba_cons (sb_var 1) sba_nil))))))))) (SP.sb sp_int)))) (sss_one (ss_append (spl_name 4) (se_p (sp_call (ok__law_least T) rfl (hr.mono (by decide)) T.g__law_least T.F__law_least.kp T.b__law_least pass0 (sba_cons (SP.sb (sp_cat (SP.sb (sp_cat (SP.sb (sp_lst (spa_cons (sp_add (sb_var 2) (SP.sb (sp_mul (SP.sb sp_int) (sb_var 5)))) spa_nil))) (SP.sb (sp_slice (sb_var 7) (so_some (SP.sb (sp_add (sb_var 8) (SP.sb sp_int)))) so_none)))) (SP.sb (sp_lst (spa_cons (sp_pure (sb_var 9)) spa_nil))))) sba_nil) (lcl lnl))))))))) (by simp [Tg.sl, slL])) (sss_one (ss_ret (se_move 4 (by decide))))))))

abbrev nn__law_fours : List PySem.Str := ["_law_r", "_law_c", "_law_s", "_law_told", "_law_i", "_law_j", "_law_p", "_law_left", "_law_down"]
theorem sc__law_fours : FnScope nn__law_fours ["_law_r", "_law_c", "_law_s"] (defScope (topS 35)) := ⟨rfl, rfl, rfl, by decide +kernel, rfl, by decide +kernel, by decide +kernel⟩
def bb__law_fours : SM := (sSeq (sSet 3 (lift (mk (.lst .o) lNil))) (sSeq (sFor (wR (rg1 (mVar 0))) (.nm 4) (sFor (wR (rg1 (mVar 1))) (.nm 5) (sSeq (sSet 6 (lift (mOp2 fAdd (mOp2 fMul (mVar 4) (mVar 1)) (mVar 5)))) (sSeq (sSet 7 (lift (mOp2 fAdd (mOp2 fMul (mVar 4) (mVar 1)) (mOp2 fMod (mOp2 fSub (mVar 5) (mC (.int 1))) (mVar 1))))) (sSeq (sSet 8 (lift (mOp2 fSub (mVar 6) (mVar 1)))) (sSeq (sIf (liftT (mB (mOp2 fEq (mVar 4) (mC (.int 0))))) (sSet 8 (lift (mOp2 fAdd (mOp2 fMul (mOp2 fSub (mVar 0) (mC (.int 1))) (mVar 1)) (mOp2 fMod (mOp2 fSub (mVar 5) (mVar 2)) (mVar 1))))) sNx) (sApp 3 (plName 3) (lift (mFn ff__law_least (lCons (mk (.lst .o) (lCons (mOp2 fAdd (mOp2 fMul (mC (.int 4)) (mVar 6)) (mC (.int 2))) (lCons (mOp2 fMul (mC (.int 4)) (mVar 6)) (lCons (mOp2 fAdd (mOp2 fMul (mC (.int 4)) (mVar 8)) (mC (.int 3))) (lCons (mOp2 fAdd (mOp2 fMul (mC (.int 4)) (mVar 7)) (mC (.int 1))) lNil))))) lNil)))))))))) (sRet (eMove 3))))
def ff__law_fours : FM := runP 9 bb__law_fours
theorem ok__law_fours (T : Tx K mg f fd) : FnOk P w K mg base CX0 2 f.f__law_fours fd.f__law_fours ["_law_r", "_law_c", "_law_s"] (spP K 3 ff__law_fours) :=
  have sc := sc__law_fours
  fn_pure T.F__law_fours sc (by decide) fun cdv A outer s H E hr => (sss_cons (ss_set 3 sc.nd (by decide) (se_p (sp_lst spa_nil))) (sss_cons (ss_for rfl PassesOwn.never (sj_range1 T.m_range (sb_var 0)) (sg_name 4 sc.nd) (sss_one (ss_for rfl PassesOwn.never (sj_range1 T.m_range (sb_var 1)) (sg_name 5 sc.nd) (sss_cons (ss_set 6 sc.nd (by decide) (se_p (sp_add (SP.sb (sp_mul (sb_var 4) (sb_var 1))) (sb_var 5)))) (sss_cons (ss_set 7 sc.nd (by decide) (se_p (sp_add (SP.sb (sp_mul (sb_var 4) (sb_var 1))) (SP.sb (sp_mod (SP.sb (sp_sub (sb_var 5) (SP.sb sp_int))) (sb_var 1)))))) (sss_cons (ss_set 8 sc.nd (by decide) (se_p (sp_sub (sb_var 6) (sb_var 1)))) (sss_cons (ss_if (set_t (st_eq hr (sb_var 4) (SP.sb sp_int))) (sss_one (ss_set 8 sc.nd (by decide) (se_p (sp_add (SP.sb (sp_mul (SP.sb (sp_sub (sb_var 0) (SP.sb sp_int))) (sb_var 1))) (SP.sb (sp_mod (SP.sb (sp_sub (sb_var 5) (sb_var 2))) (sb_var 1))))))) sss_nil) (sss_one (ss_append (spl_name 3) (se_p (sp_call (ok__law_least T) rfl (hr.mono (by decide)) T.g__law_least T.F__law_least.kp T.b__law_least pass0 (sba_cons (SP.sb (sp_lst (spa_cons (sp_add (SP.sb (sp_mul (SP.sb sp_int) (sb_var 6))) (SP.sb sp_int)) (spa_cons (sp_mul (SP.sb sp_int) (sb_var 6)) (spa_cons (sp_add (SP.sb (sp_mul (SP.sb sp_int) (sb_var 8))) (SP.sb sp_int)) (spa_cons (sp_add (SP.sb (sp_mul (SP.sb sp_int) (sb_var 7))) (SP.sb sp_int)) spa_nil)))))) sba_nil) (lcl lnl))))))))) (by simp [Tg.sl, slL]))) (by simp [Tg.sl, slL])) (sss_one (ss_ret (se_move 3 (by decide))))))

abbrev nn_is_walk : List PySem.Str := ["drawing", "ends", "homes", "end", "at"]
theorem sc_is_walk : FnScope nn_is_walk ["drawing", "ends"] (defScope (topS 10)) := ⟨rfl, rfl, rfl, by decide +kernel, rfl, by decide +kernel, by decide +kernel⟩
def bb_is_walk : SM := (sSeq (sSet 2 (lift (mFn ff_homes_of (lCons (mVar 0) lNil)))) (sSeq (sFor (wL (mPure (mVar 1))) (.nm 3) (sIf (liftT (mOr (mB (mOp2 fLt (mVar 3) (mC (.int 0)))) (mB (mOp2 fGe (mVar 3) (mCall fLen (lCons (mVar 2) lNil)))))) (sRet (lift (mC (.bl false)))) sNx)) (sRet (lift (mCall fAll (lCons (mLc (wE (mVar 1)) (.tp [(.nm 4), (.nm 3)]) bYes (mOp2 fEq (mItem (mVar 2) (mFn ff_mate_of (lCons (mItem (mVar 1) (mOp2 fSub (mVar 4) (mC (.int 1)))) lNil))) (mItem (mVar 2) (mVar 3))) [4, 3]) lNil))))))
def ff_is_walk : FM := runP 5 bb_is_walk
theorem ok_is_walk (T : Tx K mg f fd) : FnOk P w K mg base CX0 3 f.f_is_walk fd.f_is_walk ["drawing", "ends"] (spP K 2 ff_is_walk) :=
  have sc := sc_is_walk
  fn_pure T.F_is_walk sc (by decide) fun cdv A outer s H E hr => (sss_cons (ss_set 2 sc.nd (by decide) (se_p (sp_call (ok_homes_of T) rfl (hr.mono (by decide)) T.g_homes_of T.F_homes_of.kp T.b_homes_of pass0 (sba_cons (sb_var 0) sba_nil) (lcl lnl)))) (sss_cons (ss_for rfl PassesOwn.never (sj_list (sp_pure (sb_var 1))) (sg_name 3 sc.nd) (sss_one (ss_if (set_t (st_w (sw_or (st_lt (sb_var 3) (SP.sb sp_int)) (sw_or1 (st_ge (sb_var 3) (SP.sb (sp_callB call_len_seq opn_len bt_len T.m_len (sba_cons (sb_var 2) sba_nil)))))))) (sss_one (ss_ret (se_p sp_bl))) sss_nil)) (by simp [Tg.sl, slL])) (sss_one (ss_ret (se_p (sp_callB (cr_all rfl) opn_all bt_all T.m_all (sba_cons (SP.sb (sp_lc (own := [("at", 4), ("end", 3)]) rfl sc.nd (si_enum T.m_enumerate (sb_var 1)) (okb (N := nn_is_walk) (sc := defScope (topS 10)) (by decide +kernel)) (fun _ _ _ _ _ => (sg_tup rfl (sgs_cons (sg_name 4 sc.nd) (sgs_cons (sg_name 3 sc.nd) sgs_nil)))) (fun _ _ _ _ _ => sts_nil) (fun _ _ _ _ _ => (sp_eq hr (sb_item (sb_var 2) (SP.sb (sp_call (ok_mate_of T) rfl (hr.mono (by decide)) T.g_mate_of T.F_mate_of.kp T.b_mate_of pass0 (sba_cons (sb_item (sb_var 1) (SP.sb (sp_sub (sb_var 4) (SP.sb sp_int)))) sba_nil) (lcl lnl)))) (sb_item (sb_var 2) (sb_var 3)))) (by simp [Tg.sl, slL]))) sba_nil)))))))

abbrev nn__law_rows : List PySem.Str := ["_law_found", "_law_due", "_law_at", "_law_row_here"]
theorem sc__law_rows : FnScope nn__law_rows ["_law_found", "_law_due"] (defScope (topS 22)) := ⟨rfl, rfl, rfl, by decide +kernel, rfl, by decide +kernel, by decide +kernel⟩
def bb__law_rows : SM := (sSeq (sIf (liftT (mOr (mNotT (mB (mIsi "list" (mVar 0)))) (mB (mOp2 fNe (mCall fLen (lCons (mVar 0) lNil)) (mCall fLen (lCons (mVar 1) lNil)))))) (sRet (lift (mC (.bl false)))) sNx) (sSeq (sFor (wE (mPure (mVar 1))) (.tp [(.nm 2), (.nm 3)]) (sIf (liftT (mNotT (mTru (mFn ff__law_row (lCons (mItem (mVar 0) (mVar 2)) (lCons (mVar 3) lNil)))))) (sRet (lift (mC (.bl false)))) sNx)) (sRet (lift (mC (.bl true))))))
def ff__law_rows : FM := runP 4 bb__law_rows
theorem ok__law_rows (T : Tx K mg f fd) : FnOk P w K mg base CX0 3 f.f__law_rows fd.f__law_rows ["_law_found", "_law_due"] (spP K 2 ff__law_rows) :=
  have sc := sc__law_rows
  fn_pure T.F__law_rows sc (by decide) fun cdv A outer s H E hr => (sss_cons (ss_if (set_t (st_w (sw_or (st_not (st_val (SP.sb (sp_isi T.m_isinstance T.m_list bt_list (sb_var 0) bt_isinstance)))) (sw_or1 (st_ne hr (SP.sb (sp_callB call_len_seq opn_len bt_len T.m_len (sba_cons (sb_var 0) sba_nil))) (SP.sb (sp_callB call_len_seq opn_len bt_len T.m_len (sba_cons (sb_var 1) sba_nil)))))))) (sss_one (ss_ret (se_p sp_bl))) sss_nil) (sss_cons (ss_for rfl PassesOwn.never (sj_enum T.m_enumerate (sp_pure (sb_var 1))) (sg_tup rfl (sgs_cons (sg_name 2 sc.nd) (sgs_cons (sg_name 3 sc.nd) sgs_nil))) (sss_one (ss_if (set_t (st_not (st_tru (SP.sb (sp_call (ok__law_row T) rfl (hr.mono (by decide)) T.g__law_row T.F__law_row.kp T.b__law_row pass0 (sba_cons (sb_item (sb_var 0) (sb_var 2)) (sba_cons (sb_var 3) sba_nil)) (lcl (lcl lnl))))))) (sss_one (ss_ret (se_p sp_bl))) sss_nil)) (by simp [Tg.sl, slL])) (sss_one (ss_ret (se_p sp_bl)))))

abbrev nn__law_lay_ends : List PySem.Str := ["_law_box", "_law_rows_here", "_law_first", "_law_behind_last", "_law_end", "_law_row_here"]
theorem sc__law_lay_ends : FnScope nn__law_lay_ends ["_law_box", "_law_rows_here", "_law_first", "_law_behind_last"] (defScope (topS 25)) := ⟨rfl, rfl, rfl, by decide +kernel, rfl, by decide +kernel, by decide +kernel⟩
def bb__law_lay_ends : SM := (sSeq (sFor (wR (rg2 (mVar 2) (mVar 3))) (.nm 4) (sDrop (eCallM ff__law_put [.mv 1, .ev (eCallM ff__law_take [.mv 0, .ev (lift (mCall fSum (lCons (mLc (wL (mVar 1)) (.nm 5) bYes (mCall fMax2 (lCons (mC (.int 1)) (lCons (mCall fLen (lCons (mVar 5) lNil)) lNil))) [5]) lNil)))]), .bor 4]))) (sFrz 1 (sRet (lift (mPure (mVar 1))))))
def ff__law_lay_ends : FMu := runM 6 [0, 1] bb__law_lay_ends
theorem ok__law_lay_ends (T : Tx K mg f fd) : FnOk P w K mg base CX0 3 f.f__law_lay_ends fd.f__law_lay_ends ["_law_box", "_law_rows_here", "_law_first", "_law_behind_last"] (spM K 4 [0, 1] ff__law_lay_ends) :=
  have sc := sc__law_lay_ends
  fn_mut T.F__law_lay_ends sc (by decide) (by decide) fun cdv A outer s H E hr => (sss_cons (ss_for rfl PassesOwn.never (sj_range2 T.m_range (sb_var 2) (sb_var 3)) (sg_name 4 sc.nd) (sss_one (ss_expr (se_callM (ok__law_put T) (hr.mono (by decide)) T.g__law_put T.F__law_put.kp T.b__law_put pass0 rfl rfl (by simp [muS, boS]) (sea_mut 1 (sea_ev (se_callM (ok__law_take T) (hr.mono (by decide)) T.g__law_take T.F__law_take.kp T.b__law_take pass0 rfl rfl (by simp [muS, boS]) (sea_mut 0 (sea_ev (se_p (sp_callB (cr_sum rfl) opn_sum bt_sum T.m_sum (sba_cons (SP.sb (sp_lc (own := [("_law_row_here", 5)]) rfl sc.nd (si_list (sb_var 1)) (okb (N := nn__law_lay_ends) (sc := defScope (topS 25)) (by decide +kernel)) (fun _ _ _ _ _ => (sg_name 5 sc.nd)) (fun _ _ _ _ _ => sts_nil) (fun _ _ _ _ _ => (sp_callB (call_max2 rfl) opn_max2 bt_max T.m_max (sba_cons (SP.sb sp_int) (sba_cons (SP.sb (sp_callB call_len_seq opn_len bt_len T.m_len (sba_cons (sb_var 5) sba_nil))) sba_nil)))) (by simp [Tg.sl, slL]))) sba_nil))) sea_nil))) (sea_bor 4 sea_nil)))))) (by simp [Tg.sl, slL])) (sss_frzN 1 (sss_one (ss_ret (se_p (sp_pure (sb_var 1)))))))

abbrev nn__law_shuffled : List PySem.Str := ["_law_box", "_law_many", "_law_pool", "_law_told"]
theorem sc__law_shuffled : FnScope nn__law_shuffled ["_law_box", "_law_many"] (defScope (topS 26)) := ⟨rfl, rfl, rfl, by decide +kernel, rfl, by decide +kernel, by decide +kernel⟩
def bb__law_shuffled : SM := (sSeq (sSet 2 (lift (mRg (rg1 (mVar 1))))) (sSeq (sSet 3 (lift (mk (.lst .o) lNil))) (sSeq (whD (liftT (mB (mOp2 fGt (mCall fLen (lCons (mVar 2) lNil)) (mC (.int 0))))) (sApp 3 (plName 3) (ePopAt 2 (plName 2) (eCallM ff__law_take [.mv 0, .ev (lift (mCall fLen (lCons (mVar 2) lNil)))]))) 100000) (sRet (eMove 3)))))
def ff__law_shuffled : FMu := runM 4 [0] bb__law_shuffled
theorem ok__law_shuffled (T : Tx K mg f fd) : FnOk P w K mg base CX0 3 f.f__law_shuffled fd.f__law_shuffled ["_law_box", "_law_many"] (spM K 2 [0] ff__law_shuffled) :=
  have sc := sc__law_shuffled
  fn_mut T.F__law_shuffled sc (by decide) (by decide) fun cdv A outer s H E hr => (sss_cons (ss_set 2 sc.nd (by decide) (se_p (sp_listRg rfl T.m_list (srg_1 T.m_range (sb_var 1))))) (sss_cons (ss_set 3 sc.nd (by decide) (se_p (sp_lst spa_nil))) (sss_cons (ss_while 100000 PassesOwn.never (set_t (st_gt (SP.sb (sp_callB call_len_seq opn_len bt_len T.m_len (sba_cons (sb_var 2) sba_nil))) (SP.sb sp_int))) (sss_one (ss_append (spl_name 3) (se_popAt (spl_name 2) (se_callM (ok__law_take T) (hr.mono (by decide)) T.g__law_take T.F__law_take.kp T.b__law_take pass0 rfl rfl (by simp [muS, boS]) (sea_mut 0 (sea_ev (se_p (sp_callB call_len_seq opn_len bt_len T.m_len (sba_cons (sb_var 2) sba_nil))) sea_nil))) (by decide))))) (sss_one (ss_ret (se_move 3 (by decide)))))))

abbrev nn__law_turn : List PySem.Str := ["_law_box", "_law_names", "_law_k", "_law_first", "_law_turn_here", "_law_i", "_law_end"]
theorem sc__law_turn : FnScope nn__law_turn ["_law_box", "_law_names", "_law_k"] (defScope (topS 31)) := ⟨rfl, rfl, rfl, by decide +kernel, rfl, by decide +kernel, by decide +kernel⟩
def bb__law_turn : SM := (sSeq (sSet 3 (eCallM ff__law_take [.mv 0, .bor 2])) (sSeq (sSet 4 (lift (mLc (wR (rg1 (mVar 2))) (.nm 5) bYes (mPure (mItem (mVar 1) (mOp2 fMul (mC (.int 2)) (mOp2 fMod (mOp2 fAdd (mVar 3) (mVar 5)) (mVar 2))))) [5]))) (sSeq (sIf (eB (eOp2 fEq (eCallM ff__law_take [.mv 0, .ev (lift (mC (.int 2)))]) (lift (mC (.int 1))))) (sSet 4 (lift (mLc (wL (mSl3 (mVar 4) oNo oNo (oYes (mOp1 fNeg (mC (.int 1)))))) (.nm 6) bYes (mFn ff__law_mate (lCons (mVar 6) lNil)) [6]))) sNx) (sRet (eMove 4)))))
def ff__law_turn : FMu := runM 7 [0] bb__law_turn
theorem ok__law_turn (T : Tx K mg f fd) : FnOk P w K mg base CX0 3 f.f__law_turn fd.f__law_turn ["_law_box", "_law_names", "_law_k"] (spM K 3 [0] ff__law_turn) :=
  have sc := sc__law_turn
  fn_mut T.F__law_turn sc (by decide) (by decide) fun cdv A outer s H E hr => (sss_cons (ss_set 3 sc.nd (by decide) (se_callM (ok__law_take T) (hr.mono (by decide)) T.g__law_take T.F__law_take.kp T.b__law_take pass0 rfl rfl (by simp [muS, boS]) (sea_mut 0 (sea_bor 2 sea_nil)))) (sss_cons (ss_setLc (own := [("_law_i", 5)]) 4 (by decide) rfl sc.nd (si_range1 T.m_range (sb_var 2)) (okb (N := nn__law_turn) (sc := defScope (topS 31)) (by decide +kernel)) (fun _ _ _ _ _ => (sg_name 5 sc.nd)) (fun _ _ _ _ _ => sts_nil) (fun _ _ _ _ _ => (sp_item (sb_var 1) (SP.sb (sp_mul (SP.sb sp_int) (SP.sb (sp_mod (SP.sb (sp_add (sb_var 3) (sb_var 5))) (sb_var 2))))))) (by simp [Tg.sl, slL]) (sw_true rfl rfl rfl (by decide +kernel))) (sss_cons (ss_if (set_eq hr (se_callM (ok__law_take T) (hr.mono (by decide)) T.g__law_take T.F__law_take.kp T.b__law_take pass0 rfl rfl (by simp [muS, boS]) (sea_mut 0 (sea_ev (se_p sp_int) sea_nil))) (se_p sp_int)) (sss_one (ss_setLc (own := [("_law_end", 6)]) 4 (by decide) rfl sc.nd (si_list (SP.sb (sp_slice3 (sb_var 4) so_none so_none (so_some (SP.sb (sp_neg (SP.sb sp_int))))))) (okb (N := nn__law_turn) (sc := defScope (topS 31)) (by decide +kernel)) (fun _ _ _ _ _ => (sg_name 6 sc.nd)) (fun _ _ _ _ _ => sts_nil) (fun _ _ _ _ _ => (sp_call (ok__law_mate T) rfl (hr.mono (by decide)) T.g__law_mate T.F__law_mate.kp T.b__law_mate pass0 (sba_cons (sb_var 6) sba_nil) (lcl lnl))) (by simp [Tg.sl, slL]) (sw_true rfl rfl rfl (by decide +kernel)))) sss_nil) (sss_one (ss_ret (se_move 4 (by decide)))))))

abbrev nn_is_round : List PySem.Str := ["drawing", "ends", "homes", "places", "ties", "end"]
theorem sc_is_round : FnScope nn_is_round ["drawing", "ends"] (defScope (topS 11)) := ⟨rfl, rfl, rfl, by decide +kernel, rfl, by decide +kernel, by decide +kernel⟩
def bb_is_round : SM := (sSeq (sIf (liftT (mOr (mNotT (mTru (mVar 1))) (mNotT (mTru (mFn ff_is_walk (lCons (mVar 0) (lCons (mVar 1) lNil))))))) (sRet (lift (mC (.bl false)))) sNx) (sSeq (sSet 2 (lift (mFn ff_homes_of (lCons (mVar 0) lNil)))) (sSeq (sSet 3 (lift (mDc (wL (mVar 1)) (.nm 5) bYes (mItem (mVar 2) (mVar 5)) (mC (.bl true)) [5]))) (sSeq (sSet 4 (lift (mDc (wL (mVar 1)) (.nm 5) bYes (mOp2 fDiv (mVar 5) (mC (.int 2))) (mC (.bl true)) [5]))) (sRet (lift (mAndV (mOp2 fEq (mCall fLenD (lCons (mVar 3) lNil)) (mCall fLen (lCons (mVar 1) lNil))) (mOp2 fEq (mCall fLenD (lCons (mVar 4) lNil)) (mCall fLen (lCons (mVar 1) lNil))))))))))
def ff_is_round : FM := runP 6 bb_is_round
theorem ok_is_round (T : Tx K mg f fd) : FnOk P w K mg base CX0 4 f.f_is_round fd.f_is_round ["drawing", "ends"] (spP K 2 ff_is_round) :=
  have sc := sc_is_round
  fn_pure T.F_is_round sc (by decide) fun cdv A outer s H E hr => (sss_cons (ss_if (set_t (st_w (sw_or (st_not (st_tru (sb_var 1))) (sw_or1 (st_not (st_tru (SP.sb (sp_call (ok_is_walk T) rfl (hr.mono (by decide)) T.g_is_walk T.F_is_walk.kp T.b_is_walk pass0 (sba_cons (sb_var 0) (sba_cons (sb_var 1) sba_nil)) (lcl (lcl lnl)))))))))) (sss_one (ss_ret (se_p sp_bl))) sss_nil) (sss_cons (ss_set 2 sc.nd (by decide) (se_p (sp_call (ok_homes_of T) rfl (hr.mono (by decide)) T.g_homes_of T.F_homes_of.kp T.b_homes_of pass0 (sba_cons (sb_var 0) sba_nil) (lcl lnl)))) (sss_cons (ss_setDc (own := [("end", 5)]) 3 (by decide) rfl sc.nd (si_list (sb_var 1)) (okb (N := nn_is_round) (sc := defScope (topS 11)) (by decide +kernel)) (fun _ _ _ _ _ => (sg_name 5 sc.nd)) (fun _ _ _ _ _ => sts_nil) (fun _ _ _ _ _ => (sb_item (sb_var 2) (sb_var 5))) (fun _ _ _ _ _ => (SP.sb sp_bl)) (by simp [Tg.sl, slL]) (sw_dc rfl rfl rfl (by decide +kernel))) (sss_cons (ss_setDc (own := [("end", 5)]) 4 (by decide) rfl sc.nd (si_list (sb_var 1)) (okb (N := nn_is_round) (sc := defScope (topS 11)) (by decide +kernel)) (fun _ _ _ _ _ => (sg_name 5 sc.nd)) (fun _ _ _ _ _ => sts_nil) (fun _ _ _ _ _ => (SP.sb (sp_div (sb_var 5) (SP.sb sp_int)))) (fun _ _ _ _ _ => (SP.sb sp_bl)) (by simp [Tg.sl, slL]) (sw_dc rfl rfl rfl (by decide +kernel))) (sss_one (ss_ret (se_p (sp_and (sp_eq hr (SP.sb (sp_callB call_lenD opn_lenD bt_len T.m_len (sba_cons (sb_var 3) sba_nil))) (SP.sb (sp_callB call_len_seq opn_len bt_len T.m_len (sba_cons (sb_var 1) sba_nil)))) (sp_one (sp_eq hr (SP.sb (sp_callB call_lenD opn_lenD bt_len T.m_len (sba_cons (sb_var 4) sba_nil))) (SP.sb (sp_callB call_len_seq opn_len bt_len T.m_len (sba_cons (sb_var 1) sba_nil)))))))))))))

abbrev nn__law_named : List PySem.Str := ["_law_box", "_law_rows_here", "_law_names", "_law_tie", "_law_turn_here", "_law_seats_here", "_law_told", "_law_at", "_law_row_here", "_law_end"]
theorem sc__law_named : FnScope nn__law_named ["_law_box", "_law_rows_here"] (defScope (topS 27)) := ⟨rfl, rfl, rfl, by decide +kernel, rfl, by decide +kernel, by decide +kernel⟩
def bb__law_named : SM := (sSeq (sSet 2 (lift (mk (.lst .o) lNil))) (sSeq (sForE (eCallM ff__law_shuffled [.mv 0, .ev (lift (mOp2 fDiv (mCall fSum (lCons (mLc (wL (mVar 1)) (.nm 8) bYes (mCall fLen (lCons (mVar 8) lNil)) [8]) lNil)) (mC (.int 2))))]) (.nm 3) (sSeq (sSet 4 (eCallM ff__law_take [.mv 0, .ev (lift (mC (.int 2)))])) (sSeq (sApp 2 (plName 2) (lift (mOp2 fAdd (mOp2 fMul (mC (.int 2)) (mVar 3)) (mVar 4)))) (sApp 2 (plName 2) (lift (mOp2 fSub (mOp2 fAdd (mOp2 fMul (mC (.int 2)) (mVar 3)) (mC (.int 1))) (mVar 4))))))) (sSeq (sSet 5 (eCallM ff__law_shuffled [.mv 0, .ev (lift (mCall fLen (lCons (mVar 1) lNil)))])) (sSeq (sSet 6 (lift (mLc (wL (mVar 1)) (.nm 8) bYes (mk (.lst .o) lNil) [8]))) (sSeq (sFor (wE (mPure (mVar 1))) (.tp [(.nm 7), (.nm 8)]) (sPut 6 (plName 6) (mItem (mVar 5) (mVar 7)) (lift (mFn ff__law_least (lCons (mLc (wL (mVar 8)) (.nm 9) bYes (mPure (mItem (mVar 2) (mVar 9))) [9]) lNil))))) (sRet (eTup2 (eMove 6) (eMove 2))))))))
def ff__law_named : FMu := runM 10 [0] bb__law_named
theorem ok__law_named (T : Tx K mg f fd) : FnOk P w K mg base CX0 4 f.f__law_named fd.f__law_named ["_law_box", "_law_rows_here"] (spM K 2 [0] ff__law_named) :=
  have sc := sc__law_named
  fn_mut T.F__law_named sc (by decide) (by decide) fun cdv A outer s H E hr => (sss_cons (ss_set 2 sc.nd (by decide) (se_p (sp_lst spa_nil))) (sss_cons (ss_forE rfl PassesOwn.never (se_callM (ok__law_shuffled T) (hr.mono (by decide)) T.g__law_shuffled T.F__law_shuffled.kp T.b__law_shuffled pass0 rfl rfl (by simp [muS, boS]) (sea_mut 0 (sea_ev (se_p (sp_div (SP.sb (sp_callB (cr_sum rfl) opn_sum bt_sum T.m_sum (sba_cons (SP.sb (sp_lc (own := [("_law_row_here", 8)]) rfl sc.nd (si_list (sb_var 1)) (okb (N := nn__law_named) (sc := defScope (topS 27)) (by decide +kernel)) (fun _ _ _ _ _ => (sg_name 8 sc.nd)) (fun _ _ _ _ _ => sts_nil) (fun _ _ _ _ _ => (sp_callB call_len_seq opn_len bt_len T.m_len (sba_cons (sb_var 8) sba_nil))) (by simp [Tg.sl, slL]))) sba_nil))) (SP.sb sp_int))) sea_nil))) (sg_name 3 sc.nd) (sss_cons (ss_set 4 sc.nd (by decide) (se_callM (ok__law_take T) (hr.mono (by decide)) T.g__law_take T.F__law_take.kp T.b__law_take pass0 rfl rfl (by simp [muS, boS]) (sea_mut 0 (sea_ev (se_p sp_int) sea_nil)))) (sss_cons (ss_append (spl_name 2) (se_p (sp_add (SP.sb (sp_mul (SP.sb sp_int) (sb_var 3))) (sb_var 4)))) (sss_one (ss_append (spl_name 2) (se_p (sp_sub (SP.sb (sp_add (SP.sb (sp_mul (SP.sb sp_int) (sb_var 3))) (SP.sb sp_int))) (sb_var 4))))))) (by simp [Tg.sl, slL])) (sss_cons (ss_set 5 sc.nd (by decide) (se_callM (ok__law_shuffled T) (hr.mono (by decide)) T.g__law_shuffled T.F__law_shuffled.kp T.b__law_shuffled pass0 rfl rfl (by simp [muS, boS]) (sea_mut 0 (sea_ev (se_p (sp_callB call_len_seq opn_len bt_len T.m_len (sba_cons (sb_var 1) sba_nil))) sea_nil)))) (sss_cons (ss_setLc (own := [("_law_row_here", 8)]) 6 (by decide) rfl sc.nd (si_list (sb_var 1)) (okb (N := nn__law_named) (sc := defScope (topS 27)) (by decide +kernel)) (fun _ _ _ _ _ => (sg_name 8 sc.nd)) (fun _ _ _ _ _ => sts_nil) (fun _ _ _ _ _ => (sp_lst spa_nil)) (by simp [Tg.sl, slL]) (sw_true rfl rfl rfl (by decide +kernel))) (sss_cons (ss_for rfl PassesOwn.never (sj_enum T.m_enumerate (sp_pure (sb_var 1))) (sg_tup rfl (sgs_cons (sg_name 7 sc.nd) (sgs_cons (sg_name 8 sc.nd) sgs_nil))) (sss_one (ss_put (se_p (sp_call (ok__law_least T) rfl (hr.mono (by decide)) T.g__law_least T.F__law_least.kp T.b__law_least pass0 (sba_cons (SP.sb (sp_lc (own := [("_law_end", 9)]) rfl sc.nd (si_list (sb_var 8)) (okb (N := nn__law_named) (sc := defScope (topS 27)) (by decide +kernel)) (fun _ _ _ _ _ => (sg_name 9 sc.nd)) (fun _ _ _ _ _ => sts_nil) (fun _ _ _ _ _ => (sp_item (sb_var 2) (sb_var 9))) (by simp [Tg.sl, slL]))) sba_nil) (lcl lnl))) (spl_name 6) (sb_item (sb_var 5) (sb_var 7)))) (by simp [Tg.sl, slL])) (sss_one (ss_ret (se_tup2 (se_move 6 (by decide)) (se_move 2 (by decide))))))))))

abbrev nn__law_ringed : List PySem.Str := ["_law_box", "_law_k", "_law_places", "_law_ties", "_law_rows_here", "_law_i"]
theorem sc__law_ringed : FnScope nn__law_ringed ["_law_box", "_law_k", "_law_places", "_law_ties"] (defScope (topS 30)) := ⟨rfl, rfl, rfl, by decide +kernel, rfl, by decide +kernel, by decide +kernel⟩
def bb__law_ringed : SM := (sSeq (sSet 4 (lift (mLc (wR (rg1 (mVar 1))) (.nm 5) bYes (mk (.lst .o) (lCons (mOp2 fSub (mOp2 fMul (mC (.int 2)) (mVar 5)) (mC (.int 1))) (lCons (mOp2 fMul (mC (.int 2)) (mVar 5)) lNil))) [5]))) (sSeq (sPut 4 (plName 4) (mC (.int 0)) (lift (mk (.lst .o) (lCons (mC (.int 0)) (lCons (mOp2 fSub (mOp2 fMul (mC (.int 2)) (mVar 1)) (mC (.int 1))) lNil))))) (sSeq (sSet 4 (eCat (eMove 4) (lift (mLc (wR (rg1 (mVar 2))) (.nm 5) bYes (mk (.lst .o) lNil) [5])))) (sRet (eCallN ff__law_lay_ends [.mv 0, .mv 4, .ev (lift (mOp2 fMul (mC (.int 2)) (mVar 1))), .ev (lift (mOp2 fAdd (mOp2 fMul (mC (.int 2)) (mVar 1)) (mOp2 fMul (mC (.int 2)) (mVar 3))))])))))
def ff__law_ringed : FMu := runM 6 [0] bb__law_ringed
theorem ok__law_ringed (T : Tx K mg f fd) : FnOk P w K mg base CX0 4 f.f__law_ringed fd.f__law_ringed ["_law_box", "_law_k", "_law_places", "_law_ties"] (spM K 4 [0] ff__law_ringed) :=
  have sc := sc__law_ringed
  fn_mut T.F__law_ringed sc (by decide) (by decide) fun cdv A outer s H E hr => (sss_cons (ss_setLc (own := [("_law_i", 5)]) 4 (by decide) rfl sc.nd (si_range1 T.m_range (sb_var 1)) (okb (N := nn__law_ringed) (sc := defScope (topS 30)) (by decide +kernel)) (fun _ _ _ _ _ => (sg_name 5 sc.nd)) (fun _ _ _ _ _ => sts_nil) (fun _ _ _ _ _ => (sp_lst (spa_cons (sp_sub (SP.sb (sp_mul (SP.sb sp_int) (sb_var 5))) (SP.sb sp_int)) (spa_cons (sp_mul (SP.sb sp_int) (sb_var 5)) spa_nil)))) (by simp [Tg.sl, slL]) (sw_true rfl rfl rfl (by decide +kernel))) (sss_cons (ss_put (se_p (sp_lst (spa_cons sp_int (spa_cons (sp_sub (SP.sb (sp_mul (SP.sb sp_int) (sb_var 1))) (SP.sb sp_int)) spa_nil)))) (spl_name 4) (SP.sb sp_int)) (sss_cons (ss_set 4 sc.nd (by decide) (se_cat (se_move 4 (by decide)) (se_p (sp_lc (own := [("_law_i", 5)]) rfl sc.nd (si_range1 T.m_range (sb_var 2)) (okb (N := nn__law_ringed) (sc := defScope (topS 30)) (by decide +kernel)) (fun _ _ _ _ _ => (sg_name 5 sc.nd)) (fun _ _ _ _ _ => sts_nil) (fun _ _ _ _ _ => (sp_lst spa_nil)) (by simp [Tg.sl, slL]))))) (sss_one (ss_ret (se_callN (ok__law_lay_ends T) (hr.mono (by decide)) T.g__law_lay_ends T.F__law_lay_ends.kp T.b__law_lay_ends pass0 rfl rfl (by simp [muS, boS]) (sea_mut 0 (sea_mut 4 (sea_ev (se_p (sp_mul (SP.sb sp_int) (sb_var 1))) (sea_ev (se_p (sp_add (SP.sb (sp_mul (SP.sb sp_int) (sb_var 1))) (SP.sb (sp_mul (SP.sb sp_int) (sb_var 3))))) sea_nil))))))))))

abbrev nn__law_three : List PySem.Str := ["_law_told", "_law_due"]
theorem sc__law_three : FnScope nn__law_three ["_law_told", "_law_due"] (defScope (topS 34)) := ⟨rfl, rfl, rfl, by decide +kernel, rfl, by decide +kernel, by decide +kernel⟩
def bb__law_three : SM := (sSeq (sIf (liftT (mOr (mNotT (mB (mIsi "tuple" (mVar 0)))) (mB (mOp2 fNe (mCall fLen (lCons (mVar 0) lNil)) (mC (.int 3)))))) (sRet (lift (mC (.bl false)))) sNx) (sSeq (sIf (liftT (mNotT (mTru (mFn ff__law_rows (lCons (mItem (mVar 0) (mC (.int 0))) (lCons (mItem (mVar 1) (mC (.int 0))) lNil)))))) (sRet (lift (mC (.bl false)))) sNx) (sRet (lift (mAndV (mFn ff__law_row (lCons (mItem (mVar 0) (mC (.int 1))) (lCons (mItem (mVar 1) (mC (.int 1))) lNil))) (mFn ff__law_row (lCons (mItem (mVar 0) (mC (.int 2))) (lCons (mItem (mVar 1) (mC (.int 2))) lNil))))))))
def ff__law_three : FM := runP 2 bb__law_three
theorem ok__law_three (T : Tx K mg f fd) : FnOk P w K mg base CX0 4 f.f__law_three fd.f__law_three ["_law_told", "_law_due"] (spP K 2 ff__law_three) :=
  have sc := sc__law_three
  fn_pure T.F__law_three sc (by decide) fun cdv A outer s H E hr => (sss_cons (ss_if (set_t (st_w (sw_or (st_not (st_val (SP.sb (sp_isi T.m_isinstance T.m_tuple bt_tuple (sb_var 0) bt_isinstance)))) (sw_or1 (st_ne hr (SP.sb (sp_callB call_len_seq opn_len bt_len T.m_len (sba_cons (sb_var 0) sba_nil))) (SP.sb sp_int)))))) (sss_one (ss_ret (se_p sp_bl))) sss_nil) (sss_cons (ss_if (set_t (st_not (st_tru (SP.sb (sp_call (ok__law_rows T) rfl (hr.mono (by decide)) T.g__law_rows T.F__law_rows.kp T.b__law_rows pass0 (sba_cons (sb_item (sb_var 0) (SP.sb sp_int)) (sba_cons (sb_item (sb_var 1) (SP.sb sp_int)) sba_nil)) (lcl (lcl lnl))))))) (sss_one (ss_ret (se_p sp_bl))) sss_nil) (sss_one (ss_ret (se_p (sp_and (sp_call (ok__law_row T) rfl (hr.mono (by decide)) T.g__law_row T.F__law_row.kp T.b__law_row pass0 (sba_cons (sb_item (sb_var 0) (SP.sb sp_int)) (sba_cons (sb_item (sb_var 1) (SP.sb sp_int)) sba_nil)) (lcl (lcl lnl))) (sp_one (sp_call (ok__law_row T) rfl (hr.mono (by decide)) T.g__law_row T.F__law_row.kp T.b__law_row pass0 (sba_cons (sb_item (sb_var 0) (SP.sb sp_int)) (sba_cons (sb_item (sb_var 1) (SP.sb sp_int)) sba_nil)) (lcl (lcl lnl))))))))))

abbrev nn_check_round : List PySem.Str := ["drawing", "ends"]
theorem sc_check_round : FnScope nn_check_round ["drawing", "ends"] (defScope (topS 12)) := ⟨rfl, rfl, rfl, by decide +kernel, rfl, by decide +kernel, by decide +kernel⟩
def bb_check_round : SM := (sIf (liftT (mNotT (mTru (mFn ff_is_round (lCons (mVar 0) (lCons (mVar 1) lNil)))))) (fun _ => none) sNx)
def ff_check_round : FM := runP 2 bb_check_round
theorem ok_check_round (T : Tx K mg f fd) : FnOk P w K mg base CX0 5 f.f_check_round fd.f_check_round ["drawing", "ends"] (spP K 2 ff_check_round) :=
  have sc := sc_check_round
  fn_pure T.F_check_round sc (by decide) fun cdv A outer s H E hr => (sss_one (ss_if (set_t (st_not (st_tru (SP.sb (sp_call (ok_is_round T) rfl (hr.mono (by decide)) T.g_is_round T.F_is_round.kp T.b_is_round pass0 (sba_cons (sb_var 0) (sba_cons (sb_var 1) sba_nil)) (lcl (lcl lnl))))))) (sss_one ss_none) sss_nil))

abbrev nn__law_great : List PySem.Str := ["_law_box", "_law_r", "_law_c", "_law_line", "_law_rows_here", "_law_names", "_law_j"]
theorem sc__law_great : FnScope nn__law_great ["_law_box"] (defScope (topS 36)) := ⟨rfl, rfl, rfl, by decide +kernel, rfl, by decide +kernel, by decide +kernel⟩
def bb__law_great : SM := (sSeq (sSet 1 (eOp2 fAdd (lift (mC (.int 2))) (eCallM ff__law_take [.mv 0, .ev (lift (mC (.int 24)))]))) (sSeq (sSet 2 (lift (mOp1 fNeg (mOp2 fDiv (mOp1 fNeg (mC (.int 125))) (mVar 1))))) (sSeq (sSet 3 (eOp2 fMul (eCallM ff__law_take [.mv 0, .bor 1]) (lift (mPure (mVar 2))))) (sSeq (sAsgE (.tp [(.nm 4), (.nm 5)]) (eCallM ff__law_named [.mv 0, .ev (eCallM (pM ff__law_fours) [.bor 1, .bor 2, .ev (eCallM ff__law_take [.mv 0, .bor 2])])])) (sFrz 5 (sRet (eMk .tup [.ev (eMove 4), .ev (lift (mPure (mVar 5))), .ev (lift (mLc (wR (rg1 (mVar 2))) (.nm 6) bYes (mPure (mItem (mVar 5) (mOp2 fMul (mC (.int 4)) (mOp2 fAdd (mVar 3) (mVar 6))))) [6]))])))))))
def ff__law_great : FMu := runM 7 [0] bb__law_great
theorem ok__law_great (T : Tx K mg f fd) : FnOk P w K mg base CX0 5 f.f__law_great fd.f__law_great ["_law_box"] (spM K 1 [0] ff__law_great) :=
  have sc := sc__law_great
  fn_mut T.F__law_great sc (by decide) (by decide) fun cdv A outer s H E hr => (sss_cons (ss_set 1 sc.nd (by decide) (se_add (se_p sp_int) (se_callM (ok__law_take T) (hr.mono (by decide)) T.g__law_take T.F__law_take.kp T.b__law_take pass0 rfl rfl (by simp [muS, boS]) (sea_mut 0 (sea_ev (se_p sp_int) sea_nil))))) (sss_cons (ss_set 2 sc.nd (by decide) (se_p (sp_neg (SP.sb (sp_div (SP.sb (sp_neg (SP.sb sp_int))) (sb_var 1)))))) (sss_cons (ss_set 3 sc.nd (by decide) (se_mul (se_callM (ok__law_take T) (hr.mono (by decide)) T.g__law_take T.F__law_take.kp T.b__law_take pass0 rfl rfl (by simp [muS, boS]) (sea_mut 0 (sea_bor 1 sea_nil))) (se_p (sp_pure (sb_var 2))))) (sss_cons (ss_asgE (se_callM (ok__law_named T) (hr.mono (by decide)) T.g__law_named T.F__law_named.kp T.b__law_named pass0 rfl rfl (by simp [muS, boS]) (sea_mut 0 (sea_ev (se_callM (ok_pM (ok__law_fours T)) (hr.mono (by decide)) T.g__law_fours T.F__law_fours.kp T.b__law_fours pass0 rfl rfl (by simp [muS, boS]) (sea_bor 1 (sea_bor 2 (sea_ev (se_callM (ok__law_take T) (hr.mono (by decide)) T.g__law_take T.F__law_take.kp T.b__law_take pass0 rfl rfl (by simp [muS, boS]) (sea_mut 0 (sea_bor 2 sea_nil))) sea_nil)))) sea_nil))) (sg_tup rfl (sgs_cons (sg_name 4 sc.nd) (sgs_cons (sg_name 5 sc.nd) sgs_nil))) (by simp [Tg.sl, slL])) (sss_frzN 5 (sss_one (ss_ret (se_tupA (sea_ev (se_move 4 (by decide)) (sea_ev (se_p (sp_pure (sb_var 5))) (sea_ev (se_p (sp_lc (own := [("_law_j", 6)]) rfl sc.nd (si_range1 T.m_range (sb_var 2)) (okb (N := nn__law_great) (sc := defScope (topS 36)) (by decide +kernel)) (fun _ _ _ _ _ => (sg_name 6 sc.nd)) (fun _ _ _ _ _ => sts_nil) (fun _ _ _ _ _ => (sp_item (sb_var 5) (SP.sb (sp_mul (SP.sb sp_int) (SP.sb (sp_add (sb_var 3) (sb_var 6))))))) (by simp [Tg.sl, slL]))) sea_nil)))))))))))

abbrev nn_cut_along : List PySem.Str := ["drawing", "turn", "homes", "behind", "edge", "rows", "at", "comes", "goes", "row"]
theorem sc_cut_along : FnScope nn_cut_along ["drawing", "turn"] (defScope (topS 16)) := ⟨rfl, rfl, rfl, by decide +kernel, rfl, by decide +kernel, by decide +kernel⟩
def bb_cut_along : SM := (sSeq (sDrop (lift (mFn ff_check_round (lCons (mVar 0) (lCons (mVar 1) lNil))))) (sSeq (sSet 2 (lift (mFn ff_homes_of (lCons (mVar 0) lNil)))) (sSeq (sSet 3 (lift (mFn ff_behind_of (lCons (mVar 0) lNil)))) (sSeq (sSet 4 (lift (mLc (wR (rg1 (mCall fLen (lCons (mVar 1) lNil)))) (.nm 6) bYes (mOp2 fAdd (mCall fLen (lCons (mVar 3) lNil)) (mOp2 fMul (mC (.int 2)) (mVar 6))) [6]))) (sSeq (sSet 5 (lift (mLc (wL (mVar 0)) (.nm 9) bYes (mCallL fList (lCons (mVar 9) lNil)) [9]))) (sSeq (sFor (wE (mFn ff_visits_of (lCons (mVar 1) lNil))) (.tp [(.nm 6), (.tp [(.nm 7), (.nm 8)])]) (sSeq (sPut 5 (plName 5) (mItem (mVar 2) (mVar 8)) (lift (mFn ff_begun_least (lCons (mCat (mCat (mk (.lst .o) (lCons (mPure (mVar 7)) lNil)) (mFn ff_between (lCons (mVar 3) (lCons (mVar 7) (lCons (mVar 8) lNil))))) (mk (.lst .o) (lCons (mPure (mVar 8)) lNil))) lNil)))) (sApp 5 (plName 5) (lift (mFn ff_begun_least (lCons (mCat (mCat (mk (.lst .o) (lCons (mPure (mItem (mVar 4) (mVar 6))) lNil)) (mFn ff_between (lCons (mVar 3) (lCons (mVar 8) (lCons (mVar 7) lNil))))) (mk (.lst .o) (lCons (mOp2 fAdd (mItem (mVar 4) (mOp2 fSub (mVar 6) (mC (.int 1)))) (mC (.int 1))) lNil))) lNil)))))) (sRet (eMk .tup [.ev (eMove 5), .ev (lift (mCallL fList (lCons (mVar 1) lNil))), .ev (eMove 4)]))))))))
def ff_cut_along : FM := runP 10 bb_cut_along
theorem ok_cut_along (T : Tx K mg f fd) : FnOk P w K mg base CX0 6 f.f_cut_along fd.f_cut_along ["drawing", "turn"] (spP K 2 ff_cut_along) :=
  have sc := sc_cut_along
  fn_pure T.F_cut_along sc (by decide) fun cdv A outer s H E hr => (sss_cons (ss_expr (se_p (sp_call (ok_check_round T) rfl (hr.mono (by decide)) T.g_check_round T.F_check_round.kp T.b_check_round pass0 (sba_cons (sb_var 0) (sba_cons (sb_var 1) sba_nil)) (lcl (lcl lnl))))) (sss_cons (ss_set 2 sc.nd (by decide) (se_p (sp_call (ok_homes_of T) rfl (hr.mono (by decide)) T.g_homes_of T.F_homes_of.kp T.b_homes_of pass0 (sba_cons (sb_var 0) sba_nil) (lcl lnl)))) (sss_cons (ss_set 3 sc.nd (by decide) (se_p (sp_call (ok_behind_of T) rfl (hr.mono (by decide)) T.g_behind_of T.F_behind_of.kp T.b_behind_of pass0 (sba_cons (sb_var 0) sba_nil) (lcl lnl)))) (sss_cons (ss_setLc (own := [("at", 6)]) 4 (by decide) rfl sc.nd (si_range1 T.m_range (SP.sb (sp_callB call_len_seq opn_len bt_len T.m_len (sba_cons (sb_var 1) sba_nil)))) (okb (N := nn_cut_along) (sc := defScope (topS 16)) (by decide +kernel)) (fun _ _ _ _ _ => (sg_name 6 sc.nd)) (fun _ _ _ _ _ => sts_nil) (fun _ _ _ _ _ => (sp_add (SP.sb (sp_callB call_len_seq opn_len bt_len T.m_len (sba_cons (sb_var 3) sba_nil))) (SP.sb (sp_mul (SP.sb sp_int) (sb_var 6))))) (by simp [Tg.sl, slL]) (sw_true rfl rfl rfl (by decide +kernel))) (sss_cons (ss_setLc (own := [("row", 9)]) 5 (by decide) rfl sc.nd (si_list (sb_var 0)) (okb (N := nn_cut_along) (sc := defScope (topS 16)) (by decide +kernel)) (fun _ _ _ _ _ => (sg_name 9 sc.nd)) (fun _ _ _ _ _ => sts_nil) (fun _ _ _ _ _ => (sp_callTyL call_list_of opnl_list bt_list T.m_list (sba_cons (sb_var 9) sba_nil))) (by simp [Tg.sl, slL]) (sw_true rfl rfl rfl (by decide +kernel))) (sss_cons (ss_for rfl PassesOwn.never (sj_enum T.m_enumerate (sp_call (ok_visits_of T) rfl (hr.mono (by decide)) T.g_visits_of T.F_visits_of.kp T.b_visits_of pass0 (sba_cons (sb_var 1) sba_nil) (lcl lnl))) (sg_tup rfl (sgs_cons (sg_name 6 sc.nd) (sgs_cons (sg_tup rfl (sgs_cons (sg_name 7 sc.nd) (sgs_cons (sg_name 8 sc.nd) sgs_nil))) sgs_nil))) (sss_cons (ss_put (se_p (sp_call (ok_begun_least T) rfl (hr.mono (by decide)) T.g_begun_least T.F_begun_least.kp T.b_begun_least pass0 (sba_cons (SP.sb (sp_cat (SP.sb (sp_cat (SP.sb (sp_lst (spa_cons (sp_pure (sb_var 7)) spa_nil))) (SP.sb (sp_call (ok_between T) rfl (hr.mono (by decide)) T.g_between T.F_between.kp T.b_between pass0 (sba_cons (sb_var 3) (sba_cons (sb_var 7) (sba_cons (sb_var 8) sba_nil))) (lcl (lcl (lcl lnl))))))) (SP.sb (sp_lst (spa_cons (sp_pure (sb_var 8)) spa_nil))))) sba_nil) (lcl lnl))) (spl_name 5) (sb_item (sb_var 2) (sb_var 8))) (sss_one (ss_append (spl_name 5) (se_p (sp_call (ok_begun_least T) rfl (hr.mono (by decide)) T.g_begun_least T.F_begun_least.kp T.b_begun_least pass0 (sba_cons (SP.sb (sp_cat (SP.sb (sp_cat (SP.sb (sp_lst (spa_cons (sp_item (sb_var 4) (sb_var 6)) spa_nil))) (SP.sb (sp_call (ok_between T) rfl (hr.mono (by decide)) T.g_between T.F_between.kp T.b_between pass0 (sba_cons (sb_var 3) (sba_cons (sb_var 8) (sba_cons (sb_var 7) sba_nil))) (lcl (lcl (lcl lnl))))))) (SP.sb (sp_lst (spa_cons (sp_add (sb_item (sb_var 4) (SP.sb (sp_sub (sb_var 6) (SP.sb sp_int)))) (SP.sb sp_int)) spa_nil))))) sba_nil) (lcl lnl)))))) (by simp [Tg.sl, slL])) (sss_one (ss_ret (se_tupA (sea_ev (se_move 5 (by decide)) (sea_ev (se_p (sp_callTyL call_list_of opnl_list bt_list T.m_list (sba_cons (sb_var 1) sba_nil))) (sea_ev (se_move 4 (by decide)) sea_nil))))))))))))

abbrev nn_law : List PySem.Str := ["_law_script", "_law_box", "_law_k", "_law_places", "_law_rows_here", "_law_names", "_law_turn_here", "_law_handed", "_law_due", "_law_told", "_law_row_here", "_law_at"]
theorem sc_law : FnScope nn_law ["_law_script"] (defScope (topS 37)) := ⟨rfl, rfl, rfl, by decide +kernel, rfl, by decide +kernel, by decide +kernel⟩
def bb_law : SM := (sSeq (sSet 1 (lift (mk (.lst .o) (lCons (mCallL fList (lCons (mVar 0) lNil)) (lCons (mC (.int 0)) (lCons (mC (.int 0)) (lCons (mC (.int 0)) lNil))))))) (sSeq (sSet 2 (eOp2 fAdd (lift (mC (.int 1))) (eCallM ff__law_take [.mv 1, .ev (lift (mC (.int 6)))]))) (sSeq (sIf (eB (eOp2 fEq (eCallM ff__law_take [.mv 1, .ev (lift (mC (.int 8)))]) (lift (mC (.int 0))))) (sSet 2 (eOp2 fAdd (lift (mPure (mVar 2))) (eCallM ff__law_take [.mv 1, .ev (lift (mC (.int 60)))]))) sNx) (sSeq (sSet 3 (eCallM ff__law_take [.mv 1, .ev (lift (mC (.int 5)))])) (sSeq (sAsgE (.tp [(.nm 4), (.nm 5)]) (eCallM ff__law_named [.mv 1, .ev (eCallN ff__law_ringed [.mv 1, .bor 2, .bor 3, .ev (eCallM ff__law_take [.mv 1, .ev (lift (mC (.int 7)))])])])) (sSeq (sSet 6 (eCallM ff__law_turn [.mv 1, .bor 5, .bor 2])) (sFrz 5 (sSeq (sIf (eB (eOp2 fEq (eCallM ff__law_take [.mv 1, .ev (lift (mC (.int 16)))]) (lift (mC (.int 0))))) (sAsgE (.tp [(.nm 4), (.nm 5), (.nm 6)]) (eCallN ff__law_great [.mv 1])) sNx) (sSeq (sSet 7 (lift (mk (.lst .o) (lCons (mLc (wL (mVar 4)) (.nm 10) bYes (mCallL fList (lCons (mVar 10) lNil)) [10]) (lCons (mCallL fList (lCons (mVar 6) lNil)) lNil))))) (sFrz 6 (sSeq (sSet 8 (lift (mk .tup (lCons (mFn ff__law_cut (lCons (mVar 4) (lCons (mVar 6) lNil))) (lCons (mPure (mVar 6)) (lCons (mLc (wR (rg1 (mCall fLen (lCons (mVar 6) lNil)))) (.nm 11) bYes (mOp2 fAdd (mCall fLen (lCons (mVar 5) lNil)) (mOp2 fMul (mC (.int 2)) (mVar 11))) [11]) lNil)))))) (sSeq (sSet 9 (lift (mFn ff_cut_along (lCons (mItem (mVar 7) (mC (.int 0))) (lCons (mItem (mVar 7) (mC (.int 1))) lNil))))) (sFrz 4 (sSeq (sIf (liftT (mOr (mNotT (mTru (mFn ff__law_three (lCons (mVar 9) (lCons (mVar 8) lNil))))) (mB (mOp2 fNe (mVar 7) (mk (.lst .o) (lCons (mPure (mVar 4)) (lCons (mPure (mVar 6)) lNil))))))) (sRet (lift (mC (.bl false)))) sNx) (sSeq (sForMP 9 10 (plItem 9 (plName 9) (mC (.int 0))) (sApp 10 (plName 10) (lift (mC (.int 0))))) (sSeq (sIf (liftT (mB (mOp2 fNe (mItem (mVar 9) (mC (.int 0))) (mLc (wL (mItem (mVar 8) (mC (.int 0)))) (.nm 10) bYes (mCat (mVar 10) (mk (.lst .o) (lCons (mC (.int 0)) lNil))) [10])))) (sRet (lift (mC (.bl false)))) sNx) (sSeq (sApp 9 (plItem 9 (plName 9) (mC (.int 1))) (lift (mC (.int 0)))) (sSeq (sApp 9 (plItem 9 (plName 9) (mC (.int 2))) (lift (mC (.int 0)))) (sSeq (sIf (liftT (mB (mOp2 fNe (mVar 7) (mk (.lst .o) (lCons (mPure (mVar 4)) (lCons (mPure (mVar 6)) lNil)))))) (sRet (lift (mC (.bl false)))) sNx) (sRet (lift (mAndV (mFn ff__law_three (lCons (mFn ff_cut_along (lCons (mItem (mVar 7) (mC (.int 0))) (lCons (mItem (mVar 7) (mC (.int 1))) lNil))) (lCons (mVar 8) lNil))) (mOp2 fEq (mVar 7) (mk (.lst .o) (lCons (mPure (mVar 4)) (lCons (mPure (mVar 6)) lNil))))))))))))))))))))))))))
def ff_law : FM := runP 12 bb_law
theorem ok_law (T : Tx K mg f fd) : FnOk P w K mg base CX0 7 f.f_law fd.f_law ["_law_script"] (spP K 1 ff_law) :=
  have sc := sc_law
  fn_pure T.F_law sc (by decide) fun cdv A outer s H E hr => (sss_cons (ss_set 1 sc.nd (by decide) (se_p (sp_lst (spa_cons (sp_callTyL call_list_of opnl_list bt_list T.m_list (sba_cons (sb_var 0) sba_nil)) (spa_cons sp_int (spa_cons sp_int (spa_cons sp_int spa_nil))))))) (sss_cons (ss_set 2 sc.nd (by decide) (se_add (se_p sp_int) (se_callM (ok__law_take T) (hr.mono (by decide)) T.g__law_take T.F__law_take.kp T.b__law_take pass0 rfl rfl (by simp [muS, boS]) (sea_mut 1 (sea_ev (se_p sp_int) sea_nil))))) (sss_cons (ss_if (set_eq hr (se_callM (ok__law_take T) (hr.mono (by decide)) T.g__law_take T.F__law_take.kp T.b__law_take pass0 rfl rfl (by simp [muS, boS]) (sea_mut 1 (sea_ev (se_p sp_int) sea_nil))) (se_p sp_int)) (sss_one (ss_set 2 sc.nd (by decide) (se_add (se_p (sp_pure (sb_var 2))) (se_callM (ok__law_take T) (hr.mono (by decide)) T.g__law_take T.F__law_take.kp T.b__law_take pass0 rfl rfl (by simp [muS, boS]) (sea_mut 1 (sea_ev (se_p sp_int) sea_nil)))))) sss_nil) (sss_cons (ss_set 3 sc.nd (by decide) (se_callM (ok__law_take T) (hr.mono (by decide)) T.g__law_take T.F__law_take.kp T.b__law_take pass0 rfl rfl (by simp [muS, boS]) (sea_mut 1 (sea_ev (se_p sp_int) sea_nil)))) (sss_cons (ss_asgE (se_callM (ok__law_named T) (hr.mono (by decide)) T.g__law_named T.F__law_named.kp T.b__law_named pass0 rfl rfl (by simp [muS, boS]) (sea_mut 1 (sea_ev (se_callN (ok__law_ringed T) (hr.mono (by decide)) T.g__law_ringed T.F__law_ringed.kp T.b__law_ringed pass0 rfl rfl (by simp [muS, boS]) (sea_mut 1 (sea_bor 2 (sea_bor 3 (sea_ev (se_callM (ok__law_take T) (hr.mono (by decide)) T.g__law_take T.F__law_take.kp T.b__law_take pass0 rfl rfl (by simp [muS, boS]) (sea_mut 1 (sea_ev (se_p sp_int) sea_nil))) sea_nil))))) sea_nil))) (sg_tup rfl (sgs_cons (sg_name 4 sc.nd) (sgs_cons (sg_name 5 sc.nd) sgs_nil))) (by simp [Tg.sl, slL])) (sss_cons (ss_set 6 sc.nd (by decide) (se_callM (ok__law_turn T) (hr.mono (by decide)) T.g__law_turn T.F__law_turn.kp T.b__law_turn pass0 rfl rfl (by simp [muS, boS]) (sea_mut 1 (sea_bor 5 (sea_bor 2 sea_nil))))) (sss_frzN 5 (sss_cons (ss_if (set_eq hr (se_callM (ok__law_take T) (hr.mono (by decide)) T.g__law_take T.F__law_take.kp T.b__law_take pass0 rfl rfl (by simp [muS, boS]) (sea_mut 1 (sea_ev (se_p sp_int) sea_nil))) (se_p sp_int)) (sss_one (ss_asgE (se_callN (ok__law_great T) (hr.mono (by decide)) T.g__law_great T.F__law_great.kp T.b__law_great pass0 rfl rfl (by simp [muS, boS]) (sea_mut 1 sea_nil)) (sg_tup rfl (sgs_cons (sg_name 4 sc.nd) (sgs_cons (sg_name 5 sc.nd) (sgs_cons (sg_name 6 sc.nd) sgs_nil)))) (by simp [Tg.sl, slL]))) sss_nil) (sss_cons (ss_set 7 sc.nd (by decide) (se_p (sp_lst (spa_cons (sp_lc (own := [("_law_row_here", 10)]) rfl sc.nd (si_list (sb_var 4)) (okb (N := nn_law) (sc := defScope (topS 37)) (by decide +kernel)) (fun _ _ _ _ _ => (sg_name 10 sc.nd)) (fun _ _ _ _ _ => sts_nil) (fun _ _ _ _ _ => (sp_callTyL call_list_of opnl_list bt_list T.m_list (sba_cons (sb_var 10) sba_nil))) (by simp [Tg.sl, slL])) (spa_cons (sp_callTyL call_list_of opnl_list bt_list T.m_list (sba_cons (sb_var 6) sba_nil)) spa_nil))))) (sss_frzN 6 (sss_cons (ss_set 8 sc.nd (by decide) (se_p (sp_tup (spa_cons (sp_call (ok__law_cut T) rfl (hr.mono (by decide)) T.g__law_cut T.F__law_cut.kp T.b__law_cut pass0 (sba_cons (sb_var 4) (sba_cons (sb_var 6) sba_nil)) (lcl (lcl lnl))) (spa_cons (sp_pure (sb_var 6)) (spa_cons (sp_lc (own := [("_law_at", 11)]) rfl sc.nd (si_range1 T.m_range (SP.sb (sp_callB call_len_seq opn_len bt_len T.m_len (sba_cons (sb_var 6) sba_nil)))) (okb (N := nn_law) (sc := defScope (topS 37)) (by decide +kernel)) (fun _ _ _ _ _ => (sg_name 11 sc.nd)) (fun _ _ _ _ _ => sts_nil) (fun _ _ _ _ _ => (sp_add (SP.sb (sp_callB call_len_seq opn_len bt_len T.m_len (sba_cons (sb_var 5) sba_nil))) (SP.sb (sp_mul (SP.sb sp_int) (sb_var 11))))) (by simp [Tg.sl, slL])) spa_nil)))))) (sss_cons (ss_set 9 sc.nd (by decide) (se_p (sp_call (ok_cut_along T) rfl (hr.mono (by decide)) T.g_cut_along T.F_cut_along.kp T.b_cut_along pass0 (sba_cons (sb_item (sb_var 7) (SP.sb sp_int)) (sba_cons (sb_item (sb_var 7) (SP.sb sp_int)) sba_nil)) (lcl (lcl lnl))))) (sss_frzN 4 (sss_cons (ss_if (set_t (st_w (sw_or (st_not (st_tru (SP.sb (sp_call (ok__law_three T) rfl (hr.mono (by decide)) T.g__law_three T.F__law_three.kp T.b__law_three pass0 (sba_cons (sb_var 9) (sba_cons (sb_var 8) sba_nil)) (lcl (lcl lnl)))))) (sw_or1 (st_ne hr (sb_var 7) (SP.sb (sp_lst (spa_cons (sp_pure (sb_var 4)) (spa_cons (sp_pure (sb_var 6)) spa_nil))))))))) (sss_one (ss_ret (se_p sp_bl))) sss_nil) (sss_cons (ss_forMP 9 10 (by decide) rfl PassesOwn.never sc.nd (spl_item (spl_name 9) (SP.sb sp_int)) (sss_one (ss_append (spl_name 10) (se_p sp_int))) (by decide)) (sss_cons (ss_if (set_t (st_ne hr (sb_item (sb_var 9) (SP.sb sp_int)) (SP.sb (sp_lc (own := [("_law_row_here", 10)]) rfl sc.nd (si_list (sb_item (sb_var 8) (SP.sb sp_int))) (okb (N := nn_law) (sc := defScope (topS 37)) (by decide +kernel)) (fun _ _ _ _ _ => (sg_name 10 sc.nd)) (fun _ _ _ _ _ => sts_nil) (fun _ _ _ _ _ => (sp_cat (sb_var 10) (SP.sb (sp_lst (spa_cons sp_int spa_nil))))) (by simp [Tg.sl, slL]))))) (sss_one (ss_ret (se_p sp_bl))) sss_nil) (sss_cons (ss_append (spl_item (spl_name 9) (SP.sb sp_int)) (se_p sp_int)) (sss_cons (ss_append (spl_item (spl_name 9) (SP.sb sp_int)) (se_p sp_int)) (sss_cons (ss_if (set_t (st_ne hr (sb_var 7) (SP.sb (sp_lst (spa_cons (sp_pure (sb_var 4)) (spa_cons (sp_pure (sb_var 6)) spa_nil)))))) (sss_one (ss_ret (se_p sp_bl))) sss_nil) (sss_one (ss_ret (se_p (sp_and (sp_call (ok__law_three T) rfl (hr.mono (by decide)) T.g__law_three T.F__law_three.kp T.b__law_three pass0 (sba_cons (SP.sb (sp_call (ok_cut_along T) rfl (hr.mono (by decide)) T.g_cut_along T.F_cut_along.kp T.b_cut_along pass0 (sba_cons (sb_item (sb_var 7) (SP.sb sp_int)) (sba_cons (sb_item (sb_var 7) (SP.sb sp_int)) sba_nil)) (lcl (lcl lnl)))) (sba_cons (sb_var 8) sba_nil)) (lcl (lcl lnl))) (sp_one (sp_eq hr (sb_var 7) (SP.sb (sp_lst (spa_cons (sp_pure (sb_var 4)) (spa_cons (sp_pure (sb_var 6)) spa_nil)))))))))))))))))))))))))))))
end
end Lw

namespace Ty
@[irreducible] def ixOfT (xs : List Txt) (i : Txt) : Option Int := if i ∈ xs then some ((xs.idxOf i : Nat) : Int) else none
@[irreducible] def lsrt (xs : List (List Int)) : List (List Int) := xs.mergeSort fun a b => decide (a ≤ b)
end Ty

namespace Ow
open PySem L2 Ty

def okTi : List D → List (Option Int) → Prop
  | [], [] => True
  | _ :: ds, none :: os => okTi ds os
  | d :: ds, some z :: os => d = cI z ∧ okTi ds os
  | _, _ => False
end Ow

namespace Td
open Ty
def l_begun_2 (row : (List Int)) (end_ : Int) : Option (List Int) :=
 (ixOf row end_).bind fun at_ =>
 cat (sl row (some at_) none) (sl row none (some at_))
end Td

namespace Td
open Ty
def l_least_2 (row : (List Int)) : Option (List Int) :=
 if ((row.length : Int) = 0) then some (([] : (List Int)))
 else (pmin row).bind fun v3 =>
 (ixOf row v3).bind fun at_ =>
 cat (sl row (some at_) none) (sl row none (some at_))
end Td

namespace Td
open Ty
def l_mate (end_ : Int) : Option Int :=
 (pmul 2 (end_ % 2)).bind fun v1 =>
 some ((end_ + 1) - v1)
end Td

namespace Td
open Ty
def l_seats_3 (rows : (List (List Int))) : Option (List Int) :=
 (lcm rows fun x3 : (List Int) => (x3.length : Int)).bind fun ys6 =>
 (rep [0] ys6.sum).bind fun told =>
 (forO (enu 0 rows) (told : ((List Int))) fun s9 x8 =>
 (forO x8.2 (s9 : ((List Int))) fun s15 x14 =>
 (putI s15 x14 x8.1).bind fun told =>
 some told).bind fun s21 =>
 some s21).bind fun s24 =>
 some (s24)
end Td

namespace Td
open Ty
def l_cut_2 (rows : (List (List Int))) (turn : (List Int)) : Option (List (List Int)) :=
 (lcm rows fun x3 : (List Int) => (x3.length : Int)).bind fun ys6 =>
 lt (ys6.sum : Int) fun many =>
 (Td.l_seats_3 rows).bind fun seats =>
 (lcm rows fun x14 : (List Int) => x14).bind fun told =>
 (forO (enu 0 turn) (told : ((List (List Int)))) fun s19 x18 =>
 (idx seats x18.2).bind fun v24 =>
 (idx rows v24).bind fun v25 =>
 (idx turn (x18.1 - 1)).bind fun v26 =>
 (Td.l_mate v26).bind fun r29 =>
 (Td.l_begun_2 v25 r29).bind fun ring =>
 (ixOf ring x18.2).bind fun last =>
 (Td.l_least_2 (sl ring none (some (last + 1)))).bind fun r38 =>
 (idx seats x18.2).bind fun v39 =>
 (putI s19 v39 r38).bind fun told =>
 (pmod (x18.1 - 1) (turn.length : Int)).bind fun v45 =>
 (pmul 2 v45).bind fun v46 =>
 lt ((many + v46) + 1 : Int) fun copy =>
 (pmul 2 x18.1).bind fun v47 =>
 (cat [many + v47] (sl ring (some (last + 1)) none)).bind fun v48 =>
 (cat v48 [copy]).bind fun v49 =>
 (Td.l_least_2 v49).bind fun r52 =>
 (app told r52).bind fun told =>
 some told).bind fun s56 =>
 some (s56)
end Td

namespace Td
open Ty
def l_fours (r : Int) (c : Int) (s : Int) : Option (List (List Int)) :=
 lt (([] : (List (List Int))) : (List (List Int))) fun told =>
 (rng 0 r).bind fun xs3 =>
 (forO xs3 (told : ((List (List Int)))) fun s5 x4 =>
 (rng 0 c).bind fun xs8 =>
 (forO xs8 (s5 : ((List (List Int)))) fun s10 x9 =>
 (pmul x4 c).bind fun v15 =>
 lt (v15 + x9 : Int) fun p =>
 (pmul x4 c).bind fun v18 =>
 (pmod (x9 - 1) c).bind fun v19 =>
 lt (v18 + v19 : Int) fun left =>
 lt (p - c : Int) fun down =>
 (if (x4 = 0) then (pmul (r - 1) c).bind fun v24 =>
 (pmod (x9 - s) c).bind fun v25 =>
 lt (v24 + v25 : Int) fun down =>
 some down
 else some down : Option (Int)).bind fun j26 =>
 (pmul 4 p).bind fun v29 =>
 (pmul 4 p).bind fun v30 =>
 (pmul 4 j26).bind fun v31 =>
 (pmul 4 left).bind fun v32 =>
 (Td.l_least_2 [v29 + 2, v30, v31 + 3, v32 + 1]).bind fun r35 =>
 (app s10 r35).bind fun told =>
 some told).bind fun s39 =>
 some s39).bind fun s42 =>
 some (s42)
end Td

namespace Td
open Ty
def l_mixed_2 (cell : Int) (k : Int) (many : Int) : Option Int :=
 (pmul 40503 k).bind fun v3 =>
 (ppow (((cell % 2147483647) + v3) + 17) 5).bind fun v4 =>
 lt (v4 % 2147483647 : Int) fun one =>
 (pmul one (48271 + k)).bind fun v5 =>
 (pmul (v5 % 999999937) 39373).bind fun v6 =>
 pmod (v6 % 2147483629) many
end Td

namespace Td
open Ty
def l_take (box : ((List Int) × Int × Int × Int)) (many : Int) : Option (Int × ((List Int) × Int × Int × Int)) :=
 lt ((box.1, box.2.1, box.2.2.1, box.2.2.2 + 1) : ((List Int) × Int × Int × Int)) fun box =>
 lt (0 : Int) fun cell =>
 if ((box.2.2.1 = 0) ∧ (box.2.1 < (box.1.length : Int))) then (idx box.1 box.2.1).bind fun cell =>
 lt ((box.1, box.2.1 + 1, box.2.2.1, box.2.2.2) : ((List Int) × Int × Int × Int)) fun box =>
 if (cell < 1000000000000000000) then (Td.l_mixed_2 cell box.2.2.2 many).bind fun r12 =>
 some (r12, box)
 else lt ((box.1, box.2.1, cell, box.2.2.2) : ((List Int) × Int × Int × Int)) fun box =>
 if (0 < box.2.2.1) then (pmod box.2.2.1 many).bind fun draw =>
 (pdiv box.2.2.1 many).bind fun v18 =>
 lt ((box.1, box.2.1, v18, box.2.2.2) : ((List Int) × Int × Int × Int)) fun box =>
 some (draw, box)
 else (if (0 < (box.1.length : Int)) then (pmod box.2.2.2 (box.1.length : Int)).bind fun v23 =>
 (idx box.1 v23).bind fun cell =>
 some cell
 else some cell : Option (Int)).bind fun j25 =>
 (Td.l_mixed_2 j25 box.2.2.2 many).bind fun r30 =>
 some (r30, box)
 else if (0 < box.2.2.1) then (pmod box.2.2.1 many).bind fun draw =>
 (pdiv box.2.2.1 many).bind fun v34 =>
 lt ((box.1, box.2.1, v34, box.2.2.2) : ((List Int) × Int × Int × Int)) fun box =>
 some (draw, box)
 else (if (0 < (box.1.length : Int)) then (pmod box.2.2.2 (box.1.length : Int)).bind fun v39 =>
 (idx box.1 v39).bind fun cell =>
 some cell
 else some cell : Option (Int)).bind fun j41 =>
 (Td.l_mixed_2 j41 box.2.2.2 many).bind fun r46 =>
 some (r46, box)
end Td

namespace Td
open Ty
def l_shuffled (box : ((List Int) × Int × Int × Int)) (many : Int) : Option ((List Int) × ((List Int) × Int × Int × Int)) :=
 (rng 0 many).bind fun pool =>
 lt (([] : (List Int)) : (List Int)) fun told =>
 (whO 100000 ((box, pool, told) : (((List Int) × Int × Int × Int) × (List Int) × (List Int))) (fun s6 => some (decide ((0 < (s6.2.1.length : Int))))) fun s6 =>
 ((Td.l_take s6.1 (s6.2.1.length : Int)).bind fun a12 => (popI s6.2.1 a12.1).bind fun p13 => some (a12, p13)).bind fun r11 => (app s6.2.2 r11.2.1).bind fun told =>
 some (r11.1.2, r11.2.2, told)).bind fun s16 =>
 some (s16.2.2, s16.1)
end Td

namespace Td
open Ty
def l_named_3 (box : ((List Int) × Int × Int × Int)) (rows : (List (List Int))) : Option (((List (List Int)) × (List Int)) × ((List Int) × Int × Int × Int)) :=
 lt (([] : (List Int)) : (List Int)) fun names =>
 (lcm rows fun x3 : (List Int) => (x3.length : Int)).bind fun ys6 =>
 (Td.l_shuffled box (ys6.sum / 2)).bind fun r7 =>
 (forO r7.1 ((r7.2, names) : (((List Int) × Int × Int × Int) × (List Int))) fun s12 x11 =>
 (Td.l_take s12.1 2).bind fun r17 =>
 (pmul 2 x11).bind fun v19 =>
 (app s12.2 (v19 + r17.1)).bind fun names =>
 (pmul 2 x11).bind fun v23 =>
 (app names ((v23 + 1) - r17.1)).bind fun names =>
 some (r17.2, names)).bind fun s27 =>
 (Td.l_shuffled s27.1 (rows.length : Int)).bind fun r32 =>
 (lcm rows fun x36 : (List Int) => ([] : (List Int))).bind fun told =>
 (forO (enu 0 rows) (told : ((List (List Int)))) fun s41 x40 =>
 (lcp x40.2 (fun x44 : Int => some true) fun x44 => (idx s27.2 x44).bind fun v47 =>
 some v47).bind fun ys48 =>
 (Td.l_least_2 ys48).bind fun r51 =>
 (idx r32.1 x40.1).bind fun v52 =>
 (putI s41 v52 r51).bind fun told =>
 some told).bind fun s56 =>
 some ((s56, s27.2), r32.2)
end Td

namespace Td
open Ty
def l_great_6 (box : ((List Int) × Int × Int × Int)) : Option (((List (List Int)) × (List Int) × (List Int)) × ((List Int) × Int × Int × Int)) :=
 (Td.l_take box 24).bind fun r3 =>
 (pdiv (-125) (2 + r3.1)).bind fun v7 =>
 lt (-v7 : Int) fun c =>
 ((Td.l_take r3.2 (2 + r3.1)).bind fun r10 => (pmul r10.1 c).bind fun w15 => some (r10, w15)).bind fun r14 =>
 (((Td.l_take r14.1.2 c).bind fun r16 => (Td.l_fours (2 + r3.1) c r16.1).bind fun r20 => some (r16, r20)).bind fun r22 => Td.l_named_3 r22.1.2 r22.2).bind fun r25 =>
 (rng 0 c).bind fun xs33 =>
 (lcp xs33 (fun x34 : Int => some true) fun x34 => (pmul 4 (r14.2 + x34)).bind fun v37 =>
 (idx r25.1.2 v37).bind fun v38 =>
 some v38).bind fun ys39 =>
 some ((r25.1.1, r25.1.2, ys39), r25.2)
end Td

namespace Td
open Ty
def l_put (rows : (List (List Int))) (at_ : Int) (end_ : Int) : Option (Bool × (List (List Int))) :=
 aft (forWR rows (at_ : (Int)) fun s1 x2 =>
 lt (max 1 (x2.length : Int) : Int) fun many =>
 if (s1 < many) then (insI x2 (s1 + 1) end_).bind fun row =>
 some (.rt (true, row))
 else lt (s1 - many : Int) fun at_ =>
 some (.go (at_, x2)) : Option (Lp ((Int) × List (List Int)) (Bool × List (List Int)))) (fun s15 =>
 some (false, s15.2)) fun r_ => some (r_.1, r_.2)
end Td

namespace Td
open Ty
def l_lay_ends (box : ((List Int) × Int × Int × Int)) (rows : (List (List Int))) (first : Int) (behind_last : Int) : Option ((List (List Int)) × ((List Int) × Int × Int × Int) × (List (List Int))) :=
 (rng first behind_last).bind fun xs1 =>
 (forO xs1 ((box, rows) : (((List Int) × Int × Int × Int) × (List (List Int)))) fun s3 x2 =>
 (lcm s3.2 fun x6 : (List Int) => max 1 (x6.length : Int)).bind fun ys9 =>
 ((Td.l_take s3.1 ys9.sum).bind fun r10 => (Td.l_put s3.2 r10.1 x2).bind fun r14 => some (r10, r14)).bind fun r16 =>
 some (r16.1.2, r16.2.2)).bind fun s19 =>
 some (s19.2, s19.1, s19.2)
end Td

namespace Td
open Ty
def l_ringed (box : ((List Int) × Int × Int × Int)) (k : Int) (places : Int) (ties : Int) : Option ((List (List Int)) × ((List Int) × Int × Int × Int)) :=
 (rng 0 k).bind fun xs3 =>
 (lcp xs3 (fun x4 : Int => some true) fun x4 => (pmul 2 x4).bind fun v7 =>
 (pmul 2 x4).bind fun v8 =>
 some [v7 - 1, v8]).bind fun rows =>
 (pmul 2 k).bind fun v10 =>
 (putI rows 0 [0, v10 - 1]).bind fun rows =>
 (((rng 0 places).bind fun xs18 =>
 lcm xs18 fun x19 : Int => ([] : (List Int))).bind fun ys23 => cat rows ys23).bind fun z24 =>
 (pmul 2 k).bind fun v25 =>
 (pmul 2 k).bind fun v26 =>
 (pmul 2 ties).bind fun v27 =>
 (Td.l_lay_ends box z24 v25 (v26 + v27)).bind fun r28 => some (r28.1, r28.2.1)
end Td

namespace Td
open Ty
def l_whole (found : Int) : Option Bool :=
 some (decide (True ∧ ¬(False)))
end Td

namespace Td
open Ty
def l_row (found : (List Int)) (due : (List Int)) : Option Bool :=
 if ((found.length : Int) ≠ (due.length : Int)) then some (false)
 else aft (forR (enu 0 due) (() : Unit) fun s2 x1 =>
 (idx found x1.1).bind fun v5 =>
 (Td.l_whole v5).bind fun r8 =>
 (if ¬(r8 = true) then some true else (idx found x1.1).bind fun v9 =>
 some (decide ((v9 ≠ x1.2)))).bind fun b10 =>
 if b10 = true then some (.rt (false))
 else some (.go ())) (fun s11 =>
 some (true)) fun r_ => some r_
end Td

namespace Td
open Ty
def l_rows_2 (found : (List (List Int))) (due : (List (List Int))) : Option Bool :=
 if ((found.length : Int) ≠ (due.length : Int)) then some (false)
 else aft (forR (enu 0 due) (() : Unit) fun s2 x1 =>
 (idx found x1.1).bind fun v5 =>
 (Td.l_row v5 x1.2).bind fun r8 =>
 if ¬(r8 = true) then some (.rt (false))
 else some (.go ())) (fun s9 =>
 some (true)) fun r_ => some r_
end Td

namespace Td
open Ty
def l_three_2 (told : ((List (List Int)) × (List Int) × (List Int))) (due : ((List (List Int)) × (List Int) × (List Int))) : Option Bool :=
 if ((3 : Int) ≠ 3) then some (false)
 else (Td.l_rows_2 told.1 due.1).bind fun r3 =>
 if ¬(r3 = true) then some (false)
 else (Td.l_row told.2.1 due.2.1).bind fun r6 =>
 if r6 = true then (Td.l_row told.2.2 due.2.2).bind fun r9 =>
 some (decide (r9 = true)) else some false
end Td

namespace Td
open Ty
def l_turn_5 (box : ((List Int) × Int × Int × Int)) (names : (List Int)) (k : Int) : Option ((List Int) × ((List Int) × Int × Int × Int)) :=
 (Td.l_take box k).bind fun r3 =>
 (rng 0 k).bind fun xs7 =>
 (lcp xs7 (fun x8 : Int => some true) fun x8 => (pmod (r3.1 + x8) k).bind fun v11 =>
 (pmul 2 v11).bind fun v12 =>
 (idx names v12).bind fun v13 =>
 some v13).bind fun turn =>
 ((Td.l_take r3.2 2).bind fun r15 => (if r15.1 = 1 then (slS turn none none (-1)).bind fun ys23 =>
 (lcp ys23 (fun x24 : Int => some true) fun x24 => (Td.l_mate x24).bind fun r29 =>
 some r29).bind fun turn =>
 some (r15.2, turn)
 else some (r15.2, turn) : Option (((List Int) × Int × Int × Int) × (List Int)))).bind fun j31 =>
 some (j31.2, j31.1)
end Td

namespace Td
open Ty
def p_begun_least (row : (List Int)) : Option (List Int) :=
 if ¬(row ≠ []) then some (([] : (List Int)))
 else (pmin row).bind fun v3 =>
 (ixOf row v3).bind fun at_ =>
 cat (sl row (some at_) none) (sl row none (some at_))
end Td

namespace Td
open Ty
def p_count_ends (rows : (List (List Int))) : Option Int :=
 (lcm rows fun x1 : (List Int) => (x1.length : Int)).bind fun ys4 =>
 some (ys4.sum)
end Td

namespace Td
open Ty
def p_behind_of (drawing : (List (List Int))) : Option (List Int) :=
 (Td.p_count_ends drawing).bind fun r5 =>
 (rep [0] r5).bind fun behind =>
 (forO drawing (behind : ((List Int))) fun s8 x7 =>
 (forO (enu 0 x7) (s8 : ((List Int))) fun s12 x11 =>
 (idx x7 (x11.1 - 1)).bind fun v15 =>
 (putI s12 v15 x11.2).bind fun behind =>
 some behind).bind fun s19 =>
 some s19).bind fun s22 =>
 some (s22)
end Td

namespace Td
open Ty
def p_between (behind : (List Int)) (one : Int) (other : Int) : Option (List Int) :=
 lt (([] : (List Int)) : (List Int)) fun found =>
 (idx behind one).bind fun end_ =>
 (whO 100000 ((found, end_) : ((List Int) × Int)) (fun s6 => some (decide ((s6.2 ≠ other)))) fun s6 =>
 (app s6.1 s6.2).bind fun found =>
 (idx behind s6.2).bind fun end_ =>
 some (found, end_)).bind fun s15 =>
 some (s15.1)
end Td

namespace Td
open Ty
def p_homes_of (drawing : (List (List Int))) : Option (List Int) :=
 (Td.p_count_ends drawing).bind fun r5 =>
 (rep [0] r5).bind fun homes =>
 (forO (enu 0 drawing) (homes : ((List Int))) fun s8 x7 =>
 (forO x7.2 (s8 : ((List Int))) fun s14 x13 =>
 (putI s14 x13 x7.1).bind fun homes =>
 some homes).bind fun s20 =>
 some s20).bind fun s23 =>
 some (s23)
end Td

namespace Td
open Ty
def p_mate_of (end_ : Int) : Option Int :=
 some (end_ + 1 - 2 * (end_ % 2))
end Td

namespace Td
open Ty
def p_is_walk (drawing : (List (List Int))) (ends : (List Int)) : Option Bool :=
 (Td.p_homes_of drawing).bind fun homes =>
 aft (forR ends (() : Unit) fun s7 x6 =>
 if ((x6 < 0) ∨ ((homes.length : Int) ≤ x6)) then some (.rt (false))
 else some (.go ())) (fun s10 =>
 (lcp (enu 0 ends) (fun x13 : (Int × Int) => some true) fun x13 => (idx ends (x13.1 - 1)).bind fun v16 =>
 (Td.p_mate_of v16).bind fun r19 =>
 (idx homes r19).bind fun v20 =>
 (idx homes x13.2).bind fun v21 =>
 some (decide (v20 = v21))).bind fun ys22 =>
 some (ys22.all id)) fun r_ => some r_
end Td

namespace Td
open Ty
def p_is_round (drawing : (List (List Int))) (ends : (List Int)) : Option Bool :=
 (if ¬(ends ≠ []) then some true else (Td.p_is_walk drawing ends).bind fun r3 =>
 some (decide (¬(r3 = true)))).bind fun b4 =>
 if b4 = true then some (false)
 else (Td.p_homes_of drawing).bind fun homes =>
 (dcp ends (fun x12 : Int => some true) fun x12 => (idx homes x12).bind fun v15 => some (v15, true)).bind fun places =>
 (dcp ends (fun x21 : Int => some true) fun x21 => some (x21 / 2, true)).bind fun ties =>
 some (decide (((places.length : Int) = (ends.length : Int)) ∧ ((ties.length : Int) = (ends.length : Int))))
end Td

namespace Td
open Ty
def p_check_round (drawing : (List (List Int))) (ends : (List Int)) : Option Unit :=
 (Td.p_is_round drawing ends).bind fun r3 =>
 if ¬(r3 = true) then none
 else some (())
end Td

namespace Td
open Ty
def p_visits_of (walk_ : (List Int)) : Option (List (Int × Int)) :=
 lcp (enu 0 walk_) (fun x1 : (Int × Int) => some true) fun x1 => (idx walk_ (x1.1 - 1)).bind fun v4 =>
 (Td.p_mate_of v4).bind fun r7 =>
 some (r7, x1.2)
end Td

namespace Td
open Ty
def p_cut_along (drawing : (List (List Int))) (turn : (List Int)) : Option ((List (List Int)) × (List Int) × (List Int)) :=
 (Td.p_check_round drawing turn).bind fun r3 =>
 (Td.p_homes_of drawing).bind fun homes =>
 (Td.p_behind_of drawing).bind fun behind =>
 (rng 0 (turn.length : Int)).bind fun xs18 =>
 (lcp xs18 (fun x19 : Int => some true) fun x19 => (pmul 2 x19).bind fun v22 =>
 some ((behind.length : Int) + v22)).bind fun edge =>
 (lcm drawing fun x26 : (List Int) => x26).bind fun rows =>
 (Td.p_visits_of turn).bind fun r32 =>
 (forO (enu 0 r32) (rows : ((List (List Int)))) fun s34 x33 =>
 (Td.p_between behind x33.2.1 x33.2.2).bind fun r39 =>
 (cat [x33.2.1] r39).bind fun v40 =>
 (cat v40 [x33.2.2]).bind fun v41 =>
 (Td.p_begun_least v41).bind fun r44 =>
 (idx homes x33.2.2).bind fun v45 =>
 (putI s34 v45 r44).bind fun rows =>
 (idx edge x33.1).bind fun v49 =>
 (Td.p_between behind x33.2.2 x33.2.1).bind fun r52 =>
 (cat [v49] r52).bind fun v53 =>
 (idx edge (x33.1 - 1)).bind fun v54 =>
 (cat v53 [v54 + 1]).bind fun v55 =>
 (Td.p_begun_least v55).bind fun r58 =>
 (app rows r58).bind fun rows =>
 some rows).bind fun s62 =>
 some ((s62, turn, edge))
end Td

namespace Td
open Ty
def law_k42_2 (script : (List Int)) : Option Bool :=
 lt ((script, 0, 0, 0) : ((List Int) × Int × Int × Int)) fun box =>
 (Td.l_take box 6).bind fun r5 =>
 ((Td.l_take r5.2 8).bind fun r7 => (if r7.1 = 0 then (Td.l_take r7.2 60).bind fun r15 =>
 some (r15.2, (1 + r5.1) + r15.1)
 else some (r7.2, 1 + r5.1) : Option (((List Int) × Int × Int × Int) × Int))).bind fun j17 =>
 (Td.l_take j17.1 5).bind fun r22 =>
 (((Td.l_take r22.2 7).bind fun r24 => Td.l_ringed r24.2 j17.2 r22.1 r24.1).bind fun r28 => Td.l_named_3 r28.2 r28.1).bind fun r32 =>
 (Td.l_turn_5 r32.2 r32.1.2 j17.2).bind fun r38 =>
 ((Td.l_take r38.2 16).bind fun r42 => (if r42.1 = 0 then (Td.l_great_6 r42.2).bind fun r48 =>
 some (r48.1.1, r48.1.2.1, r48.1.2.2)
 else some (r32.1.1, r32.1.2, r38.1) : Option ((List (List Int)) × (List Int) × (List Int)))).bind fun j52 =>
 (lcm j52.1 fun x57 : (List Int) => x57).bind fun ys60 =>
 lt ((ys60, j52.2.2) : ((List (List Int)) × (List Int))) fun handed =>
 (Td.l_cut_2 j52.1 j52.2.2).bind fun r67 =>
 (rng 0 (j52.2.2.length : Int)).bind fun xs68 =>
 (lcp xs68 (fun x69 : Int => some true) fun x69 => (pmul 2 x69).bind fun v72 =>
 some ((j52.2.1.length : Int) + v72)).bind fun ys73 =>
 lt ((r67, j52.2.2, ys73) : ((List (List Int)) × (List Int) × (List Int))) fun due =>
 (Td.p_cut_along handed.1 handed.2).bind fun told =>
 (Td.l_three_2 told due).bind fun r83 =>
 if (¬(r83 = true) ∨ (handed ≠ (j52.1, j52.2.2))) then some (false)
 else (forW told.1 (() : Unit) fun s84 x85 =>
 (app x85 0).bind fun row =>
 some ((), row)).bind fun s91 =>
 (lcp due.1 (fun x94 : (List Int) => some true) fun x94 => (cat x94 [0]).bind fun v97 =>
 some v97).bind fun ys98 =>
 if (((s91.2, told.2.1, told.2.2).1) ≠ ys98) then some (false)
 else (app ((s91.2, told.2.1, told.2.2).2.1) 0).bind fun z99 =>
 (app (((s91.2, told.2.1, told.2.2).1, z99, (s91.2, told.2.1, told.2.2).2.2).2.2) 0).bind fun z102 =>
 if (handed ≠ (j52.1, j52.2.2)) then some (false)
 else (Td.p_cut_along handed.1 handed.2).bind fun r107 =>
 (Td.l_three_2 r107 due).bind fun r110 =>
 some (decide (r110 = true ∧ (handed = (j52.1, j52.2.2))))
end Td

set_option maxHeartbeats 2000000
namespace Lw
open PySem L2 Ow Ty
theorem kit_int_bool : kitB "int" "bool" = some false := by decide +kernel
theorem kit_int_int : kitB "int" "int" = some true := by decide +kernel
theorem kit_list_list : kitB "list" "list" = some true := by decide +kernel
theorem kit_tuple_tuple : kitB "tuple" "tuple" = some true := by decide +kernel
theorem ty__law_mixed_0 (cell : Int) (k : Int) (many : Int) : ∀ rz, Td.l_mixed_2 cell k many = some rz → ff__law_mixed [cI cell, cI k, cI many] = some (cI rz) :=
  run_p (c := cI) (Q := fun _ => List.replicate 4 none) ((show ∀ e0 : Ow.Env, Mt [some (cI cell), some (cI k), some (cI many), none] e0 → ES bb__law_mixed e0 (Td.l_mixed_2 cell k many) (fnK cI) (fun _ => List.replicate 4 none) from fun e0 h0 => by delta bb__law_mixed Td.l_mixed_2; exact (ES.hoist (v_mul (e_cI 40503) (e_var (i := 1) h0 rfl)) fun v3 hv3 => (ES.hoist (v_pow (e_add (e_add (e_modC (e_var (i := 0) h0 rfl) (e_cI 2147483647)) hv3) (e_cI 17)) (e_cI 5)) fun v4 hv4 => (s_let (i := 3) (ct := cI) (e_modC hv4 (e_cI 2147483647)) h0 fun one e1 k2 => (ES.hoist (v_mul (e_var (i := 3) k2 rfl) (e_add (e_cI 48271) (e_var (i := 1) k2 rfl))) fun v5 hv5 => (ES.hoist (v_mul (e_modC hv5 (e_cI 999999937)) (e_cI 39373)) fun v6 hv6 => (s_retO (v_mod (e_modC hv6 (e_cI 2147483629)) (e_var (i := 2) k2 rfl)) (fun v7 => (k2.any rfl)) (fun v7 => rfl)))))))) _ (Mt.start (ds := [cI cell, cI k, cI many]) (n := 4)))
theorem ty__law_take_0 (box : ((List Int) × Int × Int × Int)) (many : Int) : ∀ rz, Td.l_take box many = some rz → ff__law_take [(cR .o (Ow.k2 (cL .o cI) (Ow.k2 cI (Ow.k2 cI (Ow.k1 cI))))) box, cI many] = some (cI rz.1, [(cR .o (Ow.k2 (cL .o cI) (Ow.k2 cI (Ow.k2 cI (Ow.k1 cI))))) rz.2]) :=
  run_m (c := fun (r : (Int × ((List Int) × Int × Int × Int))) => cI r.1) (os := fun (r : (Int × ((List Int) × Int × Int × Int))) => [(cR .o (Ow.k2 (cL .o cI) (Ow.k2 cI (Ow.k2 cI (Ow.k1 cI))))) r.2]) (Q := (fun (r : (Int × ((List Int) × Int × Int × Int))) => [some ((cR .o (Ow.k2 (cL .o cI) (Ow.k2 cI (Ow.k2 cI (Ow.k1 cI))))) r.2), none, none, none])) ((show ∀ e0 : Ow.Env, Mt [some ((cR .o (Ow.k2 (cL .o cI) (Ow.k2 cI (Ow.k2 cI (Ow.k1 cI))))) box), some (cI many), none, none] e0 → ES bb__law_take e0 (Td.l_take box many) (fnK fun (r : (Int × ((List Int) × Int × Int × Int))) => cI r.1) ((fun (r : (Int × ((List Int) × Int × Int × Int))) => [some ((cR .o (Ow.k2 (cL .o cI) (Ow.k2 cI (Ow.k2 cI (Ow.k1 cI))))) r.2), none, none, none])) from fun e0 h0 => by delta bb__law_take Td.l_take; exact (s_putRn (i := 0) (x' := (box.1, box.2.1, box.2.2.1, box.2.2.2 + 1)) (c := (cR .o (Ow.k2 (cL .o cI) (Ow.k2 cI (Ow.k2 cI (Ow.k1 cI)))))) (e_add (e_itemR (d := cI box.2.2.2) (e_var (i := 0) h0 rfl) (e_cI 3) rfl) (e_cI 1)) h0 rfl (e_cI 3) rfl rfl rfl fun box e1 k2 => (s_let (i := 2) (ct := cI) (e_cI 0) k2 fun cell e3 k4 => (s_if2 (e_and (e_B (e_eq (e_itemR (d := cI box.2.2.1) (e_var (i := 0) k4 rfl) (e_cI 2) rfl) (e_cI 0))) (e_B (e_lt (e_itemR (d := cI box.2.1) (e_var (i := 0) k4 rfl) (e_cI 1) rfl) (e_len (e_itemR (d := (cL .o cI) box.1) (e_var (i := 0) k4 rfl) (e_cI 0) rfl))))) (fun _ => (s_assoc (s_setV (i := 2) (v_pure (v_item (e_itemR (d := (cL .o cI) box.1) (e_var (i := 0) k4 rfl) (e_cI 0) rfl) (e_itemR (d := cI box.2.1) (e_var (i := 0) k4 rfl) (e_cI 1) rfl))) k4 fun cell e5 k6 => (s_assoc (s_putRn (i := 0) (x' := (box.1, box.2.1 + 1, box.2.2.1, box.2.2.2)) (c := (cR .o (Ow.k2 (cL .o cI) (Ow.k2 cI (Ow.k2 cI (Ow.k1 cI)))))) (e_add (e_itemR (d := cI box.2.1) (e_var (i := 0) k6 rfl) (e_cI 1) rfl) (e_cI 1)) k6 rfl (e_cI 1) rfl rfl rfl fun box e8 k9 => (s_assoc (s_ifx (e_B (e_lt (e_var (i := 2) k9 rfl) (e_powC (w := 1000000000000000000) (e_cI 10) (e_cI 18)))) (fun _ => (ES.hoist (v_fn (c := cI) (e_cons (e_var (i := 2) k9 rfl) (e_cons (e_itemR (d := cI box.2.2.2) (e_var (i := 0) k9 rfl) (e_cI 3) rfl) (e_cons (e_var (i := 1) k9 rfl) e_nil))) (fun r10 q11 => (congrArg ff__law_mixed (fz_cons (fz_cons (fz_cons fz_nil)))).trans (ty__law_mixed_0 cell box.2.2.2 many r10 q11))) fun r12 hr12 => (s_ret hr12 (k9.le (le_some (le_none (le_none (le_none le_nil))))) ⟨rfl, fun z => nomatch z⟩))) (fun _ => (s_sk (s_putRn (i := 0) (x' := (box.1, box.2.1, cell, box.2.2.2)) (c := (cR .o (Ow.k2 (cL .o cI) (Ow.k2 cI (Ow.k2 cI (Ow.k1 cI)))))) (e_pure (e_var (i := 2) k9 rfl)) k9 rfl (e_cI 2) rfl rfl rfl fun box e13 k14 => (s_ifx (e_B (e_gt (e_itemR (d := cI box.2.2.1) (e_var (i := 0) k14 rfl) (e_cI 2) rfl) (e_cI 0))) (fun _ => (s_setV (i := 3) (v_mod (e_itemR (d := cI box.2.2.1) (e_var (i := 0) k14 rfl) (e_cI 2) rfl) (e_var (i := 1) k14 rfl)) k14 fun draw e15 k16 => (ES.hoist (v_div (e_itemR (d := cI box.2.2.1) (e_var (i := 0) k16 rfl) (e_cI 2) rfl) (e_var (i := 1) k16 rfl)) fun v18 hv18 => (s_putRn (i := 0) (x' := (box.1, box.2.1, v18, box.2.2.2)) (c := (cR .o (Ow.k2 (cL .o cI) (Ow.k2 cI (Ow.k2 cI (Ow.k1 cI)))))) hv18 k16 rfl (e_cI 2) rfl rfl rfl fun box e19 k20 => (s_retM (i := 3) k20 rfl (fun em hm => (hm.le (le_some (le_none (le_none (le_none le_nil)))))) ⟨rfl, fun z => nomatch z⟩))))) (fun _ => (s_sk (s_seq (s_if (Q := fun (j25 : (Int)) => [some ((cR .o (Ow.k2 (cL .o cI) (Ow.k2 cI (Ow.k2 cI (Ow.k1 cI))))) box), some (cI many), some (cI j25), none]) (e_B (e_gt (e_len (e_itemR (d := (cL .o cI) box.1) (e_var (i := 0) k14 rfl) (e_cI 0) rfl)) (e_cI 0))) (fun _ => (s_last (ES.hoist (v_mod (e_itemR (d := cI box.2.2.2) (e_var (i := 0) k14 rfl) (e_cI 3) rfl) (e_len (e_itemR (d := (cL .o cI) box.1) (e_var (i := 0) k14 rfl) (e_cI 0) rfl))) fun v23 hv23 => (s_setV (i := 2) (v_pure (v_item (e_itemR (d := (cL .o cI) box.1) (e_var (i := 0) k14 rfl) (e_cI 0) rfl) hv23)) k14 fun cell e21 k22 => (s_skip (k22.le (le_some (le_some (le_some (le_none le_nil))))) rfl))))) (fun _ => (s_skip (k14.le (le_some (le_some (le_some (le_none le_nil))))) rfl))) fun j25 e26 k27 => (ES.hoist (v_fn (c := cI) (e_cons (e_var (i := 2) k27 rfl) (e_cons (e_itemR (d := cI box.2.2.2) (e_var (i := 0) k27 rfl) (e_cI 3) rfl) (e_cons (e_var (i := 1) k27 rfl) e_nil))) (fun r28 q29 => (congrArg ff__law_mixed (fz_cons (fz_cons (fz_cons fz_nil)))).trans (ty__law_mixed_0 j25 box.2.2.2 many r28 q29))) fun r30 hr30 => (s_ret hr30 (k27.le (le_some (le_none (le_none (le_none le_nil))))) rfl)))))))))))))))) (fun _ => (s_sk (s_ifx (e_B (e_gt (e_itemR (d := cI box.2.2.1) (e_var (i := 0) k4 rfl) (e_cI 2) rfl) (e_cI 0))) (fun _ => (s_setV (i := 3) (v_mod (e_itemR (d := cI box.2.2.1) (e_var (i := 0) k4 rfl) (e_cI 2) rfl) (e_var (i := 1) k4 rfl)) k4 fun draw e31 k32 => (ES.hoist (v_div (e_itemR (d := cI box.2.2.1) (e_var (i := 0) k32 rfl) (e_cI 2) rfl) (e_var (i := 1) k32 rfl)) fun v34 hv34 => (s_putRn (i := 0) (x' := (box.1, box.2.1, v34, box.2.2.2)) (c := (cR .o (Ow.k2 (cL .o cI) (Ow.k2 cI (Ow.k2 cI (Ow.k1 cI)))))) hv34 k32 rfl (e_cI 2) rfl rfl rfl fun box e35 k36 => (s_retM (i := 3) k36 rfl (fun em hm => (hm.le (le_some (le_none (le_none (le_none le_nil)))))) ⟨rfl, fun z => nomatch z⟩))))) (fun _ => (s_sk (s_seq (s_if (Q := fun (j41 : (Int)) => [some ((cR .o (Ow.k2 (cL .o cI) (Ow.k2 cI (Ow.k2 cI (Ow.k1 cI))))) box), some (cI many), some (cI j41), none]) (e_B (e_gt (e_len (e_itemR (d := (cL .o cI) box.1) (e_var (i := 0) k4 rfl) (e_cI 0) rfl)) (e_cI 0))) (fun _ => (s_last (ES.hoist (v_mod (e_itemR (d := cI box.2.2.2) (e_var (i := 0) k4 rfl) (e_cI 3) rfl) (e_len (e_itemR (d := (cL .o cI) box.1) (e_var (i := 0) k4 rfl) (e_cI 0) rfl))) fun v39 hv39 => (s_setV (i := 2) (v_pure (v_item (e_itemR (d := (cL .o cI) box.1) (e_var (i := 0) k4 rfl) (e_cI 0) rfl) hv39)) k4 fun cell e37 k38 => (s_skip (k38.le (le_some (le_some (le_some (le_none le_nil))))) rfl))))) (fun _ => (s_skip (k4.le (le_some (le_some (le_some (le_none le_nil))))) rfl))) fun j41 e42 k43 => (ES.hoist (v_fn (c := cI) (e_cons (e_var (i := 2) k43 rfl) (e_cons (e_itemR (d := cI box.2.2.2) (e_var (i := 0) k43 rfl) (e_cI 3) rfl) (e_cons (e_var (i := 1) k43 rfl) e_nil))) (fun r44 q45 => (congrArg ff__law_mixed (fz_cons (fz_cons (fz_cons fz_nil)))).trans (ty__law_mixed_0 j41 box.2.2.2 many r44 q45))) fun r46 hr46 => (s_ret hr46 (k43.le (le_some (le_none (le_none (le_none le_nil))))) rfl)))))))))))) _ (Mt.start (ds := [(cR .o (Ow.k2 (cL .o cI) (Ow.k2 cI (Ow.k2 cI (Ow.k1 cI))))) box, cI many]) (n := 4))) (fun _ => rfl)
theorem ty__law_put_0 (rows : (List (List Int))) (at_ : Int) (end_ : Int) : ∀ rz, Td.l_put rows at_ end_ = some rz → ff__law_put [(cL .o (cL .o cI)) rows, cI at_, cI end_] = some (cB rz.1, [(cL .o (cL .o cI)) rz.2]) :=
  run_m (c := fun (r : (Bool × (List (List Int)))) => cB r.1) (os := fun (r : (Bool × (List (List Int)))) => [(cL .o (cL .o cI)) r.2]) (Q := (fun (r : (Bool × (List (List Int)))) => [some ((cL .o (cL .o cI)) r.2), none, none, none, none])) ((show ∀ e0 : Ow.Env, Mt [some ((cL .o (cL .o cI)) rows), some (cI at_), some (cI end_), none, none] e0 → ES bb__law_put e0 (Td.l_put rows at_ end_) (fnK fun (r : (Bool × (List (List Int)))) => cB r.1) ((fun (r : (Bool × (List (List Int)))) => [some ((cL .o (cL .o cI)) r.2), none, none, none, none])) from fun e0 h0 => by delta bb__law_put Td.l_put; exact (s_aft (w := fun (r_ : (Bool × List (List Int))) => (r_.1, r_.2)) (s_forWR (i := 0) (j := 3) (s0 := at_) (c := (cL .o cI)) (cr := fun (r : Bool) => cB r) (Pr := fun (r : Bool) => [none, none, none, none, none]) (Pl := fun (s1 : (Int)) => [none, some (cI s1), some (cI end_), none, none]) h0 rfl (fun _ hm => hm.le (le_none (le_some (le_some (le_none (le_none le_nil)))))) (fun s1 x2 e3 k4 => (s_let (i := 4) (ct := cI) (e_max2 (e_cI 1) (e_len (e_var (i := 3) k4 rfl))) k4 fun many e5 k6 => (s_ifx (e_B (e_lt (e_var (i := 1) k6 rfl) (e_var (i := 4) k6 rfl))) (fun _ => (s_ins (pl_name (i := 3) k6 rfl) (e_add (e_var (i := 1) k6 rfl) (e_cI 1)) (e_pure (e_var (i := 2) k6 rfl)) k6 fun row e11 k12 => (s_ret (e_cB true) (k12.le (le_none (le_none (le_none (le_some (le_none le_nil)))))) ⟨rfl, fun z => nomatch z⟩))) (fun _ => (s_sk (s_last (s_let (i := 1) (ct := cI) (e_sub (e_var (i := 1) k6 rfl) (e_var (i := 4) k6 rfl)) k6 fun at_ e13 k14 => (s_skip (Q := _) (k14.le (le_none (le_some (le_some (le_some (le_none le_nil)))))) (Or.inl rfl))))))))) (fun _ => Nat.le_of_ble_eq_true rfl) (fun _ => rfl) (fun _ => Nat.le_of_ble_eq_true rfl) (fun _ => rfl)) (fun s15 e16 k17 => (s_ret (e_cB false) (k17.le (le_some (le_none (le_none (le_none (le_none le_nil)))))) rfl)) (fun r_ _ hr => hr) (fun r_ => rfl))) _ (Mt.start (ds := [(cL .o (cL .o cI)) rows, cI at_, cI end_]) (n := 5))) (fun _ => rfl)
theorem ty__law_lay_ends_0 (box : ((List Int) × Int × Int × Int)) (rows : (List (List Int))) (first : Int) (behind_last : Int) : ∀ rz, Td.l_lay_ends box rows first behind_last = some rz → ff__law_lay_ends [(cR .o (Ow.k2 (cL .o cI) (Ow.k2 cI (Ow.k2 cI (Ow.k1 cI))))) box, (cL .o (cL .o cI)) rows, cI first, cI behind_last] = some ((cL .s (cL .s cI)) rz.1, [(cR .o (Ow.k2 (cL .o cI) (Ow.k2 cI (Ow.k2 cI (Ow.k1 cI))))) rz.2.1, (cL .s (cL .s cI)) rz.2.2]) :=
  run_m (c := fun (r : ((List (List Int)) × ((List Int) × Int × Int × Int) × (List (List Int)))) => (cL .s (cL .s cI)) r.1) (os := fun (r : ((List (List Int)) × ((List Int) × Int × Int × Int) × (List (List Int)))) => [(cR .o (Ow.k2 (cL .o cI) (Ow.k2 cI (Ow.k2 cI (Ow.k1 cI))))) r.2.1, (cL .s (cL .s cI)) r.2.2]) (Q := (fun (r : ((List (List Int)) × ((List Int) × Int × Int × Int) × (List (List Int)))) => [some ((cR .o (Ow.k2 (cL .o cI) (Ow.k2 cI (Ow.k2 cI (Ow.k1 cI))))) r.2.1), some ((cL .s (cL .s cI)) r.2.2), none, none, none, none])) ((show ∀ e0 : Ow.Env, Mt [some ((cR .o (Ow.k2 (cL .o cI) (Ow.k2 cI (Ow.k2 cI (Ow.k1 cI))))) box), some ((cL .o (cL .o cI)) rows), some (cI first), some (cI behind_last), none, none] e0 → ES bb__law_lay_ends e0 (Td.l_lay_ends box rows first behind_last) (fnK fun (r : ((List (List Int)) × ((List Int) × Int × Int × Int) × (List (List Int)))) => (cL .s (cL .s cI)) r.1) ((fun (r : ((List (List Int)) × ((List Int) × Int × Int × Int) × (List (List Int)))) => [some ((cR .o (Ow.k2 (cL .o cI) (Ow.k2 cI (Ow.k2 cI (Ow.k1 cI))))) r.2.1), some ((cL .s (cL .s cI)) r.2.2), none, none, none, none])) from fun e0 h0 => by delta bb__law_lay_ends Td.l_lay_ends; exact (ES.hoistL (w_R (rg_2 (e_var (i := 2) h0 rfl) (e_var (i := 3) h0 rfl))) fun xs1 hxs1 => (s_seq (s_for (xs := xs1) (s0 := (box, rows)) (Pl := fun (s3 : (((List Int) × Int × Int × Int) × (List (List Int)))) => [some ((cR .o (Ow.k2 (cL .o cI) (Ow.k2 cI (Ow.k2 cI (Ow.k1 cI))))) s3.1), some ((cL .o (cL .o cI)) s3.2), some (cI first), some (cI behind_last), none, none]) (Px := fun (s3 : (((List Int) × Int × Int × Int) × (List (List Int)))) (x2 : Int) => [some ((cR .o (Ow.k2 (cL .o cI) (Ow.k2 cI (Ow.k2 cI (Ow.k1 cI))))) s3.1), some ((cL .o (cL .o cI)) s3.2), some (cI first), some (cI behind_last), some (cI x2), none]) hxs1 (h0.le (le_some (le_some (le_some (le_some (le_none (le_none le_nil))))))) (fun s3 x2 => b_nm) (fun s3 x2 e4 k5 => (s_last (ES.hoist (v_lcm (Px := fun (x6 : (List Int)) => [some ((cR .o (Ow.k2 (cL .o cI) (Ow.k2 cI (Ow.k2 cI (Ow.k1 cI))))) s3.1), some ((cL .o (cL .o cI)) s3.2), some (cI first), some (cI behind_last), some (cI x2), some ((cL .o cI) x6)]) (w_L (e_var (i := 1) (d := (cL .o (cL .o cI)) s3.2) k5 rfl)) k5 (fun x6 => b_nm) fun x6 e7 k8 => (e_max2 (e_cI 1) (e_len (e_var (i := 5) k8 rfl)))) fun ys9 hys9 => (s_drop (ee_callQ (dr := (fun (r14 : (Bool × (List (List Int)))) => cB r14.1)) k5 rfl (ea_mv (ea_evE (Pa := fun (r10 : (Int × ((List Int) × Int × Int × Int))) => [some ((cR .o (Ow.k2 (cL .o cI) (Ow.k2 cI (Ow.k2 cI (Ow.k1 cI))))) r10.2), some ((cL .o (cL .o cI)) s3.2), some (cI first), some (cI behind_last), some (cI x2), none]) (ee_call0 (dr := (fun (r10 : (Int × ((List Int) × Int × Int × Int))) => cI r10.1)) (Pf := fun (r10 : (Int × ((List Int) × Int × Int × Int))) => [some ((cR .o (Ow.k2 (cL .o cI) (Ow.k2 cI (Ow.k2 cI (Ow.k1 cI))))) r10.2), some ((cL .o (cL .o cI)) s3.2), some (cI first), some (cI behind_last), some (cI x2), none]) k5 rfl (ea_mv (ea_ev (e_sum hys9) (ea_nil k5))) rfl (fun r10 q11 => (congrArg ff__law_take (l_cons (rfl) (l_cons (rfl) l_nil))).trans (ty__law_take_0 s3.1 ys9.sum r10 q11)) (fun _ => by simp [NoF.no, NoFK.no]) (fun _ => rfl)) (fun r10 e13 k12 => (ea_bor (ea_nil k12))))) (fun _ => rfl) (fun r10 r14 q15 => (congrArg ff__law_put (l_cons (rfl) (l_cons (rfl) (l_cons (rfl) l_nil)))).trans (ty__law_put_0 s3.2 r10.1 x2 r14 q15)) (fun _ => by simp [NoF.no, NoFK.no]) (fun _ _ => rfl)) fun r16 e17 k18 => (s_skip (k18.le (le_some (le_some (le_some (le_some (le_none (le_none le_nil))))))) (Or.inl rfl))))))) fun s19 e20 k21 => (s_frzN (i := 1) (ct := (cL .o (cL .o cI))) k21 rfl fun e22 k23 => (s_ret (e_pureC (e_var (i := 1) k23 rfl)) (k23.le (le_some (le_some (le_none (le_none (le_none (le_none le_nil))))))) rfl))))) _ (Mt.start (ds := [(cR .o (Ow.k2 (cL .o cI) (Ow.k2 cI (Ow.k2 cI (Ow.k1 cI))))) box, (cL .o (cL .o cI)) rows, cI first, cI behind_last]) (n := 6))) (fun _ => rfl)
theorem ty__law_ringed_0 (box : ((List Int) × Int × Int × Int)) (k : Int) (places : Int) (ties : Int) : ∀ rz, Td.l_ringed box k places ties = some rz → ff__law_ringed [(cR .o (Ow.k2 (cL .o cI) (Ow.k2 cI (Ow.k2 cI (Ow.k1 cI))))) box, cI k, cI places, cI ties] = some ((cL .s (cL .s cI)) rz.1, [(cR .o (Ow.k2 (cL .o cI) (Ow.k2 cI (Ow.k2 cI (Ow.k1 cI))))) rz.2]) :=
  run_m (c := fun (r : ((List (List Int)) × ((List Int) × Int × Int × Int))) => (cL .s (cL .s cI)) r.1) (os := fun (r : ((List (List Int)) × ((List Int) × Int × Int × Int))) => [(cR .o (Ow.k2 (cL .o cI) (Ow.k2 cI (Ow.k2 cI (Ow.k1 cI))))) r.2]) (Q := (fun (r : ((List (List Int)) × ((List Int) × Int × Int × Int))) => [some ((cR .o (Ow.k2 (cL .o cI) (Ow.k2 cI (Ow.k2 cI (Ow.k1 cI))))) r.2), none, none, none, none, none])) ((show ∀ e0 : Ow.Env, Mt [some ((cR .o (Ow.k2 (cL .o cI) (Ow.k2 cI (Ow.k2 cI (Ow.k1 cI))))) box), some (cI k), some (cI places), some (cI ties), none, none] e0 → ES bb__law_ringed e0 (Td.l_ringed box k places ties) (fnK fun (r : ((List (List Int)) × ((List Int) × Int × Int × Int))) => (cL .s (cL .s cI)) r.1) ((fun (r : ((List (List Int)) × ((List Int) × Int × Int × Int))) => [some ((cR .o (Ow.k2 (cL .o cI) (Ow.k2 cI (Ow.k2 cI (Ow.k1 cI))))) r.2), none, none, none, none, none])) from fun e0 h0 => by delta bb__law_ringed Td.l_ringed; exact (ES.hoistL (w_R (rg_1 (e_var (i := 1) h0 rfl))) fun xs3 hxs3 => (s_setV (i := 4) (v_lcp (Px := fun (x4 : Int) => [some ((cR .o (Ow.k2 (cL .o cI) (Ow.k2 cI (Ow.k2 cI (Ow.k1 cI))))) box), some (cI k), some (cI places), some (cI ties), none, some (cI x4)]) hxs3 h0 (fun x4 => b_nm) (fun x4 e5 k6 => vb_yes) fun x4 e5 k6 => (EV.hoist (v_mul (e_cI 2) (e_var (i := 5) k6 rfl)) fun v7 hv7 => (EV.hoist (v_mul (e_cI 2) (e_var (i := 5) k6 rfl)) fun v8 hv8 => (EV.tot (show _ = some ((cL .o cI) [v7 - 1, v8]) from e_mk (e_cons (e_sub hv7 (e_cI 1)) (e_cons hv8 e_nil))))))) h0 fun rows e1 k2 => (ES.hoist (v_mul (e_cI 2) (e_var (i := 1) k2 rfl)) fun v10 hv10 => (s_put (show _ = some ((cL .o cI) [0, v10 - 1]) from e_mk (e_cons (e_cI 0) (e_cons (e_sub hv10 (e_cI 1)) e_nil))) (pl_name (i := 4) k2 rfl) (e_cI 0) k2 fun rows e12 k13 => (s_setE (i := 4) (ee_cat (t1_move (i := 4) k13 rfl) (fun e16 k17 => (EV.hoistL (w_R (rg_1 (e_var (i := 2) k17 rfl))) fun xs18 hxs18 => (v_lcm (Px := fun (x19 : Int) => [some ((cR .o (Ow.k2 (cL .o cI) (Ow.k2 cI (Ow.k2 cI (Ow.k1 cI))))) box), some (cI k), some (cI places), some (cI ties), none, some (cI x19)]) hxs18 k17 (fun x19 => b_nm) fun x19 e20 k21 => (show _ = some ((cL .o cI) ([] : (List Int))) from e_mk e_nil))))) fun z24 e14 k15 => (ES.hoist (v_mul (e_cI 2) (e_var (i := 1) k15 rfl)) fun v25 hv25 => (ES.hoist (v_mul (e_cI 2) (e_var (i := 1) k15 rfl)) fun v26 hv26 => (ES.hoist (v_mul (e_cI 2) (e_var (i := 3) k15 rfl)) fun v27 hv27 => (s_retE (w := fun (r28 : ((List (List Int)) × ((List Int) × Int × Int × Int) × (List (List Int)))) => (r28.1, r28.2.1)) (ee_callN0 (dr := (fun (r28 : ((List (List Int)) × ((List Int) × Int × Int × Int) × (List (List Int)))) => (cL .s (cL .s cI)) r28.1)) (Pf := fun (r28 : ((List (List Int)) × ((List Int) × Int × Int × Int) × (List (List Int)))) => [some ((cR .o (Ow.k2 (cL .o cI) (Ow.k2 cI (Ow.k2 cI (Ow.k1 cI))))) r28.2.1), some (cI k), some (cI places), some (cI ties), some ((cL .s (cL .s cI)) r28.2.2), none]) k15 rfl (ea_mv (ea_mv (ea_ev hv25 (ea_ev (e_add hv26 hv27) (ea_nil k15))))) rfl (fun r28 q29 => (congrArg ff__law_lay_ends (l_cons (rfl) (l_cons (rfl) (l_cons (rfl) (l_cons (rfl) l_nil))))).trans (ty__law_lay_ends_0 box z24 v25 (v26 + v27) r28 q29)) (by simp [boS, Pu.pu, PuK.pu]) (fun _ => rfl)) (fun r28 e31 k30 => (k30.le (le_some (le_none (le_none (le_none (le_none (le_none le_nil)))))))) (fun r28 => rfl))))))))))) _ (Mt.start (ds := [(cR .o (Ow.k2 (cL .o cI) (Ow.k2 cI (Ow.k2 cI (Ow.k1 cI))))) box, cI k, cI places, cI ties]) (n := 6))) (fun _ => rfl)
theorem ty__law_shuffled_0 (box : ((List Int) × Int × Int × Int)) (many : Int) : ∀ rz, Td.l_shuffled box many = some rz → ff__law_shuffled [(cR .o (Ow.k2 (cL .o cI) (Ow.k2 cI (Ow.k2 cI (Ow.k1 cI))))) box, cI many] = some ((cL .o cI) rz.1, [(cR .o (Ow.k2 (cL .o cI) (Ow.k2 cI (Ow.k2 cI (Ow.k1 cI))))) rz.2]) :=
  run_m (c := fun (r : ((List Int) × ((List Int) × Int × Int × Int))) => (cL .o cI) r.1) (os := fun (r : ((List Int) × ((List Int) × Int × Int × Int))) => [(cR .o (Ow.k2 (cL .o cI) (Ow.k2 cI (Ow.k2 cI (Ow.k1 cI))))) r.2]) (Q := (fun (r : ((List Int) × ((List Int) × Int × Int × Int))) => [some ((cR .o (Ow.k2 (cL .o cI) (Ow.k2 cI (Ow.k2 cI (Ow.k1 cI))))) r.2), none, none, none])) ((show ∀ e0 : Ow.Env, Mt [some ((cR .o (Ow.k2 (cL .o cI) (Ow.k2 cI (Ow.k2 cI (Ow.k1 cI))))) box), some (cI many), none, none] e0 → ES bb__law_shuffled e0 (Td.l_shuffled box many) (fnK fun (r : ((List Int) × ((List Int) × Int × Int × Int))) => (cL .o cI) r.1) ((fun (r : ((List Int) × ((List Int) × Int × Int × Int))) => [some ((cR .o (Ow.k2 (cL .o cI) (Ow.k2 cI (Ow.k2 cI (Ow.k1 cI))))) r.2), none, none, none])) from fun e0 h0 => by delta bb__law_shuffled Td.l_shuffled; exact (s_setV (i := 2) (v_rg (rg_1 (e_var (i := 1) h0 rfl))) h0 fun pool e1 k2 => (s_let (i := 3) (ct := (cL .o cI)) (show _ = some ((cL .o cI) ([] : (List Int))) from e_mk e_nil) k2 fun told e4 k5 => (s_seq (s_wh (s0 := (box, pool, told)) (Pl := fun (s6 : (((List Int) × Int × Int × Int) × (List Int) × (List Int))) => [some ((cR .o (Ow.k2 (cL .o cI) (Ow.k2 cI (Ow.k2 cI (Ow.k1 cI))))) s6.1), some (cI many), some ((cL .o cI) s6.2.1), some ((cL .o cI) s6.2.2)]) (k5.le (le_some (le_some (le_some (le_some le_nil))))) (fun s6 e7 k8 => (vb_p (e_B (e_gt (e_len (e_var (i := 2) (d := (cL .o cI) s6.2.1) k8 rfl)) (e_cI 0))))) (fun s6 e7 k8 => (s_last (s_appE (y := fun (r11 : ((Int × ((List Int) × Int × Int × Int)) × Int × (List Int))) => r11.2.1) (pl_name (i := 3) k8 rfl) (ee_popE (pl_name (i := 2) k8 rfl) (ee_call0 (dr := (fun (r9 : (Int × ((List Int) × Int × Int × Int))) => cI r9.1)) (Pf := fun (r9 : (Int × ((List Int) × Int × Int × Int))) => [some ((cR .o (Ow.k2 (cL .o cI) (Ow.k2 cI (Ow.k2 cI (Ow.k1 cI))))) r9.2), some (cI many), some ((cL .o cI) s6.2.1), some ((cL .o cI) s6.2.2)]) k8 rfl (ea_mv (ea_ev (e_len (e_var (i := 2) (d := (cL .o cI) s6.2.1) k8 rfl)) (ea_nil k8))) rfl (fun r9 q10 => (congrArg ff__law_take (l_cons (rfl) (l_cons (rfl) l_nil))).trans (ty__law_take_0 s6.1 (s6.2.1.length : Int) r9 q10)) (fun _ => by simp [NoF.no, NoFK.no]) (fun _ => rfl))) fun r11 told e14 k15 => (s_skip (k15.le (le_some (le_some (le_some (le_some le_nil))))) (Or.inl rfl)))))) fun s16 e17 k18 => (s_retM (i := 3) k18 rfl (fun em hm => (hm.le (le_some (le_none (le_none (le_none le_nil)))))) rfl))))) _ (Mt.start (ds := [(cR .o (Ow.k2 (cL .o cI) (Ow.k2 cI (Ow.k2 cI (Ow.k1 cI))))) box, cI many]) (n := 4))) (fun _ => rfl)
theorem ty__law_least_0 (row : (List Int)) : ∀ rz, Td.l_least_2 row = some rz → ff__law_least [(cL .s cI) row] = some ((cL .o cI) rz) :=
  run_p (c := (cL .o cI)) (Q := fun _ => List.replicate 2 none) ((show ∀ e0 : Ow.Env, Mt [some ((cL .s cI) row), none] e0 → ES bb__law_least e0 (Td.l_least_2 row) (fnK (cL .o cI)) (fun _ => List.replicate 2 none) from fun e0 h0 => by delta bb__law_least Td.l_least_2; exact (s_ifx (e_B (e_eq (e_len (e_var (i := 0) h0 rfl)) (e_cI 0))) (fun _ => (s_ret (show _ = some ((cL .o cI) ([] : (List Int))) from e_mk e_nil) (h0.any rfl) ⟨rfl, fun z => nomatch z⟩)) (fun _ => (s_sk (ES.hoist (v_min (e_var (i := 0) h0 rfl)) fun v3 hv3 => (s_setV (i := 1) (v_index (e_var (i := 0) h0 rfl) hv3) h0 fun at_ e1 k2 => (s_retO (v_cat (e_sl (e_var (i := 0) k2 rfl) (e_oYes (e_var (i := 1) k2 rfl)) e_oNo) (e_sl (e_var (i := 0) k2 rfl) e_oNo (e_oYes (e_var (i := 1) k2 rfl)))) (fun v5 => (k2.any rfl)) (fun v5 => rfl)))))))) _ (Mt.start (ds := [(cL .s cI) row]) (n := 2)))
theorem ty__law_named_0 (box : ((List Int) × Int × Int × Int)) (rows : (List (List Int))) : ∀ rz, Td.l_named_3 box rows = some rz → ff__law_named [(cR .o (Ow.k2 (cL .o cI) (Ow.k2 cI (Ow.k2 cI (Ow.k1 cI))))) box, (cL .s (cL .s cI)) rows] = some ((cT (Ow.k2 (cL .o (cL .o cI)) (Ow.k1 (cL .o cI)))) rz.1, [(cR .o (Ow.k2 (cL .o cI) (Ow.k2 cI (Ow.k2 cI (Ow.k1 cI))))) rz.2]) :=
  run_m (c := fun (r : (((List (List Int)) × (List Int)) × ((List Int) × Int × Int × Int))) => (cT (Ow.k2 (cL .o (cL .o cI)) (Ow.k1 (cL .o cI)))) r.1) (os := fun (r : (((List (List Int)) × (List Int)) × ((List Int) × Int × Int × Int))) => [(cR .o (Ow.k2 (cL .o cI) (Ow.k2 cI (Ow.k2 cI (Ow.k1 cI))))) r.2]) (Q := (fun (r : (((List (List Int)) × (List Int)) × ((List Int) × Int × Int × Int))) => [some ((cR .o (Ow.k2 (cL .o cI) (Ow.k2 cI (Ow.k2 cI (Ow.k1 cI))))) r.2), none, none, none, none, none, none, none, none, none])) ((show ∀ e0 : Ow.Env, Mt [some ((cR .o (Ow.k2 (cL .o cI) (Ow.k2 cI (Ow.k2 cI (Ow.k1 cI))))) box), some ((cL .s (cL .s cI)) rows), none, none, none, none, none, none, none, none] e0 → ES bb__law_named e0 (Td.l_named_3 box rows) (fnK fun (r : (((List (List Int)) × (List Int)) × ((List Int) × Int × Int × Int))) => (cT (Ow.k2 (cL .o (cL .o cI)) (Ow.k1 (cL .o cI)))) r.1) ((fun (r : (((List (List Int)) × (List Int)) × ((List Int) × Int × Int × Int))) => [some ((cR .o (Ow.k2 (cL .o cI) (Ow.k2 cI (Ow.k2 cI (Ow.k1 cI))))) r.2), none, none, none, none, none, none, none, none, none])) from fun e0 h0 => by delta bb__law_named Td.l_named_3; exact (s_let (i := 2) (ct := (cL .o cI)) (show _ = some ((cL .o cI) ([] : (List Int))) from e_mk e_nil) h0 fun names e1 k2 => (ES.hoist (v_lcm (Px := fun (x3 : (List Int)) => [some ((cR .o (Ow.k2 (cL .o cI) (Ow.k2 cI (Ow.k2 cI (Ow.k1 cI))))) box), some ((cL .s (cL .s cI)) rows), some ((cL .o cI) names), none, none, none, none, none, some ((cL .s cI) x3), none]) (w_L (e_var (i := 1) k2 rfl)) k2 (fun x3 => b_nm) fun x3 e4 k5 => (e_len (e_var (i := 8) k5 rfl))) fun ys6 hys6 => (s_forE (xs := fun (r7 : ((List Int) × ((List Int) × Int × Int × Int))) => r7.1) (ee_call0 (dr := (fun (r7 : ((List Int) × ((List Int) × Int × Int × Int))) => (cL .o cI) r7.1)) (Pf := fun (r7 : ((List Int) × ((List Int) × Int × Int × Int))) => [some ((cR .o (Ow.k2 (cL .o cI) (Ow.k2 cI (Ow.k2 cI (Ow.k1 cI))))) r7.2), some ((cL .s (cL .s cI)) rows), some ((cL .o cI) names), none, none, none, none, none, none, none]) k2 rfl (ea_mv (ea_ev (e_divC (e_sum hys6) (e_cI 2)) (ea_nil k2))) rfl (fun r7 q8 => (congrArg ff__law_shuffled (l_cons (rfl) (l_cons (rfl) l_nil))).trans (ty__law_shuffled_0 box (ys6.sum / 2) r7 q8)) (fun _ => by simp [NoF.no, NoFK.no]) (fun _ => rfl)) fun r7 e10 k9 => (s_seq (s_for (xs := r7.1) (s0 := (r7.2, names)) (Pl := fun (s12 : (((List Int) × Int × Int × Int) × (List Int))) => [some ((cR .o (Ow.k2 (cL .o cI) (Ow.k2 cI (Ow.k2 cI (Ow.k1 cI))))) s12.1), some ((cL .s (cL .s cI)) rows), some ((cL .o cI) s12.2), none, none, none, none, none, none, none]) (Px := fun (s12 : (((List Int) × Int × Int × Int) × (List Int))) (x11 : Int) => [some ((cR .o (Ow.k2 (cL .o cI) (Ow.k2 cI (Ow.k2 cI (Ow.k1 cI))))) s12.1), some ((cL .s (cL .s cI)) rows), some ((cL .o cI) s12.2), some (cI x11), none, none, none, none, none, none]) rfl (k9.le (le_some (le_some (le_some (le_none (le_none (le_none (le_none (le_none (le_none (le_none le_nil))))))))))) (fun s12 x11 => b_nm) (fun s12 x11 e13 k14 => (s_setE (i := 4) (ee_call0 (dr := (fun (r17 : (Int × ((List Int) × Int × Int × Int))) => cI r17.1)) (Pf := fun (r17 : (Int × ((List Int) × Int × Int × Int))) => [some ((cR .o (Ow.k2 (cL .o cI) (Ow.k2 cI (Ow.k2 cI (Ow.k1 cI))))) r17.2), some ((cL .s (cL .s cI)) rows), some ((cL .o cI) s12.2), some (cI x11), none, none, none, none, none, none]) k14 rfl (ea_mv (ea_ev (e_cI 2) (ea_nil k14))) rfl (fun r17 q18 => (congrArg ff__law_take (l_cons (rfl) (l_cons (rfl) l_nil))).trans (ty__law_take_0 s12.1 2 r17 q18)) (fun _ => by simp [NoF.no, NoFK.no]) (fun _ => rfl)) fun r17 e15 k16 => (ES.hoist (v_mul (e_cI 2) (e_var (i := 3) k16 rfl)) fun v19 hv19 => (s_app (pl_name (i := 2) k16 rfl) (e_add hv19 (e_var (i := 4) (d := cI r17.1) k16 rfl)) k16 fun names e21 k22 => (s_last (ES.hoist (v_mul (e_cI 2) (e_var (i := 3) k22 rfl)) fun v23 hv23 => (s_app (pl_name (i := 2) k22 rfl) (e_sub (e_add hv23 (e_cI 1)) (e_var (i := 4) (d := cI r17.1) k22 rfl)) k22 fun names e25 k26 => (s_skip (k26.le (le_some (le_some (le_some (le_none (le_none (le_none (le_none (le_none (le_none (le_none le_nil))))))))))) (Or.inl rfl)))))))))) fun s27 e28 k29 => (s_setE (i := 5) (ee_call0 (dr := (fun (r32 : ((List Int) × ((List Int) × Int × Int × Int))) => (cL .o cI) r32.1)) (Pf := fun (r32 : ((List Int) × ((List Int) × Int × Int × Int))) => [some ((cR .o (Ow.k2 (cL .o cI) (Ow.k2 cI (Ow.k2 cI (Ow.k1 cI))))) r32.2), some ((cL .s (cL .s cI)) rows), some ((cL .o cI) s27.2), none, none, none, none, none, none, none]) k29 rfl (ea_mv (ea_ev (e_len (e_var (i := 1) k29 rfl)) (ea_nil k29))) rfl (fun r32 q33 => (congrArg ff__law_shuffled (l_cons (rfl) (l_cons (rfl) l_nil))).trans (ty__law_shuffled_0 s27.1 (rows.length : Int) r32 q33)) (fun _ => by simp [NoF.no, NoFK.no]) (fun _ => rfl)) fun r32 e30 k31 => (s_setV (i := 6) (v_lcm (Px := fun (x36 : (List Int)) => [some ((cR .o (Ow.k2 (cL .o cI) (Ow.k2 cI (Ow.k2 cI (Ow.k1 cI))))) r32.2), some ((cL .s (cL .s cI)) rows), some ((cL .o cI) s27.2), none, none, some ((cL .o cI) r32.1), none, none, some ((cL .s cI) x36), none]) (w_L (e_var (i := 1) k31 rfl)) k31 (fun x36 => b_nm) fun x36 e37 k38 => (show _ = some ((cL .o cI) ([] : (List Int))) from e_mk e_nil)) k31 fun told e34 k35 => (s_seq (s_for (xs := (enu 0 rows)) (s0 := told) (Pl := fun (s41 : ((List (List Int)))) => [some ((cR .o (Ow.k2 (cL .o cI) (Ow.k2 cI (Ow.k2 cI (Ow.k1 cI))))) r32.2), some ((cL .s (cL .s cI)) rows), some ((cL .o cI) s27.2), none, none, some ((cL .o cI) r32.1), some ((cL .o (cL .o cI)) s41), none, none, none]) (Px := fun (s41 : ((List (List Int)))) (x40 : (Int × (List Int))) => [some ((cR .o (Ow.k2 (cL .o cI) (Ow.k2 cI (Ow.k2 cI (Ow.k1 cI))))) r32.2), some ((cL .s (cL .s cI)) rows), some ((cL .o cI) s27.2), none, none, some ((cL .o cI) r32.1), some ((cL .o (cL .o cI)) s41), some (cI x40.1), some ((cL .s cI) x40.2), none]) (w_E (e_pureC (e_var (i := 1) k35 rfl))) (k35.le (le_some (le_some (le_some (le_none (le_none (le_some (le_some (le_none (le_none (le_none le_nil))))))))))) (fun s41 x40 => (b_tp (b_cons b_nm (b_cons b_nm b_nil)))) (fun s41 x40 e42 k43 => (s_last (ES.hoist (v_lcp (Px := fun (x44 : Int) => [some ((cR .o (Ow.k2 (cL .o cI) (Ow.k2 cI (Ow.k2 cI (Ow.k1 cI))))) r32.2), some ((cL .s (cL .s cI)) rows), some ((cL .o cI) s27.2), none, none, some ((cL .o cI) r32.1), some ((cL .o (cL .o cI)) s41), some (cI x40.1), some ((cL .s cI) x40.2), some (cI x44)]) (w_L (e_var (i := 8) (d := (cL .s cI) x40.2) k43 rfl)) k43 (fun x44 => b_nm) (fun x44 e45 k46 => vb_yes) fun x44 e45 k46 => (EV.hoist (v_pure (v_item (e_var (i := 2) (d := (cL .o cI) s27.2) k46 rfl) (e_var (i := 9) k46 rfl))) fun v47 hv47 => (EV.tot hv47))) fun ys48 hys48 => (ES.hoist (v_fn (c := (cL .o cI)) (e_cons hys48 e_nil) (fun r49 q50 => (congrArg ff__law_least (fz_cons fz_nil)).trans (ty__law_least_0 ys48 r49 q50))) fun r51 hr51 => (ES.hoist (v_item (e_var (i := 5) (d := (cL .o cI) r32.1) k43 rfl) (e_var (i := 7) (d := cI x40.1) k43 rfl)) fun v52 hv52 => (s_put hr51 (pl_name (i := 6) k43 rfl) hv52 k43 fun told e54 k55 => (s_skip (k55.le (le_some (le_some (le_some (le_none (le_none (le_some (le_some (le_none (le_none (le_none le_nil))))))))))) (Or.inl rfl))))))))) fun s56 e57 k58 => (s_retU (show EE _ _ _ (fun (_ : Unit) => ((cT (Ow.k2 (cL .o (cL .o cI)) (Ow.k1 (cL .o cI)))) (s56, s27.2), _)) from ee_tup2U (t1_move (i := 6) k58 rfl) (fun e59 k60 => (t1_move (i := 2) k60 rfl))) (fun e62 k61 => (k61.le (le_some (le_none (le_none (le_none (le_none (le_none (le_none (le_none (le_none (le_none le_nil)))))))))))) rfl))))))))) _ (Mt.start (ds := [(cR .o (Ow.k2 (cL .o cI) (Ow.k2 cI (Ow.k2 cI (Ow.k1 cI))))) box, (cL .s (cL .s cI)) rows]) (n := 10))) (fun _ => rfl)
theorem ty__law_mate_0 (end_ : Int) : ∀ rz, Td.l_mate end_ = some rz → ff__law_mate [cI end_] = some (cI rz) :=
  run_p (c := cI) (Q := fun _ => List.replicate 1 none) ((show ∀ e0 : Ow.Env, Mt [some (cI end_)] e0 → ES bb__law_mate e0 (Td.l_mate end_) (fnK cI) (fun _ => List.replicate 1 none) from fun e0 h0 => by delta bb__law_mate Td.l_mate; exact (ES.hoist (v_mul (e_cI 2) (e_modC (e_var (i := 0) h0 rfl) (e_cI 2))) fun v1 hv1 => (s_ret (e_sub (e_add (e_var (i := 0) h0 rfl) (e_cI 1)) hv1) (h0.any rfl) rfl))) _ (Mt.start (ds := [cI end_]) (n := 1)))
theorem ty__law_turn_0 (box : ((List Int) × Int × Int × Int)) (names : (List Int)) (k : Int) : ∀ rz, Td.l_turn_5 box names k = some rz → ff__law_turn [(cR .o (Ow.k2 (cL .o cI) (Ow.k2 cI (Ow.k2 cI (Ow.k1 cI))))) box, (cL .s cI) names, cI k] = some ((cL .o cI) rz.1, [(cR .o (Ow.k2 (cL .o cI) (Ow.k2 cI (Ow.k2 cI (Ow.k1 cI))))) rz.2]) :=
  run_m (c := fun (r : ((List Int) × ((List Int) × Int × Int × Int))) => (cL .o cI) r.1) (os := fun (r : ((List Int) × ((List Int) × Int × Int × Int))) => [(cR .o (Ow.k2 (cL .o cI) (Ow.k2 cI (Ow.k2 cI (Ow.k1 cI))))) r.2]) (Q := (fun (r : ((List Int) × ((List Int) × Int × Int × Int))) => [some ((cR .o (Ow.k2 (cL .o cI) (Ow.k2 cI (Ow.k2 cI (Ow.k1 cI))))) r.2), none, none, none, none, none, none])) ((show ∀ e0 : Ow.Env, Mt [some ((cR .o (Ow.k2 (cL .o cI) (Ow.k2 cI (Ow.k2 cI (Ow.k1 cI))))) box), some ((cL .s cI) names), some (cI k), none, none, none, none] e0 → ES bb__law_turn e0 (Td.l_turn_5 box names k) (fnK fun (r : ((List Int) × ((List Int) × Int × Int × Int))) => (cL .o cI) r.1) ((fun (r : ((List Int) × ((List Int) × Int × Int × Int))) => [some ((cR .o (Ow.k2 (cL .o cI) (Ow.k2 cI (Ow.k2 cI (Ow.k1 cI))))) r.2), none, none, none, none, none, none])) from fun e0 h0 => by delta bb__law_turn Td.l_turn_5; exact (s_setE (i := 3) (ee_call0 (dr := (fun (r3 : (Int × ((List Int) × Int × Int × Int))) => cI r3.1)) (Pf := fun (r3 : (Int × ((List Int) × Int × Int × Int))) => [some ((cR .o (Ow.k2 (cL .o cI) (Ow.k2 cI (Ow.k2 cI (Ow.k1 cI))))) r3.2), some ((cL .s cI) names), some (cI k), none, none, none, none]) h0 rfl (ea_mv (ea_bor (ea_nil h0))) rfl (fun r3 q4 => (congrArg ff__law_take (l_cons (rfl) (l_cons (rfl) l_nil))).trans (ty__law_take_0 box k r3 q4)) (fun _ => by simp [NoF.no, NoFK.no]) (fun _ => rfl)) fun r3 e1 k2 => (ES.hoistL (w_R (rg_1 (e_var (i := 2) k2 rfl))) fun xs7 hxs7 => (s_setV (i := 4) (v_lcp (Px := fun (x8 : Int) => [some ((cR .o (Ow.k2 (cL .o cI) (Ow.k2 cI (Ow.k2 cI (Ow.k1 cI))))) r3.2), some ((cL .s cI) names), some (cI k), some (cI r3.1), none, some (cI x8), none]) hxs7 k2 (fun x8 => b_nm) (fun x8 e9 k10 => vb_yes) fun x8 e9 k10 => (EV.hoist (v_mod (e_add (e_var (i := 3) (d := cI r3.1) k10 rfl) (e_var (i := 5) k10 rfl)) (e_var (i := 2) k10 rfl)) fun v11 hv11 => (EV.hoist (v_mul (e_cI 2) hv11) fun v12 hv12 => (EV.hoist (v_pure (v_item (e_var (i := 1) k10 rfl) hv12)) fun v13 hv13 => (EV.tot hv13))))) k2 fun turn e5 k6 => (s_seq (s_ifE (Q := fun (j31 : (((List Int) × Int × Int × Int) × (List Int))) => [some ((cR .o (Ow.k2 (cL .o cI) (Ow.k2 cI (Ow.k2 cI (Ow.k1 cI))))) j31.1), some ((cL .s cI) names), some (cI k), some (cI r3.1), some ((cL .o cI) j31.2), none, none]) (Pa := fun (r15 : (Int × ((List Int) × Int × Int × Int))) => [some ((cR .o (Ow.k2 (cL .o cI) (Ow.k2 cI (Ow.k2 cI (Ow.k1 cI))))) r15.2), some ((cL .s cI) names), some (cI k), some (cI r3.1), some ((cL .o cI) turn), none, none]) (p := fun (r15 : (Int × ((List Int) × Int × Int × Int))) => r15.1 = 1) (et_B (b := fun (r15 : (Int × ((List Int) × Int × Int × Int))) => decide (r15.1 = 1)) (ee_opL (w := fun (r15 : (Int × ((List Int) × Int × Int × Int))) => .bl (decide (r15.1 = 1))) (ee_call0 (dr := (fun (r15 : (Int × ((List Int) × Int × Int × Int))) => cI r15.1)) (Pf := fun (r15 : (Int × ((List Int) × Int × Int × Int))) => [some ((cR .o (Ow.k2 (cL .o cI) (Ow.k2 cI (Ow.k2 cI (Ow.k1 cI))))) r15.2), some ((cL .s cI) names), some (cI k), some (cI r3.1), some ((cL .o cI) turn), none, none]) k6 rfl (ea_mv (ea_ev (e_cI 2) (ea_nil k6))) rfl (fun r15 q16 => (congrArg ff__law_take (l_cons (rfl) (l_cons (rfl) l_nil))).trans (ty__law_take_0 r3.2 2 r15 q16)) (fun _ => by simp [NoF.no, NoFK.no]) (fun _ => rfl)) (fun r15 e18 k17 => (e_cI 1)) (fun _ => eq_int _ _) (fun _ => rfl))) (fun r15 e20 k19 _ => (s_last (ES.hoist (v_sl3 (e_var (i := 4) k19 rfl) e_oNo e_oNo (e_oYes (e_neg (e_cI 1)))) fun ys23 hys23 => (s_setV (i := 4) (v_lcp (Px := fun (x24 : Int) => [some ((cR .o (Ow.k2 (cL .o cI) (Ow.k2 cI (Ow.k2 cI (Ow.k1 cI))))) r15.2), some ((cL .s cI) names), some (cI k), some (cI r3.1), some ((cL .o cI) turn), none, some (cI x24)]) (w_L hys23) k19 (fun x24 => b_nm) (fun x24 e25 k26 => vb_yes) fun x24 e25 k26 => (EV.hoist (v_fn (c := cI) (e_cons (e_var (i := 6) k26 rfl) e_nil) (fun r27 q28 => (congrArg ff__law_mate (fz_cons fz_nil)).trans (ty__law_mate_0 x24 r27 q28))) fun r29 hr29 => (EV.tot hr29))) k19 fun turn e21 k22 => (s_skip (k22.le (le_some (le_some (le_some (le_some (le_some (le_none (le_none le_nil)))))))) rfl))))) (fun r15 e20 k19 _ => (s_skip (k19.le (le_some (le_some (le_some (le_some (le_some (le_none (le_none le_nil)))))))) rfl))) fun j31 e32 k33 => (s_retM (i := 4) k33 rfl (fun em hm => (hm.le (le_some (le_none (le_none (le_none (le_none (le_none (le_none le_nil))))))))) rfl)))))) _ (Mt.start (ds := [(cR .o (Ow.k2 (cL .o cI) (Ow.k2 cI (Ow.k2 cI (Ow.k1 cI))))) box, (cL .s cI) names, cI k]) (n := 7))) (fun _ => rfl)
theorem ty__law_fours_0 (r : Int) (c : Int) (s : Int) : ∀ rz, Td.l_fours r c s = some rz → ff__law_fours [cI r, cI c, cI s] = some ((cL .o (cL .o cI)) rz) :=
  run_p (c := (cL .o (cL .o cI))) (Q := fun _ => List.replicate 9 none) ((show ∀ e0 : Ow.Env, Mt [some (cI r), some (cI c), some (cI s), none, none, none, none, none, none] e0 → ES bb__law_fours e0 (Td.l_fours r c s) (fnK (cL .o (cL .o cI))) (fun _ => List.replicate 9 none) from fun e0 h0 => by delta bb__law_fours Td.l_fours; exact (s_let (i := 3) (ct := (cL .o (cL .o cI))) (show _ = some ((cL .o (cL .o cI)) ([] : (List (List Int)))) from e_mk e_nil) h0 fun told e1 k2 => (ES.hoistL (w_R (rg_1 (e_var (i := 0) k2 rfl))) fun xs3 hxs3 => (s_seq (s_for (xs := xs3) (s0 := told) (Pl := fun (s5 : ((List (List Int)))) => [some (cI r), some (cI c), some (cI s), some ((cL .o (cL .o cI)) s5), none, none, none, none, none]) (Px := fun (s5 : ((List (List Int)))) (x4 : Int) => [some (cI r), some (cI c), some (cI s), some ((cL .o (cL .o cI)) s5), some (cI x4), none, none, none, none]) hxs3 (k2.le (le_some (le_some (le_some (le_some (le_none (le_none (le_none (le_none (le_none le_nil)))))))))) (fun s5 x4 => b_nm) (fun s5 x4 e6 k7 => (s_last (ES.hoistL (w_R (rg_1 (e_var (i := 1) k7 rfl))) fun xs8 hxs8 => (s_seq (s_for (xs := xs8) (s0 := s5) (Pl := fun (s10 : ((List (List Int)))) => [some (cI r), some (cI c), some (cI s), some ((cL .o (cL .o cI)) s10), some (cI x4), none, none, none, none]) (Px := fun (s10 : ((List (List Int)))) (x9 : Int) => [some (cI r), some (cI c), some (cI s), some ((cL .o (cL .o cI)) s10), some (cI x4), some (cI x9), none, none, none]) hxs8 (k7.le (le_some (le_some (le_some (le_some (le_some (le_none (le_none (le_none (le_none le_nil)))))))))) (fun s10 x9 => b_nm) (fun s10 x9 e11 k12 => (ES.hoist (v_mul (e_var (i := 4) k12 rfl) (e_var (i := 1) k12 rfl)) fun v15 hv15 => (s_let (i := 6) (ct := cI) (e_add hv15 (e_var (i := 5) k12 rfl)) k12 fun p e13 k14 => (ES.hoist (v_mul (e_var (i := 4) k14 rfl) (e_var (i := 1) k14 rfl)) fun v18 hv18 => (ES.hoist (v_mod (e_sub (e_var (i := 5) k14 rfl) (e_cI 1)) (e_var (i := 1) k14 rfl)) fun v19 hv19 => (s_let (i := 7) (ct := cI) (e_add hv18 hv19) k14 fun left e16 k17 => (s_let (i := 8) (ct := cI) (e_sub (e_var (i := 6) k17 rfl) (e_var (i := 1) k17 rfl)) k17 fun down e20 k21 => (s_seq (s_if (Q := fun (j26 : (Int)) => [some (cI r), some (cI c), some (cI s), some ((cL .o (cL .o cI)) s10), some (cI x4), some (cI x9), some (cI p), some (cI left), some (cI j26)]) (e_B (e_eq (e_var (i := 4) k21 rfl) (e_cI 0))) (fun _ => (s_last (ES.hoist (v_mul (e_sub (e_var (i := 0) k21 rfl) (e_cI 1)) (e_var (i := 1) k21 rfl)) fun v24 hv24 => (ES.hoist (v_mod (e_sub (e_var (i := 5) k21 rfl) (e_var (i := 2) k21 rfl)) (e_var (i := 1) k21 rfl)) fun v25 hv25 => (s_let (i := 8) (ct := cI) (e_add hv24 hv25) k21 fun down e22 k23 => (s_skip (k23.le (le_some (le_some (le_some (le_some (le_some (le_some (le_some (le_some (le_some le_nil)))))))))) rfl)))))) (fun _ => (s_skip (k21.le (le_some (le_some (le_some (le_some (le_some (le_some (le_some (le_some (le_some le_nil)))))))))) rfl))) fun j26 e27 k28 => (s_last (ES.hoist (v_mul (e_cI 4) (e_var (i := 6) k28 rfl)) fun v29 hv29 => (ES.hoist (v_mul (e_cI 4) (e_var (i := 6) k28 rfl)) fun v30 hv30 => (ES.hoist (v_mul (e_cI 4) (e_var (i := 8) k28 rfl)) fun v31 hv31 => (ES.hoist (v_mul (e_cI 4) (e_var (i := 7) k28 rfl)) fun v32 hv32 => (ES.hoist (v_fn (c := (cL .o cI)) (e_cons (show _ = some ((cL .o cI) [v29 + 2, v30, v31 + 3, v32 + 1]) from e_mk (e_cons (e_add hv29 (e_cI 2)) (e_cons hv30 (e_cons (e_add hv31 (e_cI 3)) (e_cons (e_add hv32 (e_cI 1)) e_nil))))) e_nil) (fun r33 q34 => (congrArg ff__law_least (fz_cons fz_nil)).trans (ty__law_least_0 [v29 + 2, v30, v31 + 3, v32 + 1] r33 q34))) fun r35 hr35 => (s_app (pl_name (i := 3) k28 rfl) hr35 k28 fun told e37 k38 => (s_skip (k38.le (le_some (le_some (le_some (le_some (le_some (le_none (le_none (le_none (le_none le_nil)))))))))) (Or.inl rfl)))))))))))))))))) fun s39 e40 k41 => (s_skip (k41.le (le_some (le_some (le_some (le_some (le_none (le_none (le_none (le_none (le_none le_nil)))))))))) (Or.inl rfl))))))) fun s42 e43 k44 => (s_retM (i := 3) k44 rfl (fun em hm => (hm.any rfl)) rfl))))) _ (Mt.start (ds := [cI r, cI c, cI s]) (n := 9)))
theorem ty__law_great_0 (box : ((List Int) × Int × Int × Int)) : ∀ rz, Td.l_great_6 box = some rz → ff__law_great [(cR .o (Ow.k2 (cL .o cI) (Ow.k2 cI (Ow.k2 cI (Ow.k1 cI))))) box] = some ((cT (Ow.k2 (cL .o (cL .o cI)) (Ow.k2 (cL .s cI) (Ow.k1 (cL .o cI))))) rz.1, [(cR .o (Ow.k2 (cL .o cI) (Ow.k2 cI (Ow.k2 cI (Ow.k1 cI))))) rz.2]) :=
  run_m (c := fun (r : (((List (List Int)) × (List Int) × (List Int)) × ((List Int) × Int × Int × Int))) => (cT (Ow.k2 (cL .o (cL .o cI)) (Ow.k2 (cL .s cI) (Ow.k1 (cL .o cI))))) r.1) (os := fun (r : (((List (List Int)) × (List Int) × (List Int)) × ((List Int) × Int × Int × Int))) => [(cR .o (Ow.k2 (cL .o cI) (Ow.k2 cI (Ow.k2 cI (Ow.k1 cI))))) r.2]) (Q := (fun (r : (((List (List Int)) × (List Int) × (List Int)) × ((List Int) × Int × Int × Int))) => [some ((cR .o (Ow.k2 (cL .o cI) (Ow.k2 cI (Ow.k2 cI (Ow.k1 cI))))) r.2), none, none, none, none, none, none])) ((show ∀ e0 : Ow.Env, Mt [some ((cR .o (Ow.k2 (cL .o cI) (Ow.k2 cI (Ow.k2 cI (Ow.k1 cI))))) box), none, none, none, none, none, none] e0 → ES bb__law_great e0 (Td.l_great_6 box) (fnK fun (r : (((List (List Int)) × (List Int) × (List Int)) × ((List Int) × Int × Int × Int))) => (cT (Ow.k2 (cL .o (cL .o cI)) (Ow.k2 (cL .s cI) (Ow.k1 (cL .o cI))))) r.1) ((fun (r : (((List (List Int)) × (List Int) × (List Int)) × ((List Int) × Int × Int × Int))) => [some ((cR .o (Ow.k2 (cL .o cI) (Ow.k2 cI (Ow.k2 cI (Ow.k1 cI))))) r.2), none, none, none, none, none, none])) from fun e0 h0 => by delta bb__law_great Td.l_great_6; exact (s_setE (i := 1) (ee_opR (e_cI 2) (ee_call0 (dr := (fun (r3 : (Int × ((List Int) × Int × Int × Int))) => cI r3.1)) (Pf := fun (r3 : (Int × ((List Int) × Int × Int × Int))) => [some ((cR .o (Ow.k2 (cL .o cI) (Ow.k2 cI (Ow.k2 cI (Ow.k1 cI))))) r3.2), none, none, none, none, none, none]) h0 rfl (ea_mv (ea_ev (e_cI 24) (ea_nil h0))) rfl (fun r3 q4 => (congrArg ff__law_take (l_cons (rfl) (l_cons (rfl) l_nil))).trans (ty__law_take_0 box 24 r3 q4)) (fun _ => by simp [NoF.no, NoFK.no]) (fun _ => rfl)) (fun _ => rfl) (fun _ => rfl)) fun r3 e1 k2 => (ES.hoist (v_div (e_neg (e_cI 125)) (e_var (i := 1) (d := cI (2 + r3.1)) k2 rfl)) fun v7 hv7 => (s_let (i := 2) (ct := cI) (e_neg hv7) k2 fun c e5 k6 => (s_setE (i := 3) (ee_opLp (ee_call0 (dr := (fun (r10 : (Int × ((List Int) × Int × Int × Int))) => cI r10.1)) (Pf := fun (r10 : (Int × ((List Int) × Int × Int × Int))) => [some ((cR .o (Ow.k2 (cL .o cI) (Ow.k2 cI (Ow.k2 cI (Ow.k1 cI))))) r10.2), some (cI (2 + r3.1)), some (cI c), none, none, none, none]) k6 rfl (ea_mv (ea_bor (ea_nil k6))) rfl (fun r10 q11 => (congrArg ff__law_take (l_cons (rfl) (l_cons (rfl) l_nil))).trans (ty__law_take_0 r3.2 (2 + r3.1) r10 q11)) (fun _ => by simp [NoF.no, NoFK.no]) (fun _ => rfl)) (fun r10 e13 k12 => (e_pure (e_var (i := 2) k12 rfl))) (fun _ _ h => pf_mul h)) fun r14 e8 k9 => (s_asgE (Pb := fun (r25 : (((List (List Int)) × (List Int)) × ((List Int) × Int × Int × Int))) => [some ((cR .o (Ow.k2 (cL .o cI) (Ow.k2 cI (Ow.k2 cI (Ow.k1 cI))))) r25.2), some (cI (2 + r3.1)), some (cI c), some (cI r14.2), some ((cL .o (cL .o cI)) r25.1.1), some ((cL .o cI) r25.1.2), none]) (ee_call (dr := (fun (r25 : (((List (List Int)) × (List Int)) × ((List Int) × Int × Int × Int))) => (cT (Ow.k2 (cL .o (cL .o cI)) (Ow.k1 (cL .o cI)))) r25.1)) (Pf := fun (r25 : (((List (List Int)) × (List Int)) × ((List Int) × Int × Int × Int))) => [some ((cR .o (Ow.k2 (cL .o cI) (Ow.k2 cI (Ow.k2 cI (Ow.k1 cI))))) r25.2), some (cI (2 + r3.1)), some (cI c), some (cI r14.2), none, none, none]) k9 rfl (ea_mv (ea_evE (Pa := fun (r22 : ((Int × ((List Int) × Int × Int × Int)) × (List (List Int)))) => [some ((cR .o (Ow.k2 (cL .o cI) (Ow.k2 cI (Ow.k2 cI (Ow.k1 cI))))) r22.1.2), some (cI (2 + r3.1)), some (cI c), some (cI r14.2), none, none, none]) (ee_callP (dr := fun (r20 : (List (List Int))) => (cL .o (cL .o cI)) r20) (Pa := fun (r16 : (Int × ((List Int) × Int × Int × Int))) => [some ((cR .o (Ow.k2 (cL .o cI) (Ow.k2 cI (Ow.k2 cI (Ow.k1 cI))))) r16.2), some (cI (2 + r3.1)), some (cI c), some (cI r14.2), none, none, none]) k9 rfl (ea_bor (ea_bor (ea_evE (Pa := fun (r16 : (Int × ((List Int) × Int × Int × Int))) => [some ((cR .o (Ow.k2 (cL .o cI) (Ow.k2 cI (Ow.k2 cI (Ow.k1 cI))))) r16.2), some (cI (2 + r3.1)), some (cI c), some (cI r14.2), none, none, none]) (ee_call0 (dr := (fun (r16 : (Int × ((List Int) × Int × Int × Int))) => cI r16.1)) (Pf := fun (r16 : (Int × ((List Int) × Int × Int × Int))) => [some ((cR .o (Ow.k2 (cL .o cI) (Ow.k2 cI (Ow.k2 cI (Ow.k1 cI))))) r16.2), some (cI (2 + r3.1)), some (cI c), some (cI r14.2), none, none, none]) k9 rfl (ea_mv (ea_bor (ea_nil k9))) rfl (fun r16 q17 => (congrArg ff__law_take (l_cons (rfl) (l_cons (rfl) l_nil))).trans (ty__law_take_0 r14.1.2 c r16 q17)) (fun _ => by simp [NoF.no, NoFK.no]) (fun _ => rfl)) (fun r16 e19 k18 => (ea_nil k18))))) (fun _ => rfl) (fun r16 r20 q21 => (congrArg (pM ff__law_fours) (l_cons (show (cI _).frz = cI _ from rfl) (l_cons (show (cI _).frz = cI _ from rfl) (l_cons (show (cI _).frz = cI _ from rfl) l_nil)))).trans (pM_of (fz_cons (fz_cons (fz_cons fz_nil))) (ty__law_fours_0 (2 + r3.1) c r16.1 r20 q21))) (fun _ => by simp [NoF.no, NoFK.no]) (fun _ => rfl)) (fun r22 e24 k23 => (ea_nil k23)))) (fun _ => rfl) (fun r22 r25 q26 => (congrArg ff__law_named (l_cons (rfl) (l_cons (Fz.fz (c := (cL .o (cL .o cI))) _) l_nil))).trans (ty__law_named_0 r22.1.2 r22.2 r25 q26)) (fun _ => by simp [NoF.no, NoFK.no]) (fun _ _ => rfl)) (fun r25 => (b_tp (b_cons b_nm (b_cons b_nm b_nil)))) fun r25 e27 k28 => (s_frzN (i := 5) (ct := (cL .o cI)) k28 rfl fun e29 k30 => (ES.bindE fun xs33 hxs33E => (ES.bindE fun ys39 hys39E => (s_retU (show EE _ _ _ (fun (_ : Unit) => ((cT (Ow.k2 (cL .o (cL .o cI)) (Ow.k2 (cL .s cI) (Ow.k1 (cL .o cI))))) (r25.1.1, r25.1.2, ys39), _)) from ee_mk (ea_evT (t1_move (i := 4) k30 rfl) (fun e31 k32 => (have hxs33 := (w_R (rg_1 (e_var (i := 2) k32 rfl))) xs33 hxs33E; (have hys39 := (v_lcp (Px := fun (x34 : Int) => [some ((cR .o (Ow.k2 (cL .o cI) (Ow.k2 cI (Ow.k2 cI (Ow.k1 cI))))) r25.2), some (cI (2 + r3.1)), some (cI c), some (cI r14.2), none, some ((cL .s cI) r25.1.2), some (cI x34)]) hxs33 k32 (fun x34 => b_nm) (fun x34 e35 k36 => vb_yes) fun x34 e35 k36 => (EV.hoist (v_mul (e_cI 4) (e_add (e_var (i := 3) (d := cI r14.2) k36 rfl) (e_var (i := 6) k36 rfl))) fun v37 hv37 => (EV.hoist (v_pure (v_item (e_var (i := 5) (d := (cL .s cI) r25.1.2) k36 rfl) hv37)) fun v38 hv38 => (EV.tot hv38)))) ys39 hys39E; (ea_ev (e_pureC (e_var (i := 5) (d := (cL .s cI) r25.1.2) k32 rfl)) (ea_ev hys39 (ea_nil k32)))))))) (fun e41 k40 => (k40.le (le_some (le_none (le_none (le_none (le_none (le_none (le_none le_nil))))))))) rfl)))))))))) _ (Mt.start (ds := [(cR .o (Ow.k2 (cL .o cI) (Ow.k2 cI (Ow.k2 cI (Ow.k1 cI))))) box]) (n := 7))) (fun _ => rfl)
theorem ty__law_seats_0 (rows : (List (List Int))) : ∀ rz, Td.l_seats_3 rows = some rz → ff__law_seats [(cL .s (cL .s cI)) rows] = some ((cL .o cI) rz) :=
  run_p (c := (cL .o cI)) (Q := fun _ => List.replicate 5 none) ((show ∀ e0 : Ow.Env, Mt [some ((cL .s (cL .s cI)) rows), none, none, none, none] e0 → ES bb__law_seats e0 (Td.l_seats_3 rows) (fnK (cL .o cI)) (fun _ => List.replicate 5 none) from fun e0 h0 => by delta bb__law_seats Td.l_seats_3; exact (ES.hoist (v_lcm (Px := fun (x3 : (List Int)) => [some ((cL .s (cL .s cI)) rows), none, none, some ((cL .s cI) x3), none]) (w_L (e_var (i := 0) h0 rfl)) h0 (fun x3 => b_nm) fun x3 e4 k5 => (e_len (e_var (i := 3) k5 rfl))) fun ys6 hys6 => (s_setV (i := 1) (v_rep (show _ = some ((cL .o cI) [0]) from e_mk (e_cons (e_cI 0) e_nil)) (e_sum hys6)) h0 fun told e1 k2 => (s_seq (s_for (xs := (enu 0 rows)) (s0 := told) (Pl := fun (s9 : ((List Int))) => [some ((cL .s (cL .s cI)) rows), some ((cL .o cI) s9), none, none, none]) (Px := fun (s9 : ((List Int))) (x8 : (Int × (List Int))) => [some ((cL .s (cL .s cI)) rows), some ((cL .o cI) s9), some (cI x8.1), some ((cL .s cI) x8.2), none]) (w_E (e_pureC (e_var (i := 0) k2 rfl))) (k2.le (le_some (le_some (le_none (le_none (le_none le_nil)))))) (fun s9 x8 => (b_tp (b_cons b_nm (b_cons b_nm b_nil)))) (fun s9 x8 e10 k11 => (s_frzN (i := 3) (ct := (cL .s cI)) k11 rfl fun e12 k13 => (s_last (s_seq (s_for (xs := x8.2) (s0 := s9) (Pl := fun (s15 : ((List Int))) => [some ((cL .s (cL .s cI)) rows), some ((cL .o cI) s15), some (cI x8.1), some ((cL .s cI) x8.2), none]) (Px := fun (s15 : ((List Int))) (x14 : Int) => [some ((cL .s (cL .s cI)) rows), some ((cL .o cI) s15), some (cI x8.1), some ((cL .s cI) x8.2), some (cI x14)]) (w_L (e_pureC (e_var (i := 3) (d := (cL .s cI) x8.2) k13 rfl))) (k13.le (le_some (le_some (le_some (le_some (le_none le_nil)))))) (fun s15 x14 => b_nm) (fun s15 x14 e16 k17 => (s_last (s_put (e_pure (e_var (i := 2) (d := cI x8.1) k17 rfl)) (pl_name (i := 1) k17 rfl) (e_var (i := 4) k17 rfl) k17 fun told e19 k20 => (s_skip (k20.le (le_some (le_some (le_some (le_some (le_none le_nil)))))) (Or.inl rfl)))))) fun s21 e22 k23 => (s_skip (k23.le (le_some (le_some (le_none (le_none (le_none le_nil)))))) (Or.inl rfl))))))) fun s24 e25 k26 => (s_retM (i := 1) k26 rfl (fun em hm => (hm.any rfl)) rfl))))) _ (Mt.start (ds := [(cL .s (cL .s cI)) rows]) (n := 5)))
theorem ty__law_begun_0 (row : (List Int)) (end_ : Int) : ∀ rz, Td.l_begun_2 row end_ = some rz → ff__law_begun [(cL .s cI) row, cI end_] = some ((cL .o cI) rz) :=
  run_p (c := (cL .o cI)) (Q := fun _ => List.replicate 3 none) ((show ∀ e0 : Ow.Env, Mt [some ((cL .s cI) row), some (cI end_), none] e0 → ES bb__law_begun e0 (Td.l_begun_2 row end_) (fnK (cL .o cI)) (fun _ => List.replicate 3 none) from fun e0 h0 => by delta bb__law_begun Td.l_begun_2; exact (s_setV (i := 2) (v_index (e_var (i := 0) h0 rfl) (e_var (i := 1) h0 rfl)) h0 fun at_ e1 k2 => (s_retO (v_cat (e_sl (e_var (i := 0) k2 rfl) (e_oYes (e_var (i := 2) k2 rfl)) e_oNo) (e_sl (e_var (i := 0) k2 rfl) e_oNo (e_oYes (e_var (i := 2) k2 rfl)))) (fun v4 => (k2.any rfl)) (fun v4 => rfl)))) _ (Mt.start (ds := [(cL .s cI) row, cI end_]) (n := 3)))
theorem ty__law_cut_0 (rows : (List (List Int))) (turn : (List Int)) : ∀ rz, Td.l_cut_2 rows turn = some rz → ff__law_cut [(cL .s (cL .s cI)) rows, (cL .s cI) turn] = some ((cL .o (cL .o cI)) rz) :=
  run_p (c := (cL .o (cL .o cI))) (Q := fun _ => List.replicate 11 none) ((show ∀ e0 : Ow.Env, Mt [some ((cL .s (cL .s cI)) rows), some ((cL .s cI) turn), none, none, none, none, none, none, none, none, none] e0 → ES bb__law_cut e0 (Td.l_cut_2 rows turn) (fnK (cL .o (cL .o cI))) (fun _ => List.replicate 11 none) from fun e0 h0 => by delta bb__law_cut Td.l_cut_2; exact (ES.hoist (v_lcm (Px := fun (x3 : (List Int)) => [some ((cL .s (cL .s cI)) rows), some ((cL .s cI) turn), none, none, none, none, none, none, none, none, some ((cL .s cI) x3)]) (w_L (e_var (i := 0) h0 rfl)) h0 (fun x3 => b_nm) fun x3 e4 k5 => (e_len (e_var (i := 10) k5 rfl))) fun ys6 hys6 => (s_let (i := 2) (ct := cI) (e_sum hys6) h0 fun many e1 k2 => (s_setV (i := 3) (v_fn (c := (cL .o cI)) (e_cons (e_var (i := 0) k2 rfl) e_nil) (fun r9 q10 => (congrArg ff__law_seats (fz_cons fz_nil)).trans (ty__law_seats_0 rows r9 q10))) k2 fun seats e7 k8 => (s_setV (i := 4) (v_lcm (Px := fun (x14 : (List Int)) => [some ((cL .s (cL .s cI)) rows), some ((cL .s cI) turn), some (cI many), some ((cL .o cI) seats), none, none, none, none, none, none, some ((cL .s cI) x14)]) (w_L (e_var (i := 0) k8 rfl)) k8 (fun x14 => b_nm) fun x14 e15 k16 => (e_list (e_var (i := 10) k16 rfl))) k8 fun told e12 k13 => (s_seq (s_for (xs := (enu 0 turn)) (s0 := told) (Pl := fun (s19 : ((List (List Int)))) => [some ((cL .s (cL .s cI)) rows), some ((cL .s cI) turn), some (cI many), some ((cL .o cI) seats), some ((cL .o (cL .o cI)) s19), none, none, none, none, none, none]) (Px := fun (s19 : ((List (List Int)))) (x18 : (Int × Int)) => [some ((cL .s (cL .s cI)) rows), some ((cL .s cI) turn), some (cI many), some ((cL .o cI) seats), some ((cL .o (cL .o cI)) s19), some (cI x18.1), some (cI x18.2), none, none, none, none]) (w_E (e_pureC (e_var (i := 1) k13 rfl))) (k13.le (le_some (le_some (le_some (le_some (le_some (le_none (le_none (le_none (le_none (le_none (le_none le_nil)))))))))))) (fun s19 x18 => (b_tp (b_cons b_nm (b_cons b_nm b_nil)))) (fun s19 x18 e20 k21 => (ES.hoist (v_item (e_var (i := 3) k21 rfl) (e_var (i := 6) (d := cI x18.2) k21 rfl)) fun v24 hv24 => (ES.hoist (v_item (e_var (i := 0) k21 rfl) hv24) fun v25 hv25 => (ES.hoist (v_item (e_var (i := 1) k21 rfl) (e_sub (e_var (i := 5) (d := cI x18.1) k21 rfl) (e_cI 1))) fun v26 hv26 => (ES.hoist (v_fn (c := cI) (e_cons hv26 e_nil) (fun r27 q28 => (congrArg ff__law_mate (fz_cons fz_nil)).trans (ty__law_mate_0 v26 r27 q28))) fun r29 hr29 => (s_setV (i := 7) (v_fn (c := (cL .o cI)) (e_cons hv25 (e_cons hr29 e_nil)) (fun r30 q31 => (congrArg ff__law_begun (fz_cons (fz_cons fz_nil))).trans (ty__law_begun_0 v25 r29 r30 q31))) k21 fun ring e22 k23 => (s_setV (i := 8) (v_index (e_var (i := 7) k23 rfl) (e_var (i := 6) (d := cI x18.2) k23 rfl)) k23 fun last e33 k34 => (ES.hoist (v_fn (c := (cL .o cI)) (e_cons (e_sl (e_var (i := 7) k34 rfl) e_oNo (e_oYes (e_add (e_var (i := 8) k34 rfl) (e_cI 1)))) e_nil) (fun r36 q37 => (congrArg ff__law_least (fz_cons fz_nil)).trans (ty__law_least_0 (sl ring none (some (last + 1))) r36 q37))) fun r38 hr38 => (ES.hoist (v_item (e_var (i := 3) k34 rfl) (e_var (i := 6) (d := cI x18.2) k34 rfl)) fun v39 hv39 => (s_put hr38 (pl_name (i := 4) k34 rfl) hv39 k34 fun told e41 k42 => (ES.hoist (v_mod (e_sub (e_var (i := 5) (d := cI x18.1) k42 rfl) (e_cI 1)) (e_len (e_var (i := 1) k42 rfl))) fun v45 hv45 => (ES.hoist (v_mul (e_cI 2) hv45) fun v46 hv46 => (s_let (i := 9) (ct := cI) (e_add (e_add (e_var (i := 2) k42 rfl) hv46) (e_cI 1)) k42 fun copy e43 k44 => (s_last (ES.hoist (v_mul (e_cI 2) (e_var (i := 5) (d := cI x18.1) k44 rfl)) fun v47 hv47 => (ES.hoist (v_cat (show _ = some ((cL .o cI) [many + v47]) from e_mk (e_cons (e_add (e_var (i := 2) k44 rfl) hv47) e_nil)) (e_sl (e_var (i := 7) k44 rfl) (e_oYes (e_add (e_var (i := 8) k44 rfl) (e_cI 1))) e_oNo)) fun v48 hv48 => (ES.hoist (v_cat hv48 (show _ = some ((cL .o cI) [copy]) from e_mk (e_cons (e_pure (e_var (i := 9) k44 rfl)) e_nil))) fun v49 hv49 => (ES.hoist (v_fn (c := (cL .o cI)) (e_cons hv49 e_nil) (fun r50 q51 => (congrArg ff__law_least (fz_cons fz_nil)).trans (ty__law_least_0 v49 r50 q51))) fun r52 hr52 => (s_app (pl_name (i := 4) k44 rfl) hr52 k44 fun told e54 k55 => (s_skip (k55.le (le_some (le_some (le_some (le_some (le_some (le_none (le_none (le_none (le_none (le_none (le_none le_nil)))))))))))) (Or.inl rfl)))))))))))))))))))))) fun s56 e57 k58 => (s_retM (i := 4) k58 rfl (fun em hm => (hm.any rfl)) rfl))))))) _ (Mt.start (ds := [(cL .s (cL .s cI)) rows, (cL .s cI) turn]) (n := 11)))
theorem ty_count_ends_0 (rows : (List (List Int))) : ∀ rz, Td.p_count_ends rows = some rz → ff_count_ends [(cL .s (cL .s cI)) rows] = some (cI rz) :=
  run_p (c := cI) (Q := fun _ => List.replicate 2 none) ((show ∀ e0 : Ow.Env, Mt [some ((cL .s (cL .s cI)) rows), none] e0 → ES bb_count_ends e0 (Td.p_count_ends rows) (fnK cI) (fun _ => List.replicate 2 none) from fun e0 h0 => by delta bb_count_ends Td.p_count_ends; exact (ES.hoist (v_lcm (Px := fun (x1 : (List Int)) => [some ((cL .s (cL .s cI)) rows), some ((cL .s cI) x1)]) (w_L (e_var (i := 0) h0 rfl)) h0 (fun x1 => b_nm) fun x1 e2 k3 => (e_len (e_var (i := 1) k3 rfl))) fun ys4 hys4 => (s_ret (e_sum hys4) (h0.any rfl) rfl))) _ (Mt.start (ds := [(cL .s (cL .s cI)) rows]) (n := 2)))
theorem ty_homes_of_0 (drawing : (List (List Int))) : ∀ rz, Td.p_homes_of drawing = some rz → ff_homes_of [(cL .s (cL .s cI)) drawing] = some ((cL .o cI) rz) :=
  run_p (c := (cL .o cI)) (Q := fun _ => List.replicate 5 none) ((show ∀ e0 : Ow.Env, Mt [some ((cL .s (cL .s cI)) drawing), none, none, none, none] e0 → ES bb_homes_of e0 (Td.p_homes_of drawing) (fnK (cL .o cI)) (fun _ => List.replicate 5 none) from fun e0 h0 => by delta bb_homes_of Td.p_homes_of; exact (ES.hoist (v_fn (c := cI) (e_cons (e_var (i := 0) h0 rfl) e_nil) (fun r3 q4 => (congrArg ff_count_ends (fz_cons fz_nil)).trans (ty_count_ends_0 drawing r3 q4))) fun r5 hr5 => (s_setV (i := 1) (v_rep (show _ = some ((cL .o cI) [0]) from e_mk (e_cons (e_cI 0) e_nil)) hr5) h0 fun homes e1 k2 => (s_seq (s_for (xs := (enu 0 drawing)) (s0 := homes) (Pl := fun (s8 : ((List Int))) => [some ((cL .s (cL .s cI)) drawing), some ((cL .o cI) s8), none, none, none]) (Px := fun (s8 : ((List Int))) (x7 : (Int × (List Int))) => [some ((cL .s (cL .s cI)) drawing), some ((cL .o cI) s8), some (cI x7.1), some ((cL .s cI) x7.2), none]) (w_E (e_pureC (e_var (i := 0) k2 rfl))) (k2.le (le_some (le_some (le_none (le_none (le_none le_nil)))))) (fun s8 x7 => (b_tp (b_cons b_nm (b_cons b_nm b_nil)))) (fun s8 x7 e9 k10 => (s_frzN (i := 3) (ct := (cL .s cI)) k10 rfl fun e11 k12 => (s_last (s_seq (s_for (xs := x7.2) (s0 := s8) (Pl := fun (s14 : ((List Int))) => [some ((cL .s (cL .s cI)) drawing), some ((cL .o cI) s14), some (cI x7.1), some ((cL .s cI) x7.2), none]) (Px := fun (s14 : ((List Int))) (x13 : Int) => [some ((cL .s (cL .s cI)) drawing), some ((cL .o cI) s14), some (cI x7.1), some ((cL .s cI) x7.2), some (cI x13)]) (w_L (e_pureC (e_var (i := 3) (d := (cL .s cI) x7.2) k12 rfl))) (k12.le (le_some (le_some (le_some (le_some (le_none le_nil)))))) (fun s14 x13 => b_nm) (fun s14 x13 e15 k16 => (s_last (s_put (e_pure (e_var (i := 2) (d := cI x7.1) k16 rfl)) (pl_name (i := 1) k16 rfl) (e_var (i := 4) k16 rfl) k16 fun homes e18 k19 => (s_skip (k19.le (le_some (le_some (le_some (le_some (le_none le_nil)))))) (Or.inl rfl)))))) fun s20 e21 k22 => (s_skip (k22.le (le_some (le_some (le_none (le_none (le_none le_nil)))))) (Or.inl rfl))))))) fun s23 e24 k25 => (s_retM (i := 1) k25 rfl (fun em hm => (hm.any rfl)) rfl))))) _ (Mt.start (ds := [(cL .s (cL .s cI)) drawing]) (n := 5)))
theorem ty_mate_of_0 (end_ : Int) : ∀ rz, Td.p_mate_of end_ = some rz → ff_mate_of [cI end_] = some (cI rz) :=
  run_p (c := cI) (Q := fun _ => List.replicate 1 none) ((show ∀ e0 : Ow.Env, Mt [some (cI end_)] e0 → ES bb_mate_of e0 (Td.p_mate_of end_) (fnK cI) (fun _ => List.replicate 1 none) from fun e0 h0 => by delta bb_mate_of Td.p_mate_of; exact (s_ret (e_xorT (e_var (i := 0) h0 rfl) (e_cI 1)) (h0.any rfl) rfl)) _ (Mt.start (ds := [cI end_]) (n := 1)))
theorem ty_is_walk_0 (drawing : (List (List Int))) (ends : (List Int)) : ∀ rz, Td.p_is_walk drawing ends = some rz → ff_is_walk [(cL .s (cL .s cI)) drawing, (cL .s cI) ends] = some (cB rz) :=
  run_p (c := cB) (Q := fun _ => List.replicate 5 none) ((show ∀ e0 : Ow.Env, Mt [some ((cL .s (cL .s cI)) drawing), some ((cL .s cI) ends), none, none, none] e0 → ES bb_is_walk e0 (Td.p_is_walk drawing ends) (fnK cB) (fun _ => List.replicate 5 none) from fun e0 h0 => by delta bb_is_walk Td.p_is_walk; exact (s_setV (i := 2) (v_fn (c := (cL .o cI)) (e_cons (e_var (i := 0) h0 rfl) e_nil) (fun r3 q4 => (congrArg ff_homes_of (fz_cons fz_nil)).trans (ty_homes_of_0 drawing r3 q4))) h0 fun homes e1 k2 => (s_aft (w := fun (r_ : Bool) => r_) (s_forR (xs := ends) (s0 := ()) (cr := cB) (Pr := (fun _ => List.replicate 5 none)) (Pl := fun (s7 : Unit) => [some ((cL .s (cL .s cI)) drawing), some ((cL .s cI) ends), some ((cL .o cI) homes), none, none]) (Px := fun (s7 : Unit) (x6 : Int) => [some ((cL .s (cL .s cI)) drawing), some ((cL .s cI) ends), some ((cL .o cI) homes), some (cI x6), none]) (w_L (e_pureC (e_var (i := 1) k2 rfl))) (k2.le (le_some (le_some (le_some (le_none (le_none le_nil)))))) (fun s7 x6 => b_nm) (fun s7 x6 e8 k9 => (s_last (s_ifx (e_or (e_B (e_lt (e_var (i := 3) k9 rfl) (e_cI 0))) (e_B (e_ge (e_var (i := 3) k9 rfl) (e_len (e_var (i := 2) k9 rfl))))) (fun _ => (s_ret (e_cB false) (k9.any rfl) ⟨rfl, fun z => nomatch z⟩)) (fun _ => (s_sk (s_skip (Q := _) (k9.le (le_some (le_some (le_some (le_none (le_none le_nil)))))) (Or.inl rfl)))))))) (fun s10 e11 k12 => (ES.hoist (v_lcp (Px := fun (x13 : (Int × Int)) => [some ((cL .s (cL .s cI)) drawing), some ((cL .s cI) ends), some ((cL .o cI) homes), some (cI x13.2), some (cI x13.1)]) (w_E (e_var (i := 1) k12 rfl)) k12 (fun x13 => (b_tp (b_cons b_nm (b_cons b_nm b_nil)))) (fun x13 e14 k15 => vb_yes) fun x13 e14 k15 => (EV.hoist (v_item (e_var (i := 1) k15 rfl) (e_sub (e_var (i := 4) (d := cI x13.1) k15 rfl) (e_cI 1))) fun v16 hv16 => (EV.hoist (v_fn (c := cI) (e_cons hv16 e_nil) (fun r17 q18 => (congrArg ff_mate_of (fz_cons fz_nil)).trans (ty_mate_of_0 v16 r17 q18))) fun r19 hr19 => (EV.hoist (v_item (e_var (i := 2) k15 rfl) hr19) fun v20 hv20 => (EV.hoist (v_item (e_var (i := 2) k15 rfl) (e_var (i := 3) (d := cI x13.2) k15 rfl)) fun v21 hv21 => (EV.tot (e_eq hv20 hv21))))))) fun ys22 hys22 => (s_ret (e_all hys22) (k12.any rfl) rfl))) (fun r_ _ hr => hr) (fun r_ => rfl)))) _ (Mt.start (ds := [(cL .s (cL .s cI)) drawing, (cL .s cI) ends]) (n := 5)))
theorem ty_is_round_0 (drawing : (List (List Int))) (ends : (List Int)) : ∀ rz, Td.p_is_round drawing ends = some rz → ff_is_round [(cL .s (cL .s cI)) drawing, (cL .s cI) ends] = some (cB rz) :=
  run_p (c := cB) (Q := fun _ => List.replicate 6 none) ((show ∀ e0 : Ow.Env, Mt [some ((cL .s (cL .s cI)) drawing), some ((cL .s cI) ends), none, none, none, none] e0 → ES bb_is_round e0 (Td.p_is_round drawing ends) (fnK cB) (fun _ => List.replicate 6 none) from fun e0 h0 => by delta bb_is_round Td.p_is_round; exact (ES.hoistB (v_or (e_not (e_truL (e_var (i := 1) h0 rfl))) fun _ => (EVB.hoist (v_fn (c := cB) (e_cons (e_var (i := 0) h0 rfl) (e_cons (e_var (i := 1) h0 rfl) e_nil)) (fun r1 q2 => (congrArg ff_is_walk (fz_cons (fz_cons fz_nil))).trans (ty_is_walk_0 drawing ends r1 q2))) fun r3 hr3 => (vb_p (e_not (e_truB hr3))))) fun b4 hb4 => (s_ifx (e_dec hb4) (fun _ => (s_ret (e_cB false) (h0.any rfl) ⟨rfl, fun z => nomatch z⟩)) (fun _ => (s_sk (s_setV (i := 2) (v_fn (c := (cL .o cI)) (e_cons (e_var (i := 0) h0 rfl) e_nil) (fun r7 q8 => (congrArg ff_homes_of (fz_cons fz_nil)).trans (ty_homes_of_0 drawing r7 q8))) h0 fun homes e5 k6 => (s_setV (i := 3) (v_dc (ck := ckI) (cv := cvB) (dx := cI) (Px := fun (x12 : Int) => [some ((cL .s (cL .s cI)) drawing), some ((cL .s cI) ends), some ((cL .o cI) homes), none, none, some (cI x12)]) (w_L (e_var (i := 1) k6 rfl)) k6 (fun x12 => b_nm) (fun x12 e13 k14 => vb_yes) (fun _ => rfl) fun x12 e13 r16 k14 q17 => by obtain ⟨v15, zhv15, q17⟩ := bsome q17; have hv15 := (v_item (e_var (i := 2) k14 rfl) (e_var (i := 5) k14 rfl)) v15 zhv15; cases q17; exact ⟨hv15, (e_cB true)⟩) k6 fun places e10 k11 => (s_setV (i := 4) (v_dc (ck := ckI) (cv := cvB) (dx := cI) (Px := fun (x21 : Int) => [some ((cL .s (cL .s cI)) drawing), some ((cL .s cI) ends), some ((cL .o cI) homes), some ((cD .o ckI cvB) places), none, some (cI x21)]) (w_L (e_var (i := 1) k11 rfl)) k11 (fun x21 => b_nm) (fun x21 e22 k23 => vb_yes) (fun _ => rfl) fun x21 e22 r24 k23 q25 => by cases q25; exact ⟨(e_divC (e_var (i := 5) k23 rfl) (e_cI 2)), (e_cB true)⟩) k11 fun ties e19 k20 => (s_ret (e_andV (e_eq (e_lenD (ck := ckI) (cv := cvB) (e_var (i := 3) k20 rfl) rfl) (e_len (e_var (i := 1) k20 rfl))) (e_eq (e_lenD (ck := ckI) (cv := cvB) (e_var (i := 4) k20 rfl) rfl) (e_len (e_var (i := 1) k20 rfl)))) (k20.any rfl) rfl))))))))) _ (Mt.start (ds := [(cL .s (cL .s cI)) drawing, (cL .s cI) ends]) (n := 6)))
theorem ty_check_round_0 (drawing : (List (List Int))) (ends : (List Int)) : ∀ rz, Td.p_check_round drawing ends = some rz → ff_check_round [(cL .s (cL .s cI)) drawing, (cL .s cI) ends] = some (cU rz) :=
  run_p (c := cU) (Q := fun _ => List.replicate 2 none) ((show ∀ e0 : Ow.Env, Mt [some ((cL .s (cL .s cI)) drawing), some ((cL .s cI) ends)] e0 → ES bb_check_round e0 (Td.p_check_round drawing ends) (fnK cU) (fun _ => List.replicate 2 none) from fun e0 h0 => by delta bb_check_round Td.p_check_round; exact (s_last (ES.hoist (v_fn (c := cB) (e_cons (e_var (i := 0) h0 rfl) (e_cons (e_var (i := 1) h0 rfl) e_nil)) (fun r1 q2 => (congrArg ff_is_round (fz_cons (fz_cons fz_nil))).trans (ty_is_round_0 drawing ends r1 q2))) fun r3 hr3 => (s_ifx (e_not (e_truB hr3)) (fun _ => s_none) (fun _ => (s_sk (s_skip (h0.any rfl) rfl))))))) _ (Mt.start (ds := [(cL .s (cL .s cI)) drawing, (cL .s cI) ends]) (n := 2)))
theorem ty_behind_of_0 (drawing : (List (List Int))) : ∀ rz, Td.p_behind_of drawing = some rz → ff_behind_of [(cL .s (cL .s cI)) drawing] = some ((cL .o cI) rz) :=
  run_p (c := (cL .o cI)) (Q := fun _ => List.replicate 5 none) ((show ∀ e0 : Ow.Env, Mt [some ((cL .s (cL .s cI)) drawing), none, none, none, none] e0 → ES bb_behind_of e0 (Td.p_behind_of drawing) (fnK (cL .o cI)) (fun _ => List.replicate 5 none) from fun e0 h0 => by delta bb_behind_of Td.p_behind_of; exact (ES.hoist (v_fn (c := cI) (e_cons (e_var (i := 0) h0 rfl) e_nil) (fun r3 q4 => (congrArg ff_count_ends (fz_cons fz_nil)).trans (ty_count_ends_0 drawing r3 q4))) fun r5 hr5 => (s_setV (i := 1) (v_rep (show _ = some ((cL .o cI) [0]) from e_mk (e_cons (e_cI 0) e_nil)) hr5) h0 fun behind e1 k2 => (s_seq (s_for (xs := drawing) (s0 := behind) (Pl := fun (s8 : ((List Int))) => [some ((cL .s (cL .s cI)) drawing), some ((cL .o cI) s8), none, none, none]) (Px := fun (s8 : ((List Int))) (x7 : (List Int)) => [some ((cL .s (cL .s cI)) drawing), some ((cL .o cI) s8), some ((cL .s cI) x7), none, none]) (w_L (e_pureC (e_var (i := 0) k2 rfl))) (k2.le (le_some (le_some (le_none (le_none (le_none le_nil)))))) (fun s8 x7 => b_nm) (fun s8 x7 e9 k10 => (s_last (s_seq (s_for (xs := (enu 0 x7)) (s0 := s8) (Pl := fun (s12 : ((List Int))) => [some ((cL .s (cL .s cI)) drawing), some ((cL .o cI) s12), some ((cL .s cI) x7), none, none]) (Px := fun (s12 : ((List Int))) (x11 : (Int × Int)) => [some ((cL .s (cL .s cI)) drawing), some ((cL .o cI) s12), some ((cL .s cI) x7), some (cI x11.1), some (cI x11.2)]) (w_E (e_pureC (e_var (i := 2) k10 rfl))) (k10.le (le_some (le_some (le_some (le_none (le_none le_nil)))))) (fun s12 x11 => (b_tp (b_cons b_nm (b_cons b_nm b_nil)))) (fun s12 x11 e13 k14 => (s_last (ES.hoist (v_item (e_var (i := 2) k14 rfl) (e_sub (e_var (i := 3) (d := cI x11.1) k14 rfl) (e_cI 1))) fun v15 hv15 => (s_put (e_pure (e_var (i := 4) (d := cI x11.2) k14 rfl)) (pl_name (i := 1) k14 rfl) hv15 k14 fun behind e17 k18 => (s_skip (k18.le (le_some (le_some (le_some (le_none (le_none le_nil)))))) (Or.inl rfl))))))) fun s19 e20 k21 => (s_skip (k21.le (le_some (le_some (le_none (le_none (le_none le_nil)))))) (Or.inl rfl)))))) fun s22 e23 k24 => (s_retM (i := 1) k24 rfl (fun em hm => (hm.any rfl)) rfl))))) _ (Mt.start (ds := [(cL .s (cL .s cI)) drawing]) (n := 5)))
theorem ty_visits_of_0 (walk_ : (List Int)) : ∀ rz, Td.p_visits_of walk_ = some rz → ff_visits_of [(cL .s cI) walk_] = some ((cL .o (cT (Ow.k2 cI (Ow.k1 cI)))) rz) :=
  run_p (c := (cL .o (cT (Ow.k2 cI (Ow.k1 cI))))) (Q := fun _ => List.replicate 3 none) ((show ∀ e0 : Ow.Env, Mt [some ((cL .s cI) walk_), none, none] e0 → ES bb_visits_of e0 (Td.p_visits_of walk_) (fnK (cL .o (cT (Ow.k2 cI (Ow.k1 cI))))) (fun _ => List.replicate 3 none) from fun e0 h0 => by delta bb_visits_of Td.p_visits_of; exact (s_retO (v_lcp (Px := fun (x1 : (Int × Int)) => [some ((cL .s cI) walk_), some (cI x1.1), some (cI x1.2)]) (w_E (e_var (i := 0) h0 rfl)) h0 (fun x1 => (b_tp (b_cons b_nm (b_cons b_nm b_nil)))) (fun x1 e2 k3 => vb_yes) fun x1 e2 k3 => (EV.hoist (v_item (e_var (i := 0) k3 rfl) (e_sub (e_var (i := 1) (d := cI x1.1) k3 rfl) (e_cI 1))) fun v4 hv4 => (EV.hoist (v_fn (c := cI) (e_cons hv4 e_nil) (fun r5 q6 => (congrArg ff_mate_of (fz_cons fz_nil)).trans (ty_mate_of_0 v4 r5 q6))) fun r7 hr7 => (EV.tot (show _ = some ((cT (Ow.k2 cI (Ow.k1 cI))) (r7, x1.2)) from e_mk (e_cons hr7 (e_cons (e_pure (e_var (i := 2) (d := cI x1.2) k3 rfl)) e_nil))))))) (fun ys8 => (h0.any rfl)) (fun ys8 => rfl))) _ (Mt.start (ds := [(cL .s cI) walk_]) (n := 3)))
theorem ty_between_0 (behind : (List Int)) (one : Int) (other : Int) : ∀ rz, Td.p_between behind one other = some rz → ff_between [(cL .s cI) behind, cI one, cI other] = some ((cL .o cI) rz) :=
  run_p (c := (cL .o cI)) (Q := fun _ => List.replicate 5 none) ((show ∀ e0 : Ow.Env, Mt [some ((cL .s cI) behind), some (cI one), some (cI other), none, none] e0 → ES bb_between e0 (Td.p_between behind one other) (fnK (cL .o cI)) (fun _ => List.replicate 5 none) from fun e0 h0 => by delta bb_between Td.p_between; exact (s_let (i := 3) (ct := (cL .o cI)) (show _ = some ((cL .o cI) ([] : (List Int))) from e_mk e_nil) h0 fun found e1 k2 => (s_setV (i := 4) (v_pure (v_item (e_var (i := 0) k2 rfl) (e_var (i := 1) k2 rfl))) k2 fun end_ e3 k4 => (s_seq (s_wh (s0 := (found, end_)) (Pl := fun (s6 : ((List Int) × Int)) => [some ((cL .s cI) behind), some (cI one), some (cI other), some ((cL .o cI) s6.1), some (cI s6.2)]) (k4.le (le_some (le_some (le_some (le_some (le_some le_nil)))))) (fun s6 e7 k8 => (vb_p (e_B (e_ne (e_var (i := 4) (d := cI s6.2) k8 rfl) (e_var (i := 2) k8 rfl))))) (fun s6 e7 k8 => (s_app (pl_name (i := 3) k8 rfl) (e_pure (e_var (i := 4) (d := cI s6.2) k8 rfl)) k8 fun found e10 k11 => (s_last (s_setV (i := 4) (v_pure (v_item (e_var (i := 0) k11 rfl) (e_var (i := 4) (d := cI s6.2) k11 rfl))) k11 fun end_ e12 k13 => (s_skip (k13.le (le_some (le_some (le_some (le_some (le_some le_nil)))))) (Or.inl rfl))))))) fun s15 e16 k17 => (s_retM (i := 3) k17 rfl (fun em hm => (hm.any rfl)) rfl))))) _ (Mt.start (ds := [(cL .s cI) behind, cI one, cI other]) (n := 5)))
theorem ty_begun_least_0 (row : (List Int)) : ∀ rz, Td.p_begun_least row = some rz → ff_begun_least [(cL .s cI) row] = some ((cL .o cI) rz) :=
  run_p (c := (cL .o cI)) (Q := fun _ => List.replicate 2 none) ((show ∀ e0 : Ow.Env, Mt [some ((cL .s cI) row), none] e0 → ES bb_begun_least e0 (Td.p_begun_least row) (fnK (cL .o cI)) (fun _ => List.replicate 2 none) from fun e0 h0 => by delta bb_begun_least Td.p_begun_least; exact (s_ifx (e_not (e_truL (e_var (i := 0) h0 rfl))) (fun _ => (s_ret (show _ = some ((cL .o cI) ([] : (List Int))) from e_mk e_nil) (h0.any rfl) ⟨rfl, fun z => nomatch z⟩)) (fun _ => (s_sk (ES.hoist (v_min (e_var (i := 0) h0 rfl)) fun v3 hv3 => (s_setV (i := 1) (v_index (e_var (i := 0) h0 rfl) hv3) h0 fun at_ e1 k2 => (s_retO (v_cat (e_sl (e_var (i := 0) k2 rfl) (e_oYes (e_var (i := 1) k2 rfl)) e_oNo) (e_sl (e_var (i := 0) k2 rfl) e_oNo (e_oYes (e_var (i := 1) k2 rfl)))) (fun v5 => (k2.any rfl)) (fun v5 => rfl)))))))) _ (Mt.start (ds := [(cL .s cI) row]) (n := 2)))
theorem ty_cut_along_0 (drawing : (List (List Int))) (turn : (List Int)) : ∀ rz, Td.p_cut_along drawing turn = some rz → ff_cut_along [(cL .s (cL .s cI)) drawing, (cL .s cI) turn] = some ((cT (Ow.k2 (cL .o (cL .o cI)) (Ow.k2 (cL .o cI) (Ow.k1 (cL .o cI))))) rz) :=
  run_p (c := (cT (Ow.k2 (cL .o (cL .o cI)) (Ow.k2 (cL .o cI) (Ow.k1 (cL .o cI)))))) (Q := fun _ => List.replicate 10 none) ((show ∀ e0 : Ow.Env, Mt [some ((cL .s (cL .s cI)) drawing), some ((cL .s cI) turn), none, none, none, none, none, none, none, none] e0 → ES bb_cut_along e0 (Td.p_cut_along drawing turn) (fnK (cT (Ow.k2 (cL .o (cL .o cI)) (Ow.k2 (cL .o cI) (Ow.k1 (cL .o cI)))))) (fun _ => List.replicate 10 none) from fun e0 h0 => by delta bb_cut_along Td.p_cut_along; exact (ES.hoist (v_fn (c := cU) (e_cons (e_var (i := 0) h0 rfl) (e_cons (e_var (i := 1) h0 rfl) e_nil)) (fun r1 q2 => (congrArg ff_check_round (fz_cons (fz_cons fz_nil))).trans (ty_check_round_0 drawing turn r1 q2))) fun r3 hr3 => (s_dropP hr3 h0 fun e4 k5 => (s_setV (i := 2) (v_fn (c := (cL .o cI)) (e_cons (e_var (i := 0) k5 rfl) e_nil) (fun r8 q9 => (congrArg ff_homes_of (fz_cons fz_nil)).trans (ty_homes_of_0 drawing r8 q9))) k5 fun homes e6 k7 => (s_setV (i := 3) (v_fn (c := (cL .o cI)) (e_cons (e_var (i := 0) k7 rfl) e_nil) (fun r13 q14 => (congrArg ff_behind_of (fz_cons fz_nil)).trans (ty_behind_of_0 drawing r13 q14))) k7 fun behind e11 k12 => (ES.hoistL (w_R (rg_1 (e_len (e_var (i := 1) k12 rfl)))) fun xs18 hxs18 => (s_setV (i := 4) (v_lcp (Px := fun (x19 : Int) => [some ((cL .s (cL .s cI)) drawing), some ((cL .s cI) turn), some ((cL .o cI) homes), some ((cL .o cI) behind), none, none, some (cI x19), none, none, none]) hxs18 k12 (fun x19 => b_nm) (fun x19 e20 k21 => vb_yes) fun x19 e20 k21 => (EV.hoist (v_mul (e_cI 2) (e_var (i := 6) k21 rfl)) fun v22 hv22 => (EV.tot (e_add (e_len (e_var (i := 3) k21 rfl)) hv22)))) k12 fun edge e16 k17 => (s_setV (i := 5) (v_lcm (Px := fun (x26 : (List Int)) => [some ((cL .s (cL .s cI)) drawing), some ((cL .s cI) turn), some ((cL .o cI) homes), some ((cL .o cI) behind), some ((cL .o cI) edge), none, none, none, none, some ((cL .s cI) x26)]) (w_L (e_var (i := 0) k17 rfl)) k17 (fun x26 => b_nm) fun x26 e27 k28 => (e_list (e_var (i := 9) k28 rfl))) k17 fun rows e24 k25 => (ES.hoist (v_fn (c := (cL .o (cT (Ow.k2 cI (Ow.k1 cI))))) (e_cons (e_var (i := 1) k25 rfl) e_nil) (fun r30 q31 => (congrArg ff_visits_of (fz_cons fz_nil)).trans (ty_visits_of_0 turn r30 q31))) fun r32 hr32 => (s_seq (s_for (xs := (enu 0 r32)) (s0 := rows) (Pl := fun (s34 : ((List (List Int)))) => [some ((cL .s (cL .s cI)) drawing), some ((cL .s cI) turn), some ((cL .o cI) homes), some ((cL .o cI) behind), some ((cL .o cI) edge), some ((cL .o (cL .o cI)) s34), none, none, none, none]) (Px := fun (s34 : ((List (List Int)))) (x33 : (Int × (Int × Int))) => [some ((cL .s (cL .s cI)) drawing), some ((cL .s cI) turn), some ((cL .o cI) homes), some ((cL .o cI) behind), some ((cL .o cI) edge), some ((cL .o (cL .o cI)) s34), some (cI x33.1), some (cI x33.2.1), some (cI x33.2.2), none]) (w_E hr32) (k25.le (le_some (le_some (le_some (le_some (le_some (le_some (le_none (le_none (le_none (le_none le_nil))))))))))) (fun s34 x33 => (b_tp (b_cons b_nm (b_cons (b_tp (b_cons b_nm (b_cons b_nm b_nil))) b_nil)))) (fun s34 x33 e35 k36 => (ES.hoist (v_fn (c := (cL .o cI)) (e_cons (e_var (i := 3) k36 rfl) (e_cons (e_var (i := 7) (d := cI x33.2.1) k36 rfl) (e_cons (e_var (i := 8) (d := cI x33.2.2) k36 rfl) e_nil))) (fun r37 q38 => (congrArg ff_between (fz_cons (fz_cons (fz_cons fz_nil)))).trans (ty_between_0 behind x33.2.1 x33.2.2 r37 q38))) fun r39 hr39 => (ES.hoist (v_cat (show _ = some ((cL .o cI) [x33.2.1]) from e_mk (e_cons (e_pure (e_var (i := 7) (d := cI x33.2.1) k36 rfl)) e_nil)) hr39) fun v40 hv40 => (ES.hoist (v_cat hv40 (show _ = some ((cL .o cI) [x33.2.2]) from e_mk (e_cons (e_pure (e_var (i := 8) (d := cI x33.2.2) k36 rfl)) e_nil))) fun v41 hv41 => (ES.hoist (v_fn (c := (cL .o cI)) (e_cons hv41 e_nil) (fun r42 q43 => (congrArg ff_begun_least (fz_cons fz_nil)).trans (ty_begun_least_0 v41 r42 q43))) fun r44 hr44 => (ES.hoist (v_item (e_var (i := 2) k36 rfl) (e_var (i := 8) (d := cI x33.2.2) k36 rfl)) fun v45 hv45 => (s_put hr44 (pl_name (i := 5) k36 rfl) hv45 k36 fun rows e47 k48 => (s_last (ES.hoist (v_pure (v_item (e_var (i := 4) k48 rfl) (e_var (i := 6) (d := cI x33.1) k48 rfl))) fun v49 hv49 => (ES.hoist (v_fn (c := (cL .o cI)) (e_cons (e_var (i := 3) k48 rfl) (e_cons (e_var (i := 8) (d := cI x33.2.2) k48 rfl) (e_cons (e_var (i := 7) (d := cI x33.2.1) k48 rfl) e_nil))) (fun r50 q51 => (congrArg ff_between (fz_cons (fz_cons (fz_cons fz_nil)))).trans (ty_between_0 behind x33.2.2 x33.2.1 r50 q51))) fun r52 hr52 => (ES.hoist (v_cat (show _ = some ((cL .o cI) [v49]) from e_mk (e_cons hv49 e_nil)) hr52) fun v53 hv53 => (ES.hoist (v_item (e_var (i := 4) k48 rfl) (e_sub (e_var (i := 6) (d := cI x33.1) k48 rfl) (e_cI 1))) fun v54 hv54 => (ES.hoist (v_cat hv53 (show _ = some ((cL .o cI) [v54 + 1]) from e_mk (e_cons (e_add hv54 (e_cI 1)) e_nil))) fun v55 hv55 => (ES.hoist (v_fn (c := (cL .o cI)) (e_cons hv55 e_nil) (fun r56 q57 => (congrArg ff_begun_least (fz_cons fz_nil)).trans (ty_begun_least_0 v55 r56 q57))) fun r58 hr58 => (s_app (pl_name (i := 5) k48 rfl) hr58 k48 fun rows e60 k61 => (s_skip (k61.le (le_some (le_some (le_some (le_some (le_some (le_some (le_none (le_none (le_none (le_none le_nil))))))))))) (Or.inl rfl)))))))))))))))))) fun s62 e63 k64 => (s_retU (show EE _ _ _ (fun (_ : Unit) => ((cT (Ow.k2 (cL .o (cL .o cI)) (Ow.k2 (cL .o cI) (Ow.k1 (cL .o cI))))) (s62, turn, edge), _)) from ee_mk (ea_evT (t1_move (i := 5) k64 rfl) (fun e65 k66 => (ea_ev (e_list (e_var (i := 1) k66 rfl)) (ea_evT (t1_move (i := 4) k66 rfl) (fun e67 k68 => (ea_nil k68))))))) (fun e70 k69 => (k69.any rfl)) rfl))))))))))) _ (Mt.start (ds := [(cL .s (cL .s cI)) drawing, (cL .s cI) turn]) (n := 10)))
theorem ty__law_whole_0 (found : Int) : ∀ rz, Td.l_whole found = some rz → ff__law_whole [cI found] = some (cB rz) :=
  run_p (c := cB) (Q := fun _ => List.replicate 1 none) ((show ∀ e0 : Ow.Env, Mt [some (cI found)] e0 → ES bb__law_whole e0 (Td.l_whole found) (fnK cB) (fun _ => List.replicate 1 none) from fun e0 h0 => by delta bb__law_whole Td.l_whole; exact (s_ret (e_andV (show _ = some (cB (decide True)) from (e_isi (b := true) (e_var (i := 0) h0 rfl) (show isiD "int" (cI found) = some (.bl true) from isi_of (n := "int") rfl kit_int_int))) (e_notP (show _ = some (cB (decide False)) from (e_isi (b := false) (e_var (i := 0) h0 rfl) (show isiD "bool" (cI found) = some (.bl false) from isi_of (n := "int") rfl kit_int_bool))))) (h0.any rfl) rfl)) _ (Mt.start (ds := [cI found]) (n := 1)))
theorem ty__law_row_0 (found : (List Int)) (due : (List Int)) : ∀ rz, Td.l_row found due = some rz → ff__law_row [(cL .s cI) found, (cL .s cI) due] = some (cB rz) :=
  run_p (c := cB) (Q := fun _ => List.replicate 4 none) ((show ∀ e0 : Ow.Env, Mt [some ((cL .s cI) found), some ((cL .s cI) due), none, none] e0 → ES bb__law_row e0 (Td.l_row found due) (fnK cB) (fun _ => List.replicate 4 none) from fun e0 h0 => by delta bb__law_row Td.l_row; exact (s_ifx (e_or_f (show _ = some false from e_not (p := True) (e_B (e_isi (b := true) (e_var (i := 0) h0 rfl) (show isiD "list" ((cL .s cI) found) = some (.bl true) from isi_of (n := "list") rfl kit_list_list)))) (e_B (e_ne (e_len (e_var (i := 0) h0 rfl)) (e_len (e_var (i := 1) h0 rfl))))) (fun _ => (s_ret (e_cB false) (h0.any rfl) ⟨rfl, fun z => nomatch z⟩)) (fun _ => (s_sk (s_aft (w := fun (r_ : Bool) => r_) (s_forR (xs := (enu 0 due)) (s0 := ()) (cr := cB) (Pr := (fun _ => List.replicate 4 none)) (Pl := fun (s2 : Unit) => [some ((cL .s cI) found), some ((cL .s cI) due), none, none]) (Px := fun (s2 : Unit) (x1 : (Int × Int)) => [some ((cL .s cI) found), some ((cL .s cI) due), some (cI x1.1), some (cI x1.2)]) (w_E (e_pureC (e_var (i := 1) h0 rfl))) (h0.le (le_some (le_some (le_none (le_none le_nil))))) (fun s2 x1 => (b_tp (b_cons b_nm (b_cons b_nm b_nil)))) (fun s2 x1 e3 k4 => (s_last (ES.hoist (v_item (e_var (i := 0) k4 rfl) (e_var (i := 2) (d := cI x1.1) k4 rfl)) fun v5 hv5 => (ES.hoist (v_fn (c := cB) (e_cons hv5 e_nil) (fun r6 q7 => (congrArg ff__law_whole (fz_cons fz_nil)).trans (ty__law_whole_0 v5 r6 q7))) fun r8 hr8 => (ES.hoistB (v_or (e_not (e_truB hr8)) fun _ => (EVB.hoist (v_item (e_var (i := 0) k4 rfl) (e_var (i := 2) (d := cI x1.1) k4 rfl)) fun v9 hv9 => (vb_p (e_B (e_ne hv9 (e_var (i := 3) (d := cI x1.2) k4 rfl)))))) fun b10 hb10 => (s_ifx (e_dec hb10) (fun _ => (s_ret (e_cB false) (k4.any rfl) ⟨rfl, fun z => nomatch z⟩)) (fun _ => (s_sk (s_skip (Q := _) (k4.le (le_some (le_some (le_none (le_none le_nil))))) (Or.inl rfl))))))))))) (fun s11 e12 k13 => (s_ret (e_cB true) (k13.any rfl) rfl)) (fun r_ _ hr => hr) (fun r_ => rfl)))))) _ (Mt.start (ds := [(cL .s cI) found, (cL .s cI) due]) (n := 4)))
theorem ty__law_rows_0 (found : (List (List Int))) (due : (List (List Int))) : ∀ rz, Td.l_rows_2 found due = some rz → ff__law_rows [(cL .s (cL .s cI)) found, (cL .s (cL .s cI)) due] = some (cB rz) :=
  run_p (c := cB) (Q := fun _ => List.replicate 4 none) ((show ∀ e0 : Ow.Env, Mt [some ((cL .s (cL .s cI)) found), some ((cL .s (cL .s cI)) due), none, none] e0 → ES bb__law_rows e0 (Td.l_rows_2 found due) (fnK cB) (fun _ => List.replicate 4 none) from fun e0 h0 => by delta bb__law_rows Td.l_rows_2; exact (s_ifx (e_or_f (show _ = some false from e_not (p := True) (e_B (e_isi (b := true) (e_var (i := 0) h0 rfl) (show isiD "list" ((cL .s (cL .s cI)) found) = some (.bl true) from isi_of (n := "list") rfl kit_list_list)))) (e_B (e_ne (e_len (e_var (i := 0) h0 rfl)) (e_len (e_var (i := 1) h0 rfl))))) (fun _ => (s_ret (e_cB false) (h0.any rfl) ⟨rfl, fun z => nomatch z⟩)) (fun _ => (s_sk (s_aft (w := fun (r_ : Bool) => r_) (s_forR (xs := (enu 0 due)) (s0 := ()) (cr := cB) (Pr := (fun _ => List.replicate 4 none)) (Pl := fun (s2 : Unit) => [some ((cL .s (cL .s cI)) found), some ((cL .s (cL .s cI)) due), none, none]) (Px := fun (s2 : Unit) (x1 : (Int × (List Int))) => [some ((cL .s (cL .s cI)) found), some ((cL .s (cL .s cI)) due), some (cI x1.1), some ((cL .s cI) x1.2)]) (w_E (e_pureC (e_var (i := 1) h0 rfl))) (h0.le (le_some (le_some (le_none (le_none le_nil))))) (fun s2 x1 => (b_tp (b_cons b_nm (b_cons b_nm b_nil)))) (fun s2 x1 e3 k4 => (s_last (ES.hoist (v_item (e_var (i := 0) k4 rfl) (e_var (i := 2) (d := cI x1.1) k4 rfl)) fun v5 hv5 => (ES.hoist (v_fn (c := cB) (e_cons hv5 (e_cons (e_var (i := 3) (d := (cL .s cI) x1.2) k4 rfl) e_nil)) (fun r6 q7 => (congrArg ff__law_row (fz_cons (fz_cons fz_nil))).trans (ty__law_row_0 v5 x1.2 r6 q7))) fun r8 hr8 => (s_ifx (e_not (e_truB hr8)) (fun _ => (s_ret (e_cB false) (k4.any rfl) ⟨rfl, fun z => nomatch z⟩)) (fun _ => (s_sk (s_skip (Q := _) (k4.le (le_some (le_some (le_none (le_none le_nil))))) (Or.inl rfl)))))))))) (fun s9 e10 k11 => (s_ret (e_cB true) (k11.any rfl) rfl)) (fun r_ _ hr => hr) (fun r_ => rfl)))))) _ (Mt.start (ds := [(cL .s (cL .s cI)) found, (cL .s (cL .s cI)) due]) (n := 4)))
theorem ty__law_three_0 (told : ((List (List Int)) × (List Int) × (List Int))) (due : ((List (List Int)) × (List Int) × (List Int))) : ∀ rz, Td.l_three_2 told due = some rz → ff__law_three [(cT (Ow.k2 (cL .s (cL .s cI)) (Ow.k2 (cL .s cI) (Ow.k1 (cL .s cI))))) told, (cT (Ow.k2 (cL .s (cL .s cI)) (Ow.k2 (cL .s cI) (Ow.k1 (cL .s cI))))) due] = some (cB rz) :=
  run_p (c := cB) (Q := fun _ => List.replicate 2 none) ((show ∀ e0 : Ow.Env, Mt [some ((cT (Ow.k2 (cL .s (cL .s cI)) (Ow.k2 (cL .s cI) (Ow.k1 (cL .s cI))))) told), some ((cT (Ow.k2 (cL .s (cL .s cI)) (Ow.k2 (cL .s cI) (Ow.k1 (cL .s cI))))) due)] e0 → ES bb__law_three e0 (Td.l_three_2 told due) (fnK cB) (fun _ => List.replicate 2 none) from fun e0 h0 => by delta bb__law_three Td.l_three_2; exact (s_ifx (e_or_f (show _ = some false from e_not (p := True) (e_B (e_isi (b := true) (e_var (i := 0) h0 rfl) (show isiD "tuple" ((cT (Ow.k2 (cL .s (cL .s cI)) (Ow.k2 (cL .s cI) (Ow.k1 (cL .s cI))))) told) = some (.bl true) from isi_of (n := "tuple") rfl kit_tuple_tuple)))) (e_B (e_ne (e_lenT (n := 3) (e_var (i := 0) h0 rfl) rfl) (e_cI 3)))) (fun _ => (s_ret (e_cB false) (h0.any rfl) ⟨rfl, fun z => nomatch z⟩)) (fun _ => (s_sk (ES.hoist (v_fn (c := cB) (e_cons (e_itemT (d := (cL .s (cL .s cI)) told.1) (e_var (i := 0) h0 rfl) (e_cI 0) rfl) (e_cons (e_itemT (d := (cL .s (cL .s cI)) due.1) (e_var (i := 1) h0 rfl) (e_cI 0) rfl) e_nil)) (fun r1 q2 => (congrArg ff__law_rows (fz_cons (fz_cons fz_nil))).trans (ty__law_rows_0 told.1 due.1 r1 q2))) fun r3 hr3 => (s_ifx (e_not (e_truB hr3)) (fun _ => (s_ret (e_cB false) (h0.any rfl) ⟨rfl, fun z => nomatch z⟩)) (fun _ => (s_sk (ES.hoist (v_fn (c := cB) (e_cons (e_itemT (d := (cL .s cI) told.2.1) (e_var (i := 0) h0 rfl) (e_cI 1) rfl) (e_cons (e_itemT (d := (cL .s cI) due.2.1) (e_var (i := 1) h0 rfl) (e_cI 1) rfl) e_nil)) (fun r4 q5 => (congrArg ff__law_row (fz_cons (fz_cons fz_nil))).trans (ty__law_row_0 told.2.1 due.2.1 r4 q5))) fun r6 hr6 => (s_retO (v_andV (e_boolP hr6) fun _ => (EV.hoist (v_fn (c := cB) (e_cons (e_itemT (d := (cL .s cI) told.2.2) (e_var (i := 0) h0 rfl) (e_cI 2) rfl) (e_cons (e_itemT (d := (cL .s cI) due.2.2) (e_var (i := 1) h0 rfl) (e_cI 2) rfl) e_nil)) (fun r7 q8 => (congrArg ff__law_row (fz_cons (fz_cons fz_nil))).trans (ty__law_row_0 told.2.2 due.2.2 r7 q8))) fun r9 hr9 => (EV.tot (e_boolP hr9)))) (fun b10 => (h0.any rfl)) (fun b10 => rfl))))))))))) _ (Mt.start (ds := [(cT (Ow.k2 (cL .s (cL .s cI)) (Ow.k2 (cL .s cI) (Ow.k1 (cL .s cI))))) told, (cT (Ow.k2 (cL .s (cL .s cI)) (Ow.k2 (cL .s cI) (Ow.k1 (cL .s cI))))) due]) (n := 2)))
theorem ty_law_0 (script : (List Int)) : ∀ rz, Td.law_k42_2 script = some rz → ff_law [(cL .w cI) script] = some (cB rz) :=
  run_p (c := cB) (Q := fun _ => List.replicate 12 none) ((show ∀ e0 : Ow.Env, Mt [some ((cL .w cI) script), none, none, none, none, none, none, none, none, none, none, none] e0 → ES bb_law e0 (Td.law_k42_2 script) (fnK cB) (fun _ => List.replicate 12 none) from fun e0 h0 => by delta bb_law Td.law_k42_2; exact (s_let (i := 1) (ct := (cR .o (Ow.k2 (cL .o cI) (Ow.k2 cI (Ow.k2 cI (Ow.k1 cI)))))) (show _ = some ((cR .o (Ow.k2 (cL .o cI) (Ow.k2 cI (Ow.k2 cI (Ow.k1 cI))))) (script, 0, 0, 0)) from e_mk (e_cons (e_list (e_var (i := 0) h0 rfl)) (e_cons (e_cI 0) (e_cons (e_cI 0) (e_cons (e_cI 0) e_nil))))) h0 fun box e1 k2 => (s_setE (i := 2) (ee_opR (e_cI 1) (ee_call0 (dr := (fun (r5 : (Int × ((List Int) × Int × Int × Int))) => cI r5.1)) (Pf := fun (r5 : (Int × ((List Int) × Int × Int × Int))) => [some ((cL .w cI) script), some ((cR .o (Ow.k2 (cL .o cI) (Ow.k2 cI (Ow.k2 cI (Ow.k1 cI))))) r5.2), none, none, none, none, none, none, none, none, none, none]) k2 rfl (ea_mv (ea_ev (e_cI 6) (ea_nil k2))) rfl (fun r5 q6 => (congrArg ff__law_take (l_cons (rfl) (l_cons (rfl) l_nil))).trans (ty__law_take_0 box 6 r5 q6)) (fun _ => by simp [NoF.no, NoFK.no]) (fun _ => rfl)) (fun _ => rfl) (fun _ => rfl)) fun r5 e3 k4 => (s_seq (s_ifE (Q := fun (j17 : (((List Int) × Int × Int × Int) × Int)) => [some ((cL .w cI) script), some ((cR .o (Ow.k2 (cL .o cI) (Ow.k2 cI (Ow.k2 cI (Ow.k1 cI))))) j17.1), some (cI j17.2), none, none, none, none, none, none, none, none, none]) (Pa := fun (r7 : (Int × ((List Int) × Int × Int × Int))) => [some ((cL .w cI) script), some ((cR .o (Ow.k2 (cL .o cI) (Ow.k2 cI (Ow.k2 cI (Ow.k1 cI))))) r7.2), some (cI (1 + r5.1)), none, none, none, none, none, none, none, none, none]) (p := fun (r7 : (Int × ((List Int) × Int × Int × Int))) => r7.1 = 0) (et_B (b := fun (r7 : (Int × ((List Int) × Int × Int × Int))) => decide (r7.1 = 0)) (ee_opL (w := fun (r7 : (Int × ((List Int) × Int × Int × Int))) => .bl (decide (r7.1 = 0))) (ee_call0 (dr := (fun (r7 : (Int × ((List Int) × Int × Int × Int))) => cI r7.1)) (Pf := fun (r7 : (Int × ((List Int) × Int × Int × Int))) => [some ((cL .w cI) script), some ((cR .o (Ow.k2 (cL .o cI) (Ow.k2 cI (Ow.k2 cI (Ow.k1 cI))))) r7.2), some (cI (1 + r5.1)), none, none, none, none, none, none, none, none, none]) k4 rfl (ea_mv (ea_ev (e_cI 8) (ea_nil k4))) rfl (fun r7 q8 => (congrArg ff__law_take (l_cons (rfl) (l_cons (rfl) l_nil))).trans (ty__law_take_0 r5.2 8 r7 q8)) (fun _ => by simp [NoF.no, NoFK.no]) (fun _ => rfl)) (fun r7 e10 k9 => (e_cI 0)) (fun _ => eq_int _ _) (fun _ => rfl))) (fun r7 e12 k11 _ => (s_last (s_setE (i := 2) (ee_opR (e_pure (e_var (i := 2) (d := cI (1 + r5.1)) k11 rfl)) (ee_call0 (dr := (fun (r15 : (Int × ((List Int) × Int × Int × Int))) => cI r15.1)) (Pf := fun (r15 : (Int × ((List Int) × Int × Int × Int))) => [some ((cL .w cI) script), some ((cR .o (Ow.k2 (cL .o cI) (Ow.k2 cI (Ow.k2 cI (Ow.k1 cI))))) r15.2), some (cI (1 + r5.1)), none, none, none, none, none, none, none, none, none]) k11 rfl (ea_mv (ea_ev (e_cI 60) (ea_nil k11))) rfl (fun r15 q16 => (congrArg ff__law_take (l_cons (rfl) (l_cons (rfl) l_nil))).trans (ty__law_take_0 r7.2 60 r15 q16)) (fun _ => by simp [NoF.no, NoFK.no]) (fun _ => rfl)) (fun _ => rfl) (fun _ => rfl)) fun r15 e13 k14 => (s_skip (k14.le (le_some (le_some (le_some (le_none (le_none (le_none (le_none (le_none (le_none (le_none (le_none (le_none le_nil))))))))))))) rfl)))) (fun r7 e12 k11 _ => (s_skip (k11.le (le_some (le_some (le_some (le_none (le_none (le_none (le_none (le_none (le_none (le_none (le_none (le_none le_nil))))))))))))) rfl))) fun j17 e18 k19 => (s_setE (i := 3) (ee_call0 (dr := (fun (r22 : (Int × ((List Int) × Int × Int × Int))) => cI r22.1)) (Pf := fun (r22 : (Int × ((List Int) × Int × Int × Int))) => [some ((cL .w cI) script), some ((cR .o (Ow.k2 (cL .o cI) (Ow.k2 cI (Ow.k2 cI (Ow.k1 cI))))) r22.2), some (cI j17.2), none, none, none, none, none, none, none, none, none]) k19 rfl (ea_mv (ea_ev (e_cI 5) (ea_nil k19))) rfl (fun r22 q23 => (congrArg ff__law_take (l_cons (rfl) (l_cons (rfl) l_nil))).trans (ty__law_take_0 j17.1 5 r22 q23)) (fun _ => by simp [NoF.no, NoFK.no]) (fun _ => rfl)) fun r22 e20 k21 => (s_asgE (Pb := fun (r32 : (((List (List Int)) × (List Int)) × ((List Int) × Int × Int × Int))) => [some ((cL .w cI) script), some ((cR .o (Ow.k2 (cL .o cI) (Ow.k2 cI (Ow.k2 cI (Ow.k1 cI))))) r32.2), some (cI j17.2), some (cI r22.1), some ((cL .o (cL .o cI)) r32.1.1), some ((cL .o cI) r32.1.2), none, none, none, none, none, none]) (ee_call (dr := (fun (r32 : (((List (List Int)) × (List Int)) × ((List Int) × Int × Int × Int))) => (cT (Ow.k2 (cL .o (cL .o cI)) (Ow.k1 (cL .o cI)))) r32.1)) (Pf := fun (r32 : (((List (List Int)) × (List Int)) × ((List Int) × Int × Int × Int))) => [some ((cL .w cI) script), some ((cR .o (Ow.k2 (cL .o cI) (Ow.k2 cI (Ow.k2 cI (Ow.k1 cI))))) r32.2), some (cI j17.2), some (cI r22.1), none, none, none, none, none, none, none, none]) k21 rfl (ea_mv (ea_evE (Pa := fun (r28 : ((List (List Int)) × ((List Int) × Int × Int × Int))) => [some ((cL .w cI) script), some ((cR .o (Ow.k2 (cL .o cI) (Ow.k2 cI (Ow.k2 cI (Ow.k1 cI))))) r28.2), some (cI j17.2), some (cI r22.1), none, none, none, none, none, none, none, none]) (ee_callN (dr := (fun (r28 : ((List (List Int)) × ((List Int) × Int × Int × Int))) => (cL .s (cL .s cI)) r28.1)) (Pf := fun (r28 : ((List (List Int)) × ((List Int) × Int × Int × Int))) => [some ((cL .w cI) script), some ((cR .o (Ow.k2 (cL .o cI) (Ow.k2 cI (Ow.k2 cI (Ow.k1 cI))))) r28.2), some (cI j17.2), some (cI r22.1), none, none, none, none, none, none, none, none]) k21 rfl (ea_mv (ea_bor (ea_bor (ea_evE (Pa := fun (r24 : (Int × ((List Int) × Int × Int × Int))) => [some ((cL .w cI) script), some ((cR .o (Ow.k2 (cL .o cI) (Ow.k2 cI (Ow.k2 cI (Ow.k1 cI))))) r24.2), some (cI j17.2), some (cI r22.1), none, none, none, none, none, none, none, none]) (ee_call0 (dr := (fun (r24 : (Int × ((List Int) × Int × Int × Int))) => cI r24.1)) (Pf := fun (r24 : (Int × ((List Int) × Int × Int × Int))) => [some ((cL .w cI) script), some ((cR .o (Ow.k2 (cL .o cI) (Ow.k2 cI (Ow.k2 cI (Ow.k1 cI))))) r24.2), some (cI j17.2), some (cI r22.1), none, none, none, none, none, none, none, none]) k21 rfl (ea_mv (ea_ev (e_cI 7) (ea_nil k21))) rfl (fun r24 q25 => (congrArg ff__law_take (l_cons (rfl) (l_cons (rfl) l_nil))).trans (ty__law_take_0 r22.2 7 r24 q25)) (fun _ => by simp [NoF.no, NoFK.no]) (fun _ => rfl)) (fun r24 e27 k26 => (ea_nil k26)))))) (fun _ => rfl) (fun r24 r28 q29 => (congrArg ff__law_ringed (l_cons (rfl) (l_cons (rfl) (l_cons (rfl) (l_cons (rfl) l_nil))))).trans (ty__law_ringed_0 r24.2 j17.2 r22.1 r24.1 r28 q29)) (fun _ => by simp [boS, Pu.pu, PuK.pu]) (fun _ _ => rfl)) (fun r28 e31 k30 => (ea_nil k30)))) (fun _ => rfl) (fun r28 r32 q33 => (congrArg ff__law_named (l_cons (rfl) (l_cons (Fz.fz (c := (cL .s (cL .s cI))) _) l_nil))).trans (ty__law_named_0 r28.2 r28.1 r32 q33)) (fun _ => by simp [NoF.no, NoFK.no]) (fun _ _ => rfl)) (fun r32 => (b_tp (b_cons b_nm (b_cons b_nm b_nil)))) fun r32 e34 k35 => (s_setE (i := 6) (ee_call0 (dr := (fun (r38 : ((List Int) × ((List Int) × Int × Int × Int))) => (cL .o cI) r38.1)) (Pf := fun (r38 : ((List Int) × ((List Int) × Int × Int × Int))) => [some ((cL .w cI) script), some ((cR .o (Ow.k2 (cL .o cI) (Ow.k2 cI (Ow.k2 cI (Ow.k1 cI))))) r38.2), some (cI j17.2), some (cI r22.1), some ((cL .o (cL .o cI)) r32.1.1), some ((cL .o cI) r32.1.2), none, none, none, none, none, none]) k35 rfl (ea_mv (ea_bor (ea_bor (ea_nil k35)))) rfl (fun r38 q39 => (congrArg ff__law_turn (l_cons (rfl) (l_cons (Fz.fz (c := (cL .o cI)) _) (l_cons (rfl) l_nil)))).trans (ty__law_turn_0 r32.2 r32.1.2 j17.2 r38 q39)) (fun _ => by simp [NoF.no, NoFK.no]) (fun _ => rfl)) fun r38 e36 k37 => (s_frzN (i := 5) (ct := (cL .o cI)) k37 rfl fun e40 k41 => (s_seq (s_ifE (Q := fun (j52 : ((List (List Int)) × (List Int) × (List Int))) => [some ((cL .w cI) script), none, some (cI j17.2), some (cI r22.1), some ((cL .o (cL .o cI)) j52.1), some ((cL .s cI) j52.2.1), some ((cL .o cI) j52.2.2), none, none, none, none, none]) (Pa := fun (r42 : (Int × ((List Int) × Int × Int × Int))) => [some ((cL .w cI) script), some ((cR .o (Ow.k2 (cL .o cI) (Ow.k2 cI (Ow.k2 cI (Ow.k1 cI))))) r42.2), some (cI j17.2), some (cI r22.1), some ((cL .o (cL .o cI)) r32.1.1), some ((cL .s cI) r32.1.2), some ((cL .o cI) r38.1), none, none, none, none, none]) (p := fun (r42 : (Int × ((List Int) × Int × Int × Int))) => r42.1 = 0) (et_B (b := fun (r42 : (Int × ((List Int) × Int × Int × Int))) => decide (r42.1 = 0)) (ee_opL (w := fun (r42 : (Int × ((List Int) × Int × Int × Int))) => .bl (decide (r42.1 = 0))) (ee_call0 (dr := (fun (r42 : (Int × ((List Int) × Int × Int × Int))) => cI r42.1)) (Pf := fun (r42 : (Int × ((List Int) × Int × Int × Int))) => [some ((cL .w cI) script), some ((cR .o (Ow.k2 (cL .o cI) (Ow.k2 cI (Ow.k2 cI (Ow.k1 cI))))) r42.2), some (cI j17.2), some (cI r22.1), some ((cL .o (cL .o cI)) r32.1.1), some ((cL .s cI) r32.1.2), some ((cL .o cI) r38.1), none, none, none, none, none]) k41 rfl (ea_mv (ea_ev (e_cI 16) (ea_nil k41))) rfl (fun r42 q43 => (congrArg ff__law_take (l_cons (rfl) (l_cons (rfl) l_nil))).trans (ty__law_take_0 r38.2 16 r42 q43)) (fun _ => by simp [NoF.no, NoFK.no]) (fun _ => rfl)) (fun r42 e45 k44 => (e_cI 0)) (fun _ => eq_int _ _) (fun _ => rfl))) (fun r42 e47 k46 _ => (s_last (s_asgE (Pb := fun (r48 : (((List (List Int)) × (List Int) × (List Int)) × ((List Int) × Int × Int × Int))) => [some ((cL .w cI) script), some ((cR .o (Ow.k2 (cL .o cI) (Ow.k2 cI (Ow.k2 cI (Ow.k1 cI))))) r48.2), some (cI j17.2), some (cI r22.1), some ((cL .o (cL .o cI)) r48.1.1), some ((cL .s cI) r48.1.2.1), some ((cL .o cI) r48.1.2.2), none, none, none, none, none]) (ee_callN0 (dr := (fun (r48 : (((List (List Int)) × (List Int) × (List Int)) × ((List Int) × Int × Int × Int))) => (cT (Ow.k2 (cL .o (cL .o cI)) (Ow.k2 (cL .s cI) (Ow.k1 (cL .o cI))))) r48.1)) (Pf := fun (r48 : (((List (List Int)) × (List Int) × (List Int)) × ((List Int) × Int × Int × Int))) => [some ((cL .w cI) script), some ((cR .o (Ow.k2 (cL .o cI) (Ow.k2 cI (Ow.k2 cI (Ow.k1 cI))))) r48.2), some (cI j17.2), some (cI r22.1), some ((cL .o (cL .o cI)) r32.1.1), some ((cL .s cI) r32.1.2), some ((cL .o cI) r38.1), none, none, none, none, none]) k46 rfl (ea_mv (ea_nil k46)) rfl (fun r48 q49 => (congrArg ff__law_great (l_cons (rfl) l_nil)).trans (ty__law_great_0 r42.2 r48 q49)) (by simp [boS, Pu.pu, PuK.pu]) (fun _ => rfl)) (fun r48 => (b_tp (b_cons b_nm (b_cons b_nm (b_cons b_nm b_nil))))) fun r48 e50 k51 => (s_skip (k51.le (le_some (le_none (le_some (le_some (le_some (le_some (le_some (le_none (le_none (le_none (le_none (le_none le_nil))))))))))))) rfl)))) (fun r42 e47 k46 _ => (s_skip (k46.le (le_some (le_none (le_some (le_some (le_some (le_some (le_some (le_none (le_none (le_none (le_none (le_none le_nil))))))))))))) rfl))) fun j52 e53 k54 => (ES.hoist (v_lcm (Px := fun (x57 : (List Int)) => [some ((cL .w cI) script), none, some (cI j17.2), some (cI r22.1), some ((cL .o (cL .o cI)) j52.1), some ((cL .s cI) j52.2.1), some ((cL .o cI) j52.2.2), none, none, none, some ((cL .o cI) x57), none]) (w_L (e_var (i := 4) (d := (cL .o (cL .o cI)) j52.1) k54 rfl)) k54 (fun x57 => b_nm) fun x57 e58 k59 => (e_list (e_var (i := 10) k59 rfl))) fun ys60 hys60 => (s_let (i := 7) (ct := (cR .o (Ow.k2 (cL .o (cL .o cI)) (Ow.k1 (cL .o cI))))) (show _ = some ((cR .o (Ow.k2 (cL .o (cL .o cI)) (Ow.k1 (cL .o cI)))) (ys60, j52.2.2)) from e_mk (e_cons hys60 (e_cons (e_list (e_var (i := 6) (d := (cL .o cI) j52.2.2) k54 rfl)) e_nil))) k54 fun handed e55 k56 => (s_frzN (i := 6) (ct := (cL .o cI)) k56 rfl fun e61 k62 => (ES.hoist (v_fn (c := (cL .o (cL .o cI))) (e_cons (e_var (i := 4) (d := (cL .o (cL .o cI)) j52.1) k62 rfl) (e_cons (e_var (i := 6) (d := (cL .s cI) j52.2.2) k62 rfl) e_nil)) (fun r65 q66 => (congrArg ff__law_cut (fz_cons (fz_cons fz_nil))).trans (ty__law_cut_0 j52.1 j52.2.2 r65 q66))) fun r67 hr67 => (ES.hoistL (w_R (rg_1 (e_len (e_var (i := 6) (d := (cL .s cI) j52.2.2) k62 rfl)))) fun xs68 hxs68 => (ES.hoist (v_lcp (Px := fun (x69 : Int) => [some ((cL .w cI) script), none, some (cI j17.2), some (cI r22.1), some ((cL .o (cL .o cI)) j52.1), some ((cL .s cI) j52.2.1), some ((cL .s cI) j52.2.2), some ((cR .o (Ow.k2 (cL .o (cL .o cI)) (Ow.k1 (cL .o cI)))) handed), none, none, none, some (cI x69)]) hxs68 k62 (fun x69 => b_nm) (fun x69 e70 k71 => vb_yes) fun x69 e70 k71 => (EV.hoist (v_mul (e_cI 2) (e_var (i := 11) k71 rfl)) fun v72 hv72 => (EV.tot (e_add (e_len (e_var (i := 5) (d := (cL .s cI) j52.2.1) k71 rfl)) hv72)))) fun ys73 hys73 => (s_let (i := 8) (ct := (cT (Ow.k2 (cL .o (cL .o cI)) (Ow.k2 (cL .s cI) (Ow.k1 (cL .o cI)))))) (show _ = some ((cT (Ow.k2 (cL .o (cL .o cI)) (Ow.k2 (cL .s cI) (Ow.k1 (cL .o cI))))) (r67, j52.2.2, ys73)) from e_mk (e_cons hr67 (e_cons (e_pureC (e_var (i := 6) (d := (cL .s cI) j52.2.2) k62 rfl)) (e_cons hys73 e_nil)))) k62 fun due e63 k64 => (s_setV (i := 9) (v_fn (c := (cT (Ow.k2 (cL .o (cL .o cI)) (Ow.k2 (cL .o cI) (Ow.k1 (cL .o cI)))))) (e_cons (e_itemR (d := (cL .o (cL .o cI)) handed.1) (e_var (i := 7) k64 rfl) (e_cI 0) rfl) (e_cons (e_itemR (d := (cL .o cI) handed.2) (e_var (i := 7) k64 rfl) (e_cI 1) rfl) e_nil)) (fun r76 q77 => (congrArg ff_cut_along (fz_cons (fz_cons fz_nil))).trans (ty_cut_along_0 handed.1 handed.2 r76 q77))) k64 fun told e74 k75 => (s_frzN (i := 4) (ct := (cL .o (cL .o cI))) k75 rfl fun e79 k80 => (ES.hoist (v_fn (c := cB) (e_cons (e_var (i := 9) k80 rfl) (e_cons (e_var (i := 8) k80 rfl) e_nil)) (fun r81 q82 => (congrArg ff__law_three (fz_cons (fz_cons fz_nil))).trans (ty__law_three_0 told due r81 q82))) fun r83 hr83 => (s_ifx (e_or (e_not (e_truB hr83)) (e_B (e_ne (e_var (i := 7) k80 rfl) (show _ = some ((cR .o (Ow.k2 (cL .s (cL .s cI)) (Ow.k1 (cL .s cI)))) (j52.1, j52.2.2)) from e_mk (e_cons (e_pureC (e_var (i := 4) (d := (cL .s (cL .s cI)) j52.1) k80 rfl)) (e_cons (e_pureC (e_var (i := 6) (d := (cL .s cI) j52.2.2) k80 rfl)) e_nil)))))) (fun _ => (s_ret (e_cB false) (k80.any rfl) ⟨rfl, fun z => nomatch z⟩)) (fun _ => (s_sk (s_seq (s_forMP (i := 9) (j := 10) (s0 := ()) (c := (cL .o cI)) (Pl := fun (s84 : Unit) => [some ((cL .w cI) script), none, some (cI j17.2), some (cI r22.1), some ((cL .s (cL .s cI)) j52.1), some ((cL .s cI) j52.2.1), some ((cL .s cI) j52.2.2), some ((cR .o (Ow.k2 (cL .o (cL .o cI)) (Ow.k1 (cL .o cI)))) handed), some ((cT (Ow.k2 (cL .o (cL .o cI)) (Ow.k2 (cL .s cI) (Ow.k1 (cL .o cI))))) due), none, none, none]) (plt_tup (cj := (cL .o (cL .o cI))) (zj := told.1) (upj := fun y_ => (y_, told.2.1, told.2.2)) (plt_name (i := 9) k80 rfl) (e_cI 0) rfl rfl rfl (fun _ => rfl)) k80 (fun _ hm => hm.le (le_some (le_none (le_some (le_some (le_some (le_some (le_some (le_some (le_some (le_none (le_none (le_none le_nil))))))))))))) (fun s84 x85 e86 k87 => (s_last (s_app (pl_name (i := 10) k87 rfl) (e_cI 0) k87 fun row e89 k90 => (s_skip (k90.le (le_some (le_none (le_some (le_some (le_some (le_some (le_some (le_some (le_some (le_none (le_some (le_none le_nil))))))))))))) (Or.inl rfl))))) (fun _ => Nat.le_of_ble_eq_true rfl) (fun _ => rfl)) fun s91 e92 k93 => (ES.hoist (v_lcp (Px := fun (x94 : (List Int)) => [some ((cL .w cI) script), none, some (cI j17.2), some (cI r22.1), some ((cL .s (cL .s cI)) j52.1), some ((cL .s cI) j52.2.1), some ((cL .s cI) j52.2.2), some ((cR .o (Ow.k2 (cL .o (cL .o cI)) (Ow.k1 (cL .o cI)))) handed), some ((cT (Ow.k2 (cL .o (cL .o cI)) (Ow.k2 (cL .s cI) (Ow.k1 (cL .o cI))))) due), some ((cT (Ow.k2 (cL .o (cL .o cI)) (Ow.k2 (cL .o cI) (Ow.k1 (cL .o cI))))) (s91.2, told.2.1, told.2.2)), some ((cL .o cI) x94), none]) (w_L (e_itemT (d := (cL .o (cL .o cI)) due.1) (e_var (i := 8) k93 rfl) (e_cI 0) rfl)) k93 (fun x94 => b_nm) (fun x94 e95 k96 => vb_yes) fun x94 e95 k96 => (EV.hoist (v_cat (e_var (i := 10) k96 rfl) (show _ = some ((cL .o cI) [0]) from e_mk (e_cons (e_cI 0) e_nil))) fun v97 hv97 => (EV.tot hv97))) fun ys98 hys98 => (s_ifx (e_B (e_ne (e_itemT (d := (cL .o (cL .o cI)) ((s91.2, told.2.1, told.2.2).1)) (e_var (i := 9) (d := (cT (Ow.k2 (cL .o (cL .o cI)) (Ow.k2 (cL .o cI) (Ow.k1 (cL .o cI))))) (s91.2, told.2.1, told.2.2)) k93 rfl) (e_cI 0) rfl) hys98)) (fun _ => (s_ret (e_cB false) (k93.any rfl) ⟨rfl, fun z => nomatch z⟩)) (fun _ => (s_sk (s_app (PLt.s (plt_tup (cj := (cL .o cI)) (zj := (s91.2, told.2.1, told.2.2).2.1) (upj := fun y_ => ((s91.2, told.2.1, told.2.2).1, y_, (s91.2, told.2.1, told.2.2).2.2)) (plt_name (i := 9) k93 rfl) (e_cI 1) rfl rfl rfl (fun _ => rfl))) (e_cI 0) k93 fun z99 e100 k101 => (s_app (PLt.s (plt_tup (cj := (cL .o cI)) (zj := ((s91.2, told.2.1, told.2.2).1, z99, (s91.2, told.2.1, told.2.2).2.2).2.2) (upj := fun y_ => (((s91.2, told.2.1, told.2.2).1, z99, (s91.2, told.2.1, told.2.2).2.2).1, ((s91.2, told.2.1, told.2.2).1, z99, (s91.2, told.2.1, told.2.2).2.2).2.1, y_)) (plt_name (i := 9) k101 rfl) (e_cI 2) rfl rfl rfl (fun _ => rfl))) (e_cI 0) k101 fun z102 e103 k104 => (s_ifx (e_B (e_ne (e_var (i := 7) k104 rfl) (show _ = some ((cR .o (Ow.k2 (cL .s (cL .s cI)) (Ow.k1 (cL .s cI)))) (j52.1, j52.2.2)) from e_mk (e_cons (e_pureC (e_var (i := 4) (d := (cL .s (cL .s cI)) j52.1) k104 rfl)) (e_cons (e_pureC (e_var (i := 6) (d := (cL .s cI) j52.2.2) k104 rfl)) e_nil))))) (fun _ => (s_ret (e_cB false) (k104.any rfl) ⟨rfl, fun z => nomatch z⟩)) (fun _ => (s_sk (ES.hoist (v_fn (c := (cT (Ow.k2 (cL .o (cL .o cI)) (Ow.k2 (cL .o cI) (Ow.k1 (cL .o cI)))))) (e_cons (e_itemR (d := (cL .o (cL .o cI)) handed.1) (e_var (i := 7) k104 rfl) (e_cI 0) rfl) (e_cons (e_itemR (d := (cL .o cI) handed.2) (e_var (i := 7) k104 rfl) (e_cI 1) rfl) e_nil)) (fun r105 q106 => (congrArg ff_cut_along (fz_cons (fz_cons fz_nil))).trans (ty_cut_along_0 handed.1 handed.2 r105 q106))) fun r107 hr107 => (ES.hoist (v_fn (c := cB) (e_cons hr107 (e_cons (e_var (i := 8) k104 rfl) e_nil)) (fun r108 q109 => (congrArg ff__law_three (fz_cons (fz_cons fz_nil))).trans (ty__law_three_0 r107 due r108 q109))) fun r110 hr110 => (s_ret (e_andV (e_boolP hr110) (e_eq (e_var (i := 7) k104 rfl) (show _ = some ((cR .o (Ow.k2 (cL .s (cL .s cI)) (Ow.k1 (cL .s cI)))) (j52.1, j52.2.2)) from e_mk (e_cons (e_pureC (e_var (i := 4) (d := (cL .s (cL .s cI)) j52.1) k104 rfl)) (e_cons (e_pureC (e_var (i := 6) (d := (cL .s cI) j52.2.2) k104 rfl)) e_nil))))) (k104.any rfl) rfl))))))))))))))))))))))))))))))))))) _ (Mt.start (ds := [(cL .w cI) script]) (n := 12)))
end Lw

namespace Ty
variable {α β γ σ : Type}


theorem nodup_len [DecidableEq α] : ∀ {l L : List α}, l.Nodup → (∀ x ∈ l, x ∈ L) → l.length ≤ L.length
  | [], _, _, _ => Nat.zero_le _
  | x :: l, L, hn, hs => by
    have h1 := List.nodup_cons.mp hn
    have h2 : ∀ y ∈ l, y ∈ L.erase x := fun y hy => by
      have hne : y ≠ x := fun e => h1.1 (e ▸ hy)
      exact (List.mem_erase_of_ne hne).mpr (hs y (List.mem_cons_of_mem _ hy))
    have := nodup_len h1.2 h2
    have hx := hs x (List.mem_cons_self ..)
    rw [List.length_erase_of_mem hx] at this
    have : 0 < L.length := List.length_pos_of_mem hx
    rw [List.length_cons]
    omega
theorem span_nodup (a b : Int) : (span a b).Nodup := by
  unfold span
  rw [List.nodup_iff_pairwise_ne, List.pairwise_map]
  exact List.nodup_range.imp fun h => by omega
theorem forO_via {f : σ → α → Option σ} {g : σ → γ → σ} (I : σ → Prop) : ∀ (xs : List α) (L : List γ), xs.length = L.length → (∀ k (h1 : k < xs.length) (h2 : k < L.length) s, I s → f s xs[k] = some (g s L[k]) ∧ I (g s L[k])) → ∀ s, I s → forO xs s f = some (L.foldl g s) ∧ I (L.foldl g s)
  | [], [], _, _, s, hs => ⟨rfl, hs⟩
  | x :: xs, y :: L, hl, h, s, hs => by
    have h0 := h 0 (by simp) (by simp) s hs
    simp only [List.getElem_cons_zero] at h0
    rw [forO, h0.1, Option.bind_some, List.foldl_cons]
    exact forO_via I xs L (by simpa using hl) (fun k h1 h2 s hs => by
      have := h (k + 1) (by simpa using h1) (by simpa using h2) s hs
      simpa using this) _ h0.2
theorem span_getE {a b : Int} {k : Nat} (h : k < (span a b).length) : (span a b)[k] = a + (k : Int) := by
  have := span_get (a := a) (b := b) (k := k) (by simpa using h)
  rw [List.getElem?_eq_getElem h] at this
  exact Option.some.inj this
theorem enu_getE {i : Nat} {xs : List α} {k : Nat} (h : k < (enu i xs).length) : (enu i xs)[k] = (((i + k : Nat) : Int), xs[k]'(by simpa using h)) := by
  have := enu_get i xs k
  rw [List.getElem?_eq_getElem h, List.getElem?_eq_getElem (by simpa using h)] at this
  exact Option.some.inj this
theorem sum_flat : ∀ rs : List (List α), (rs.map fun r => (r.length : Int)).sum = rs.flatten.length
  | [] => rfl
  | x :: rs => by rw [List.map_cons, List.sum_cons, sum_flat rs, List.flatten_cons, List.length_append]; omega
theorem erase_perm : ∀ (l : List α) (i : Nat) (h : i < l.length), (l[i] :: l.eraseIdx i).Perm l
  | x :: l, 0, _ => List.Perm.refl _
  | x :: l, i + 1, h => by
    rw [List.getElem_cons_succ, List.eraseIdx_cons_succ]
    exact (List.Perm.swap x _ _).trans ((erase_perm l i (by simpa using h)).cons x)

def least (xs : List Int) : List Int := xs.drop (xs.idxOf (xs.min?.getD 0)) ++ xs.take (xs.idxOf (xs.min?.getD 0))
theorem least_perm (xs : List Int) : (least xs).Perm xs := by
  unfold least
  refine List.perm_append_comm.trans ?_
  rw [List.take_append_drop]
@[simp] theorem least_length (xs : List Int) : (least xs).length = xs.length := (least_perm xs).length_eq
theorem least_flat : ∀ rs : List (List Int), (rs.map least).flatten.Perm rs.flatten
  | [] => .refl _
  | r :: rs => by
    rw [List.map_cons, List.flatten_cons, List.flatten_cons]
    exact (least_perm r).append (least_flat rs)
end Ty

namespace Ty

def it (f : Int → Int) : Nat → Int → Int
  | 0, x => x
  | n + 1, x => f (it f n x)
def In (n : Nat) (x : Int) : Prop := 0 ≤ x ∧ x < n
structure Pm (f : Int → Int) (n : Nat) : Prop where
  mp : ∀ x, In n x → In n (f x)
  inj : ∀ x y, In n x → In n y → f x = f y → x = y
variable {f : Int → Int} {n : Nat}
def walk (f : Int → Int) (x : Int) : Nat → Int → List Int
  | 0, _ => []
  | m + 1, y => if y = x then [] else y :: walk f x m (f y)
def ring (f : Int → Int) (n : Nat) (x : Int) : List Int := x :: walk f x n (f x)
def rings (f : Int → Int) (n : Nat) : List (List Int) := (span 0 n).foldl (fun ls x => if x ∈ ls.flatten then ls else ls ++ [ring f n x]) []

def prevs : List Int → List Int
  | [] => []
  | x :: r => (x :: r).getLast (by simp) :: (x :: r).dropLast
@[simp] theorem prevs_length : ∀ row : List Int, (prevs row).length = row.length
  | [] => rfl
  | x :: r => by simp [prevs]
theorem prevs_perm : ∀ row : List Int, (prevs row).Perm row
  | [] => .refl _
  | x :: r => by
    have : ((x :: r).dropLast ++ [(x :: r).getLast (by simp)]).Perm (x :: r) := by rw [List.dropLast_concat_getLast]
    exact (List.perm_append_comm (l₁ := [(x :: r).getLast (by simp)]) (l₂ := (x :: r).dropLast)).trans this
theorem prevs_idx {row : List Int} {k : Nat} (h : k < row.length) : idx row ((k : Int) - 1) = some ((prevs row)[k]'(by simpa using h)) := by
  cases row with
  | nil => simp at h
  | cons x r =>
    cases k with
    | zero =>
      show idx (x :: r) (-1) = _
      rw [idx_last (by simp)]; rfl
    | succ k =>
      rw [show (((k + 1 : Nat) : Int) - 1) = (k : Int) by omega, idx_nat (by omega)]
      simp [prevs]
def setAll (b : List Int) (ps : List (Int × Int)) : List Int := ps.foldl (fun b p => b.set p.1.toNat p.2) b
@[simp] theorem setAll_length : ∀ (ps : List (Int × Int)) (b : List Int), (setAll b ps).length = b.length
  | [], b => rfl
  | p :: ps, b => by
    show (setAll (b.set p.1.toNat p.2) ps).length = _
    rw [setAll_length ps]; simp
theorem setAll_other {x : Int} : ∀ (ps : List (Int × Int)) (b : List Int), (∀ p ∈ ps, p.1.toNat ≠ x.toNat) → (setAll b ps)[x.toNat]? = b[x.toNat]?
  | [], b, _ => rfl
  | p :: ps, b, h => by
    show (setAll (b.set p.1.toNat p.2) ps)[x.toNat]? = _
    rw [setAll_other ps _ fun q hq => h q (List.mem_cons_of_mem _ hq), List.getElem?_set, if_neg (h p (List.mem_cons_self ..))]
theorem setAll_at {n : Nat} : ∀ (ps : List (Int × Int)) (b : List Int), b.length = n → (ps.map (·.1)).Nodup → (∀ p ∈ ps, In n p.1) → ∀ p ∈ ps, (setAll b ps)[p.1.toNat]? = some p.2
  | [], b, _, _, _, p, h => by simp at h
  | q :: ps, b, hb, hn, hi, p, h => by
    have hn' := List.nodup_cons.mp hn
    show (setAll (b.set q.1.toNat q.2) ps)[p.1.toNat]? = _
    rcases List.mem_cons.mp h with e | h
    · subst e
      have i1 := hi p (List.mem_cons_self ..)
      rw [setAll_other ps _ fun q hq e => hn'.1 (List.mem_map.mpr ⟨q, hq, by
        have i2 := hi q (List.mem_cons_of_mem _ hq)
        have := i1.1; have := i2.1
        show q.1 = p.1
        omega⟩), List.getElem?_set, if_pos rfl, if_pos (by have := i1.1; have := i1.2; omega)]
    · exact setAll_at ps _ (by simp [hb]) hn'.2 (fun p hp => hi p (List.mem_cons_of_mem _ hp)) p h
def pairsOf (rows : List (List Int)) : List (Int × Int) := rows.flatMap fun row => (prevs row).zip row
theorem pairs_fst : ∀ rows : List (List Int), ((pairsOf rows).map (·.1)).Perm rows.flatten
  | [] => .refl _
  | r :: rs => by
    show (((prevs r).zip r ++ pairsOf rs).map (·.1)).Perm _
    rw [List.map_append, List.flatten_cons, List.map_fst_zip (by simp)]
    exact (prevs_perm r).append (pairs_fst rs)
def behindL (rows : List (List Int)) : List Int := setAll (List.replicate rows.flatten.length 0) (pairsOf rows)
def Dr (n : Nat) (rows : List (List Int)) : Prop := rows.flatten.Perm (span 0 n)
theorem Dr.len {rows : List (List Int)} (h : Dr n rows) : rows.flatten.length = n := by
  have := List.Perm.length_eq h
  simpa using this
theorem Dr.in {rows : List (List Int)} (h : Dr n rows) {x : Int} : x ∈ rows.flatten ↔ In n x := by
  rw [List.Perm.mem_iff h, mem_span]; rfl
theorem Dr.nd {rows : List (List Int)} (h : Dr n rows) : rows.flatten.Nodup := (List.Perm.nodup_iff h).mpr (span_nodup _ _)
theorem behind_length (rows : List (List Int)) : (behindL rows).length = rows.flatten.length := by simp [behindL]
theorem Dr.behind {rows : List (List Int)} (h : Dr n rows) {p : Int × Int} (hp : p ∈ pairsOf rows) : (behindL rows)[p.1.toNat]? = some p.2 := by
  refine setAll_at (n := n) _ _ (by simp [h.len]) ((pairs_fst rows).nodup_iff.mpr h.nd) (fun q hq => ?_) p hp
  exact h.in.mp ((pairs_fst rows).mem_iff.mp (List.mem_map.mpr ⟨q, hq, rfl⟩))
def nx (rows : List (List Int)) (x : Int) : Int := ((behindL rows)[x.toNat]?).getD 0
theorem Dr.idx {rows : List (List Int)} (h : Dr n rows) {x : Int} (hx : In n x) : idx (behindL rows) x = some (nx rows x) := by
  have hl : (behindL rows).length = n := by rw [behind_length, h.len]
  refine idx_at hx.1 ?_
  unfold nx
  have : x.toNat < (behindL rows).length := by have := hx.1; have := hx.2; omega
  rw [List.getElem?_eq_getElem this]; rfl

def mate (x : Int) : Int := x + 1 - 2 * (x % 2)
theorem mate_in {m : Nat} {x : Int} (h : In (2 * m) x) : In (2 * m) (mate x) := by
  have h0 := h.1
  have h1 := h.2
  unfold mate
  constructor <;> omega
theorem mate_mate (x : Int) : mate (mate x) = x := by unfold mate; omega
def stp (rows : List (List Int)) (x : Int) : Int := nx rows (mate x)
def lands (rows : List (List Int)) : List (List Int) := rings (stp rows) rows.flatten.length ++ (rows.filter fun r => decide (r = [])).map fun _ => []
end Ty

namespace Td
open Ty
def l_cell (script : (List Int)) (k : Int) : Option Int :=
 if (k < (script.length : Int)) then idx script k
 else if ((script.length : Int) = 0) then pmul 7919 k
 else (pmod k (script.length : Int)).bind fun v3 =>
 (idx script v3).bind fun v4 =>
 (pmul (v4 % 1000003) 48271).bind fun v5 =>
 (pmul 7919 k).bind fun v6 =>
 some (v5 + v6)
end Td

namespace Td
open Ty
def l_mixed (cell : Int) (k : Int) : Option Int :=
 (pmul 1009 k).bind fun v3 =>
 (pmul v3 k).bind fun v4 =>
 (pmul 48611 k).bind fun v5 =>
 (ppow ((((cell % 2147483647) + v4) + v5) + 17) 5).bind fun v6 =>
 lt (v6 % 2147483647 : Int) fun one =>
 (pmul one 39373).bind fun v7 =>
 (pmul 7919 k).bind fun v8 =>
 some ((v7 + v8) % 1000000007)
end Td

namespace Td
open Ty
def l_draws (cell : Int) (sizes : (List Int)) : Option (List Int) :=
 lt (if cell < 0 then -cell else cell : Int) fun left =>
 (if (left < 1000000000000000000) then lt (0 : Int) fun left =>
 some left
 else some left : Option (Int)).bind fun j5 =>
 lt (([] : (List Int)) : (List Int)) fun row =>
 (rng 0 (sizes.length : Int)).bind fun xs10 =>
 (forO xs10 ((j5, row) : (Int × (List Int))) fun s12 x11 =>
 (if (0 < s12.1) then (idx sizes x11).bind fun v15 =>
 (pmod s12.1 v15).bind fun v16 =>
 (app s12.2 v16).bind fun row =>
 (idx sizes x11).bind fun v22 =>
 (pdiv s12.1 v22).bind fun left =>
 some (left, row)
 else (Td.l_mixed cell x11).bind fun r26 =>
 (idx sizes x11).bind fun v27 =>
 (pmod r26 v27).bind fun v28 =>
 (app s12.2 v28).bind fun row =>
 some (s12.1, row) : Option (Int × (List Int))).bind fun j32 =>
 some (j32.1, j32.2)).bind fun s35 =>
 some (s35.2)
end Td

namespace Td
open Ty
def l_rows (cell : Int) (ties : Int) (places : Int) : Option (List (List Int)) :=
 (pmul 2 ties).bind fun v3 =>
 (rng 0 v3).bind fun pool =>
 (pmul 2 ties).bind fun v7 =>
 (rng 0 v7).bind fun xs8 =>
 (lcp xs8 (fun x9 : Int => some true) fun x9 => (pmul 2 ties).bind fun v12 =>
 some (v12 - x9)).bind fun sizes =>
 (pmul 2 ties).bind fun v16 =>
 (rep [places] v16).bind fun v17 =>
 (cat sizes v17).bind fun v18 =>
 (Td.l_draws cell v18).bind fun draws =>
 (rng 0 places).bind fun xs24 =>
 (lcm xs24 fun x25 : Int => ([] : (List Int))).bind fun rows =>
 (pmul 2 ties).bind fun v29 =>
 (rng 0 v29).bind fun xs30 =>
 (forO xs30 ((pool, rows) : ((List Int) × (List (List Int)))) fun s32 x31 =>
 (pmul 2 ties).bind fun v35 =>
 (idx draws (v35 + x31)).bind fun v36 =>
 (idx s32.2 v36).bind fun z37 =>
 (idx draws x31).bind fun v38 =>
 (popI s32.1 v38).bind fun r39 => (app z37 r39.1).bind fun z40 =>
 some (r39.2, (setI s32.2 v36 z40))).bind fun s43 =>
 some (s43.2)
end Td

namespace Td
open Ty
def l_least (row : (List Int)) : Option (List Int) :=
 if ((row.length : Int) = 0) then some (([] : (List Int)))
 else (pmin row).bind fun v3 =>
 (ixOf row v3).bind fun at_ =>
 cat (sl row (some at_) none) (sl row none (some at_))
end Td

namespace Td
open Ty
theorem least_eq {xs : List Int} (h : xs.length ≤ 1000000) : l_least xs = some (least xs) := by
  unfold l_least
  by_cases hx : xs = []
  · subst hx; rfl
  · have hl : xs.length ≠ 0 := fun e => hx (List.length_eq_zero_iff.mp e)
    rw [if_neg (by omega)]
    obtain ⟨m, h1, h2, h3⟩ := pmin_ok hx
    rw [h1, Option.bind_some, ixOf_ok h2, Option.bind_some, sl_hi (by omega), sl_lo (by omega), cat_ok (by rw [List.length_drop, List.length_take]; omega)]
    have : xs.min? = some m := by unfold pmin at h1; exact h1
    unfold least
    rw [this]; rfl
theorem begun_eq {xs : List Int} (h : xs.length ≤ 1000000) : p_begun_least xs = some (least xs) := by
  have := least_eq h
  unfold l_least at this
  unfold p_begun_least
  by_cases hx : xs = []
  · subst hx; rfl
  · have hl : xs.length ≠ 0 := fun e => hx (List.length_eq_zero_iff.mp e)
    rw [if_neg (by omega)] at this
    rw [if_neg (fun z => z hx)]
    exact this
theorem count_eq {rs : List (List Int)} (h : rs.length ≤ 1000000) : p_count_ends rs = some (rs.flatten.length : Int) := by
  unfold p_count_ends
  rw [lcm_ok (by omega), Option.bind_some, sum_flat]
end Td

namespace Td
open Ty
def l_behind (rows : (List (List Int))) : Option (List Int) :=
 (lcm rows fun x3 : (List Int) => (x3.length : Int)).bind fun ys6 =>
 (rep [0] ys6.sum).bind fun behind =>
 (forO rows (behind : ((List Int))) fun s9 x8 =>
 (rng 0 (x8.length : Int)).bind fun xs12 =>
 (forO xs12 (s9 : ((List Int))) fun s14 x13 =>
 (idx x8 x13).bind fun v17 =>
 (idx x8 (x13 - 1)).bind fun v18 =>
 (putI s14 v18 v17).bind fun behind =>
 some behind).bind fun s22 =>
 some s22).bind fun s25 =>
 some (s25)
end Td

namespace Td
open Ty
def p_land_from (behind : (List Int)) (first : Int) : Option (List Int) :=
 lt ([first] : (List Int)) fun land =>
 (Td.p_mate_of first).bind fun r7 =>
 (idx behind r7).bind fun end_ =>
 (whO 100000 ((land, end_) : ((List Int) × Int)) (fun s9 => some (decide ((s9.2 ≠ first)))) fun s9 =>
 (app s9.1 s9.2).bind fun land =>
 (Td.p_mate_of s9.2).bind fun r19 =>
 (idx behind r19).bind fun end_ =>
 some (land, end_)).bind fun s21 =>
 some (s21.1)
end Td

namespace Td
open Ty
def p_lands_of (drawing : (List (List Int))) : Option (List (List Int)) :=
 (Td.p_behind_of drawing).bind fun behind =>
 (rep [false] (behind.length : Int)).bind fun seen =>
 lt (([] : (List (List Int))) : (List (List Int))) fun lands =>
 (rng 0 (behind.length : Int)).bind fun xs11 =>
 (forO xs11 ((seen, lands) : ((List Bool) × (List (List Int)))) fun s13 x12 =>
 (idx s13.1 x12).bind fun v16 =>
 (if ¬(v16 = true) then (Td.p_land_from behind x12).bind fun land =>
 (forO land (s13.1 : ((List Bool))) fun s25 x24 =>
 (putI s25 x24 true).bind fun seen =>
 some seen).bind fun s31 =>
 (app s13.2 land).bind fun lands =>
 some (s31, lands)
 else some (s13.1, s13.2) : Option ((List Bool) × (List (List Int)))).bind fun j37 =>
 some (j37.1, j37.2)).bind fun s40 =>
 ((lcp drawing (fun x45 : (List Int) => some (decide (¬(x45 ≠ [])))) fun x45 => some ([] : (List Int))).bind fun ys49 => cat s40.2 ys49).bind fun z50 => some (z50)
end Td

namespace Td
open Ty
def l_lands (rows : (List (List Int))) : Option (List (List Int)) :=
 (Td.l_behind rows).bind fun behind =>
 lt (([] : (List (List Int))) : (List (List Int))) fun lands =>
 lt (([] : (List (Int × Bool))) : (List (Int × Bool))) fun gone =>
 (rng 0 (behind.length : Int)).bind fun xs10 =>
 (forO xs10 ((lands, gone) : ((List (List Int)) × (List (Int × Bool)))) fun s12 x11 =>
 lt (([] : (List Int)) : (List Int)) fun land =>
 lt (x11 : Int) fun end_ =>
 (whO 100000 ((s12.2, land, end_) : ((List (Int × Bool)) × (List Int) × Int)) (fun s19 => some (decide (¬dhas s19.1 s19.2.2 = true))) fun s19 =>
 (dputO s19.1 s19.2.2 true).bind fun gone =>
 (app s19.2.1 s19.2.2).bind fun land =>
 (pmul 2 (s19.2.2 % 2)).bind fun v29 =>
 (idx behind ((s19.2.2 + 1) - v29)).bind fun end_ =>
 some (gone, land, end_)).bind fun s31 =>
 (if (0 < (s31.2.1.length : Int)) then (app s12.1 s31.2.1).bind fun lands =>
 some lands
 else some s12.1 : Option ((List (List Int)))).bind fun j37 =>
 some (j37, s31.1)).bind fun s40 =>
 ((lcp rows (fun x45 : (List Int) => some (decide (((x45.length : Int) = 0)))) fun x45 => some ([] : (List Int))).bind fun ys49 => cat s40.1 ys49).bind fun z50 => some (z50)
end Td

namespace Td
open Ty
def l_land (rows : (List (List Int))) (end_ : Int) : Option (List Int) :=
 (Td.l_behind rows).bind fun behind =>
 lt ([end_] : (List Int)) fun land =>
 (pmul 2 (end_ % 2)).bind fun v10 =>
 (idx behind ((end_ + 1) - v10)).bind fun step =>
 (whO 100000 ((land, step) : ((List Int) × Int)) (fun s12 => some (decide ((s12.2 ≠ end_)))) fun s12 =>
 (app s12.1 s12.2).bind fun land =>
 (pmul 2 (s12.2 % 2)).bind fun v20 =>
 (idx behind ((s12.2 + 1) - v20)).bind fun step =>
 some (land, step)).bind fun s22 =>
 some (s22.1)
end Td

namespace Td
open Ty
theorem zip_getE {α β : Type} {xs : List α} {ys : List β} {k : Nat} (h : k < (xs.zip ys).length) : (xs.zip ys)[k] = (xs[k]'(by rw [List.length_zip] at h; omega), ys[k]'(by rw [List.length_zip] at h; omega)) := by simp
theorem row_turn {n : Nat} {row : List Int} (hr : ∀ e ∈ row, In n e) (k : Nat) (hk : k < row.length) (s : List Int) (hs : s.length = n) :
    putI s ((prevs row)[k]'(by simpa using hk)) row[k] = some (s.set ((prevs row)[k]'(by simpa using hk)).toNat row[k]) := by
  have := hr _ ((prevs_perm row).mem_iff.mp (List.getElem_mem (l := prevs row) (n := k) (by simpa using hk)))
  exact putI_ok this.1 (by rw [hs]; exact this.2)
theorem p_behind_eq {n : Nat} {rows : List (List Int)} (h : Dr n rows) (hn : n ≤ 100000) (hl : rows.length ≤ 100000) : p_behind_of rows = some (behindL rows) := by
  unfold p_behind_of
  rw [count_eq (by omega), bs, rep_one (by rw [h.len]; omega) (by omega), bs]
  have hin : ∀ r ∈ rows, ∀ e ∈ r, In n e := fun r hr e he => h.in.mp (List.mem_flatten.mpr ⟨r, hr, he⟩)
  have key := forO_via (f := fun (s8 : List Int) (x7 : List Int) => (forO (enu 0 x7) (s8 : List Int) fun s12 x11 => (idx x7 (x11.1 - 1)).bind fun v15 => (putI s12 v15 x11.2).bind fun behind => some behind).bind fun s19 => some s19) (g := fun s row => setAll s ((prevs row).zip row)) (fun s : List Int => s.length = n) rows rows rfl (fun k h1 _ s hs => by
    have hrow : rows[k] ∈ rows := List.getElem_mem h1
    have q := forO_via (f := fun (s12 : List Int) (x11 : Int × Int) => (idx rows[k] (x11.1 - 1)).bind fun v15 => (putI s12 v15 x11.2).bind fun behind => some behind) (g := fun s p => s.set p.1.toNat p.2) (fun s : List Int => s.length = n) (enu 0 rows[k]) ((prevs rows[k]).zip rows[k]) (by simp) (fun j j1 j2 s hs => by
      have hj : j < rows[k].length := by simpa using j1
      rw [enu_getE j1, zip_getE j2]
      dsimp only
      rw [show ((0 + j : Nat) : Int) = (j : Int) by omega, prevs_idx hj, bs, row_turn (hin _ hrow) j hj s hs, bs]
      exact ⟨rfl, by simp [hs]⟩) s hs
    refine ⟨?_, by simp [hs]⟩
    rw [q.1, bs]; rfl) (List.replicate rows.flatten.length 0) (by simp [h.len])
  show Option.bind (forO rows (List.replicate ((rows.flatten.length : Int).toNat) 0) _) _ = _
  rw [show ((rows.flatten.length : Int)).toNat = rows.flatten.length by omega]
  rw [key.1, bs]
  unfold behindL pairsOf setAll
  rw [List.flatMap, List.foldl_flatten, List.foldl_map]
structure RF (f : Int → Int) (n : Nat) (ls : List (List Int)) : Prop where
  ne : ∀ l ∈ ls, l ≠ []
  nd : ls.flatten.Nodup
  mem : ∀ y ∈ ls.flatten, In n y
  back : ∀ y, In n y → f y ∈ ls.flatten → y ∈ ls.flatten
def mark (n : Nat) (S : List Int) : List Bool := (List.range n).map fun (i : Nat) => decide ((i : Int) ∈ S)
def gone (S : List Int) : List (Int × Bool) := S.map fun x => (x, true)
end Td

namespace Td
open Ty
def l_seats (drawing : (List (List Int))) : Option (List (Int × Int)) :=
 lt (([] : (List (Int × Int))) : (List (Int × Int))) fun seats =>
 (rng 0 (drawing.length : Int)).bind fun xs3 =>
 (forO xs3 (seats : ((List (Int × Int)))) fun s5 x4 =>
 (idx drawing x4).bind fun v8 =>
 (forO v8 (s5 : ((List (Int × Int)))) fun s10 x9 =>
 (dputO s10 x9 x4).bind fun seats =>
 some seats).bind fun s15 =>
 some s15).bind fun s18 =>
 some (s18)
end Td

namespace Td
open Ty
instance (n : Nat) (x : Int) : Decidable (In n x) := inferInstanceAs (Decidable (_ ∧ _))
theorem map_fst_pair (r : List Int) (i : Int) : (r.map fun e => (e, i)).map (·.1) = r := by
  induction r with
  | nil => rfl
  | cons x r ih => rw [List.map_cons, List.map_cons, ih]
def seatsP (i : Nat) (rows : List (List Int)) : List (Int × Int) := (enu i rows).flatMap fun x => x.2.map fun e => (e, x.1)
theorem seatsP_cons (i : Nat) (r : List Int) (rs : List (List Int)) : seatsP i (r :: rs) = r.map (fun e => (e, (i : Int))) ++ seatsP (i + 1) rs := rfl
theorem seatsP_fst : ∀ (i : Nat) (rows : List (List Int)), (seatsP i rows).map (·.1) = rows.flatten
  | _, [] => rfl
  | i, r :: rs => by rw [seatsP_cons, List.map_append, seatsP_fst (i + 1) rs, map_fst_pair, List.flatten_cons]
def hm (rows : List (List Int)) (e : Int) : Int := (((seatsP 0 rows).find? fun p => decide (p.1 = e)).map (·.2)).getD 0
theorem dget_nd {m : List (Int × Int)} (h : (m.map (·.1)).Nodup) {p : Int × Int} (hp : p ∈ m) : dget m p.1 = some p.2 := by
  unfold dget
  induction m with
  | nil => cases hp
  | cons q m ih =>
    have hn := List.nodup_cons.mp h
    rw [List.find?_cons]
    rcases List.mem_cons.mp hp with e | e
    · subst e; simp
    · have : q.1 ≠ p.1 := fun z => hn.1 (by show q.1 ∈ _; rw [z]; exact List.mem_map.mpr ⟨p, e, rfl⟩)
      simp only [this, decide_false]
      exact ih hn.2 e
theorem dget_hm {n : Nat} {rows : List (List Int)} (h : Dr n rows) {e : Int} (he : In n e) : dget (seatsP 0 rows) e = some (hm rows e) := by
  have h1 : e ∈ (seatsP 0 rows).map (·.1) := by rw [seatsP_fst]; exact h.in.mpr he
  obtain ⟨p, hp, rfl⟩ := List.mem_map.mp h1
  have h2 := dget_nd (by rw [seatsP_fst]; exact h.nd) hp
  rw [h2]
  unfold hm
  show _ = some ((dget (seatsP 0 rows) p.1).getD 0)
  rw [h2]; rfl
theorem hm_row {n : Nat} {rows : List (List Int)} (h : Dr n rows) {e : Int} {i : Nat} (hi : i < rows.length) (he : e ∈ rows[i]) : hm rows e = (i : Int) := by
  have hin : In n e := h.in.mp (List.mem_flatten.mpr ⟨_, List.getElem_mem hi, he⟩)
  have key : ∀ (k : Nat) (rs : List (List Int)) (i : Nat) (hi : i < rs.length), e ∈ rs[i] → (e, ((k + i : Nat) : Int)) ∈ seatsP k rs := by
    intro k rs
    induction rs generalizing k with
    | nil => intro i hi; simp at hi
    | cons r rs ih =>
      intro i hi he
      rw [seatsP_cons]
      cases i with
      | zero => exact List.mem_append_left _ (List.mem_map.mpr ⟨e, by simpa using he, by simp⟩)
      | succ i =>
        refine List.mem_append_right _ ?_
        have := ih (k + 1) i (by simpa using hi) (by simpa using he)
        rw [show k + (i + 1) = k + 1 + i by omega]; exact this
  have h1 := key 0 rows i hi he
  have h2 := dget_nd (by rw [seatsP_fst]; exact h.nd) h1
  rw [show (0 + i : Nat) = i by omega] at h2
  have h3 := dget_hm h hin
  rw [h2] at h3
  exact (Option.some.inj h3).symm
theorem hm_in {n : Nat} {rows : List (List Int)} (h : Dr n rows) {e : Int} (he : In n e) : ∃ i, ∃ hi : i < rows.length, hm rows e = (i : Int) ∧ e ∈ rows[i] := by
  obtain ⟨r, hr, h2⟩ := List.mem_flatten.mp (h.in.mpr he)
  obtain ⟨i, hi, rfl⟩ := List.getElem_of_mem hr
  exact ⟨i, hi, hm_row h hi h2, h2⟩
theorem hm_rg {n : Nat} {rows : List (List Int)} (h : Dr n rows) {e : Int} (he : In n e) : 0 ≤ hm rows e ∧ hm rows e < rows.length := by
  obtain ⟨i, hi, e1, _⟩ := hm_in h he
  rw [e1]; omega

theorem put_seats (i : Int) : ∀ (row : List Int) (b : List Int), (∀ e ∈ row, In b.length e) → forO row b (fun s14 x13 => (putI s14 x13 i).bind fun homes => some homes) = some (setAll b (row.map fun e => (e, i)))
  | [], b, _ => rfl
  | x :: row, b, h => by
    have hx := h x (List.mem_cons_self ..)
    rw [forO, putI_ok hx.1 hx.2, bs, bs, put_seats i row _ fun e he => by rw [List.length_set]; exact h e (List.mem_cons_of_mem _ he)]
    rfl
theorem homes_go : ∀ (rest : List (List Int)) (i : Nat) (b : List Int), (∀ e ∈ rest.flatten, In b.length e) → forO (enu i rest) b (fun s8 x7 => (forO x7.2 (s8 : (List Int)) fun s14 x13 => (putI s14 x13 x7.1).bind fun homes => some homes).bind fun s20 => some s20) = some (setAll b (seatsP i rest))
  | [], i, b, _ => rfl
  | r :: rest, i, b, h => by
    rw [enu, forO]
    dsimp only
    rw [put_seats _ r b fun e he => h e (List.mem_flatten.mpr ⟨r, List.mem_cons_self .., he⟩), bs, bs, homes_go rest (i + 1) _ fun e he => by
      rw [setAll_length]
      rw [List.flatten_cons] at h
      exact h e (List.mem_append_right _ he)]
    rw [seatsP_cons, setAll, setAll, setAll, List.foldl_append]
def homesL (rows : List (List Int)) : List Int := setAll (List.replicate rows.flatten.length 0) (seatsP 0 rows)
theorem homes_eq {n : Nat} {rows : List (List Int)} (h : Dr n rows) (hn : n ≤ 100000) (hl : rows.length ≤ 100000) : p_homes_of rows = some (homesL rows) := by
  unfold p_homes_of
  rw [count_eq (by omega), bs, rep_one (by rw [h.len]; omega) (by omega), bs, homes_go rows 0 _ fun e he => by
    have := h.in.mp he
    simp only [List.length_replicate]
    rw [h.len]
    exact this]
  rw [bs]
  unfold homesL
  simp
theorem homes_len {n : Nat} {rows : List (List Int)} (h : Dr n rows) : (homesL rows).length = n := by
  unfold homesL; rw [setAll_length, List.length_replicate, h.len]
theorem homes_idx {n : Nat} {rows : List (List Int)} (h : Dr n rows) {e : Int} (he : In n e) : idx (homesL rows) e = some (hm rows e) := by
  obtain ⟨p, hp, rfl⟩ := List.mem_map.mp (show e ∈ (seatsP 0 rows).map (·.1) by rw [seatsP_fst]; exact h.in.mpr he)
  refine idx_at he.1 ?_
  have h1 := setAll_at (n := n) (seatsP 0 rows) (List.replicate rows.flatten.length 0) (by simp [h.len]) (by rw [seatsP_fst]; exact h.nd) (fun q hq => h.in.mp (by rw [← seatsP_fst 0]; exact List.mem_map.mpr ⟨q, hq, rfl⟩)) p hp
  unfold homesL
  rw [h1]
  have h2 := dget_nd (by rw [seatsP_fst]; exact h.nd) hp
  rw [dget_hm h he] at h2
  exact h2.symm
theorem l_mate_eq (x : Int) : l_mate x = some (mate x) := by
  unfold l_mate mate
  rw [pmul_ok (by omega) (by omega), bs]
theorem p_mate_eq (x : Int) : p_mate_of x = some (mate x) := rfl
end Td

namespace Td
open Ty
theorem nd_inj {l : List Int} (nd : l.Nodup) {i j : Nat} {hi : i < l.length} {hj : j < l.length} : l[i] = l[j] ↔ i = j := by
  constructor
  · intro e
    have h1 := List.Nodup.idxOf_getElem nd i hi
    rw [e, List.Nodup.idxOf_getElem nd j hj] at h1
    exact h1.symm
  · intro e
    subst e
    rfl
theorem nx_row {n : Nat} {rows : List (List Int)} (h : Dr n rows) {row : List Int} (hr : row ∈ rows) {j : Nat} (hj : j < row.length) : nx rows row[j] = row[(j + 1) % row.length]'(Nat.mod_lt _ (by omega)) := by
  have hk : (j + 1) % row.length < row.length := Nat.mod_lt _ (by omega)
  have e1 := prevs_idx hk
  have e2 : (prevs row)[(j + 1) % row.length]'(by simpa using hk) = row[j] := by
    by_cases q : j + 1 < row.length
    · have : (j + 1) % row.length = j + 1 := Nat.mod_eq_of_lt q
      simp only [this] at e1 ⊢
      rw [show (((j + 1 : Nat) : Int) - 1) = (j : Int) by omega, idx_nat hj] at e1
      exact (Option.some.inj e1).symm
    · have : (j + 1) % row.length = 0 := by rw [show j + 1 = row.length by omega]; exact Nat.mod_self _
      simp only [this] at e1 ⊢
      have hn : row ≠ [] := fun z => by rw [z] at hj; simp at hj
      rw [show (((0 : Nat) : Int) - 1) = (-1 : Int) by omega, idx_last hn, List.getLast_eq_getElem] at e1
      have := (Option.some.inj e1).symm
      rw [this]
      congr 1
      omega
  have e3 : ((prevs row)[(j + 1) % row.length]'(by simpa using hk), row[(j + 1) % row.length]) ∈ pairsOf rows := by
    unfold pairsOf
    refine List.mem_flatMap.mpr ⟨row, hr, ?_⟩
    have := List.getElem_mem (l := (prevs row).zip row) (n := (j + 1) % row.length) (by simpa using hk)
    rwa [zip_getE] at this
  have e4 := h.behind e3
  rw [e2] at e4
  unfold nx
  rw [e4]; rfl
def far (n p r : Nat) : Nat := if p < r then r - p else r + n - p
def btw (row : List Int) (p q : Nat) : List Int := (List.range (far row.length p q - 1)).map fun t => row.getD ((p + 1 + t) % row.length) 0
def ah (p q : Nat) : Int := if p < q then 1 else 0
end Td

namespace Td
open Ty
def Bx (n : Int) (b : List Int × Int × Int × Int) : Prop := 0 ≤ b.2.1 ∧ 0 ≤ b.2.2.1 ∧ 0 ≤ b.2.2.2 ∧ b.2.2.2 ≤ n
theorem Bx.mono {n m : Int} {b : List Int × Int × Int × Int} (h : Bx n b) (e : n ≤ m) : Bx m b := ⟨h.1, h.2.1, h.2.2.1, Int.le_trans h.2.2.2 e⟩
theorem Bx.start {ns : List Int} : Bx 0 (ns, 0, 0, 0) := ⟨by simp, by simp, by simp, by simp⟩
theorem mixedT_ok {cell k many : Int} (h0 : 0 ≤ k) (h1 : k ≤ 2 ^ 40) (hm : 0 < many) : Ok (l_mixed_2 cell k many) fun r => 0 ≤ r ∧ r < many := by
  unfold l_mixed_2
  have b1 := Int.emod_nonneg cell (b := 2147483647) (by decide)
  have b2 := Int.emod_lt_of_pos cell (b := 2147483647) (by decide)
  rw [pmul_ok (by decide) (by omega), bs, ppow_ok (by decide) (by decide) (by omega), bs, lt_eq]
  generalize hx : (cell % 2147483647 + 40503 * k + 17) ^ (5 : Int).toNat = x
  have c1 := Int.emod_nonneg x (b := 2147483647) (by decide)
  have c2 := Int.emod_lt_of_pos x (b := 2147483647) (by decide)
  generalize x % 2147483647 = one at *
  rw [pmul_ok (by omega) (by omega), bs]
  generalize one * (48271 + k) = y
  have d1 := Int.emod_nonneg y (b := 999999937) (by decide)
  have d2 := Int.emod_lt_of_pos y (b := 999999937) (by decide)
  rw [pmul_ok (by omega) (by decide), bs, pmod_ok hm]
  exact Ok.ret ⟨Int.emod_nonneg _ (by omega), Int.emod_lt_of_pos _ hm⟩
theorem take_ok {n many : Int} {b : List Int × Int × Int × Int} (h : Bx n b) (hn : n ≤ 1000000000) (hm : 0 < many) (hM : many < 2 ^ 250) : Ok (l_take b many) fun r => 0 ≤ r.1 ∧ r.1 < many ∧ Bx (n + 1) r.2 := by
  obtain ⟨xs, i, d, k⟩ := b
  obtain ⟨h1, h2, h3, h4⟩ := h
  dsimp only at h1 h2 h3 h4
  unfold l_take
  simp only [lt_eq]
  have mix : ∀ {cell : Int} {b' : List Int × Int × Int × Int}, Bx (n + 1) b' → Ok ((l_mixed_2 cell (k + 1) many).bind fun r => some (r, b')) fun r => 0 ≤ r.1 ∧ r.1 < many ∧ Bx (n + 1) r.2 := fun hb => by
    exact (mixedT_ok (by omega) (by omega) hm).bind fun r hr => Ok.ret ⟨hr.1, hr.2, hb⟩
  have drw : ∀ {d : Int} {i : Int}, 0 < d → 0 ≤ i → Ok ((pmod d many).bind fun draw => (pdiv d many).bind fun v => some (draw, (xs, i, v, k + 1))) fun r => 0 ≤ r.1 ∧ r.1 < many ∧ Bx (n + 1) r.2 := fun {d i} hd hi => by
    rw [pmod_ok hm, bs, pdiv_ok hm hM, bs]
    exact Ok.ret ⟨Int.emod_nonneg _ (by omega), Int.emod_lt_of_pos _ hm, hi, Int.ediv_nonneg (by omega) (by omega), by dsimp only; omega, by dsimp only; omega⟩
  have lst : ∀ {i d c : Int}, 0 ≤ i → 0 ≤ d → Ok ((if (0 : Int) < (xs.length : Int) then (pmod (k + 1) (xs.length : Int)).bind fun v23 => (idx xs v23).bind fun cell => some cell else some c : Option Int).bind fun j => (l_mixed_2 j (k + 1) many).bind fun r => some (r, (xs, i, d, k + 1))) fun r => 0 ≤ r.1 ∧ r.1 < many ∧ Bx (n + 1) r.2 := fun {i d c} hi hd => by
    have hb : Bx (n + 1) (xs, i, d, k + 1) := ⟨hi, hd, by dsimp only; omega, by dsimp only; omega⟩
    refine Ok.bind (Q := fun _ => True) (Ok.ite (fun hl => ?_) fun _ => Ok.ret trivial) fun c _ => mix hb
    rw [pmod_ok hl, bs, idx_ok (Int.emod_nonneg _ (by omega)) (Int.emod_lt_of_pos _ hl), bs]
    exact Ok.ret trivial
  refine Ok.ite (fun hc => ?_) fun hc => Ok.ite (fun hd => drw hd h1) fun hd => lst h1 h2
  rw [idx_ok h1 hc.2, bs]
  refine Ok.ite (fun _ => mix ⟨by dsimp only; omega, h2, by dsimp only; omega, by dsimp only; omega⟩) fun hcell => ?_
  refine Ok.ite (fun hd => drw hd (by omega)) fun hd => lst (by omega) (by omega)
end Td

namespace Td
open Ty
def l_behind_3 (rows : (List (List Int))) : Option (List Int) :=
 (lcm rows fun x3 : (List Int) => (x3.length : Int)).bind fun ys6 =>
 (rep [0] ys6.sum).bind fun told =>
 (forO rows (told : ((List Int))) fun s9 x8 =>
 (forO (enu 0 x8) (s9 : ((List Int))) fun s13 x12 =>
 (pmod (x12.1 + 1) (x8.length : Int)).bind fun v16 =>
 (idx x8 v16).bind fun v17 =>
 (putI s13 x12.2 v17).bind fun told =>
 some told).bind fun s21 =>
 some s21).bind fun s24 =>
 some (s24)
end Td

namespace Td
open Ty
def l_grown_3 (box : ((List Int) × Int × Int × Int)) (leaves : Int) (ties : Int) : Option ((List (List Int)) × ((List Int) × Int × Int × Int)) :=
 lt ([([] : (List Int))] : (List (List Int))) fun rows =>
 (rng 0 leaves).bind fun xs3 =>
 (forO xs3 ((box, rows) : (((List Int) × Int × Int × Int) × (List (List Int)))) fun s5 x4 =>
 (lcm s5.2 fun x8 : (List Int) => max 1 (x8.length : Int)).bind fun ys11 =>
 (((Td.l_take s5.1 ys11.sum).bind fun r12 => ((pmul 2 x4).bind fun v17 => (some ()).bind fun a18 => some (v17, a18)).bind fun r19 => some (r12, r19)).bind fun r22 => (Td.l_put s5.2 r22.1.1 r22.2.1).bind fun r23 => some (r22, r23)).bind fun r25 =>
 (pmul 2 x4).bind fun v28 =>
 (app r25.2.2 [v28 + 1]).bind fun rows =>
 some (r25.1.1.2, rows)).bind fun s32 =>
 (pmul 2 leaves).bind fun v35 =>
 (pmul 2 leaves).bind fun v36 =>
 (pmul 2 ties).bind fun v37 =>
 (Td.l_lay_ends s32.1 s32.2 v35 (v36 + v37)).bind fun r38 => some (r38.1, r38.2.1)
end Td

namespace Td
open Ty
theorem least2_eq {xs : List Int} (h : xs.length ≤ 1000000) : l_least_2 xs = some (least xs) := by
  unfold l_least_2
  by_cases e : xs = []
  · subst e; rfl
  · rw [if_neg (by have := List.length_pos_iff.mpr e; omega)]
    cases hm : xs.min? with
    | none => exact absurd (List.min?_eq_none_iff.mp hm) e
    | some m =>
      have hx := (List.min?_eq_some_iff.mp hm).1
      have hi := List.idxOf_lt_length_of_mem hx
      unfold pmin
      rw [hm, bs, ixOf_ok hx, bs, sl_hi (by omega), sl_lo (by omega), Int.toNat_natCast, cat_ok (by rw [List.length_drop, List.length_take]; omega)]
      unfold least
      rw [hm]; rfl
theorem max_sum : ∀ rs : List (List Int), (rs.map fun r => max 1 (r.length : Int)).sum ≤ rs.length + rs.flatten.length ∧ (rs.length : Int) ≤ (rs.map fun r => max 1 (r.length : Int)).sum
  | [] => by simp
  | r :: rs => by
    have := max_sum rs
    simp only [List.map_cons, List.sum_cons, List.length_cons, List.flatten_cons, List.length_append]
    omega
theorem span_snoc_perm {rows rows' : List (List Int)} {k : Nat} (h : rows'.flatten.Perm ((k : Int) :: rows.flatten)) (hd : Dr k rows) : Dr (k + 1) rows' := by
  unfold Dr at *
  rw [show ((k + 1 : Nat) : Int) = (k : Int) + 1 by omega, span_succ (by omega)]
  exact h.trans ((hd.cons _).trans (List.perm_append_singleton _ _).symm)

theorem shuffled_ok {n : Int} {b : List Int × Int × Int × Int} {m : Nat} (h : Bx n b) (hn : n ≤ 100000) (hm : m ≤ 10000) : Ok (l_shuffled b (m : Int)) fun r => Bx (n + m) r.2 ∧ r.1.Perm (span 0 m) := by
  unfold l_shuffled
  rw [rng_ok (by omega) (by omega) (by omega) (by omega), bs, lt_eq]
  refine (whO_ok (fun s => ∃ k : Nat, s.2.1.length + k = m ∧ s.2.2.length = k ∧ Bx (n + k) s.1 ∧ (s.2.2 ++ s.2.1).Perm (span 0 m)) (fun s => s.2.1.length) (fun s => Bx (n + m) s.1 ∧ s.2.2.Perm (span 0 m)) (fun s ⟨k, g1, g2, g3, g4⟩ => ?_) _ _ ⟨0, by simp, rfl, h.mono (by omega), by simp⟩ (by simp; omega)).bind fun s ⟨g1, g2⟩ => Ok.ret ⟨g1, g2⟩
  by_cases q : 0 < s.2.1.length
  · refine .inl ⟨by rw [decide_eq_true (by omega)], ?_⟩
    refine Ok.bind (Q := fun r11 => Bx (n + k + 1) r11.1.2 ∧ (r11.2.1 :: r11.2.2).Perm s.2.1 ∧ r11.2.2.length + 1 = s.2.1.length) ((take_ok g3 (by omega) (by omega) (by omega)).bind fun a12 ⟨a0, a1, a2⟩ => ?_) fun r11 ⟨b1, b2, b3⟩ => ?_
    · rw [popI_ok (by omega) a0 a1, bs]
      exact Ok.ret ⟨a2, erase_perm _ _ (by omega), by dsimp only; rw [List.length_eraseIdx, if_pos (by omega)]; omega⟩
    · rw [app_ok (by omega), bs]
      refine Ok.ret ⟨⟨k + 1, by dsimp only; omega, by simp; omega, b1.mono (by omega), ?_⟩, by dsimp only; omega⟩
      dsimp only
      rw [List.append_assoc]
      exact ((b2.append_left _).trans g4)
  · refine .inr ⟨by rw [decide_eq_false (by omega)], ?_, ?_⟩
    · have : k = m := by omega
      rw [← this]; exact g3
    · have : s.2.1 = [] := List.length_eq_zero_iff.mp (by omega)
      rw [this, List.append_nil] at g4
      exact g4
end Td

namespace Td
open Ty
def l_named (box : ((List Int) × Int × Int × Int)) (rows : (List (List Int))) : Option (((List (List Int)) × (List Int)) × ((List Int) × Int × Int × Int)) :=
 lt (([] : (List Int)) : (List Int)) fun names =>
 (lcm rows fun x3 : (List Int) => (x3.length : Int)).bind fun ys6 =>
 (Td.l_shuffled box (ys6.sum / 2)).bind fun r7 =>
 (forO r7.1 ((r7.2, names) : (((List Int) × Int × Int × Int) × (List Int))) fun s12 x11 =>
 (Td.l_take s12.1 2).bind fun r17 =>
 (pmul 2 x11).bind fun v19 =>
 (app s12.2 (v19 + r17.1)).bind fun names =>
 (pmul 2 x11).bind fun v23 =>
 (app names ((v23 + 1) - r17.1)).bind fun names =>
 some (r17.2, names)).bind fun s27 =>
 (Td.l_shuffled s27.1 (rows.length : Int)).bind fun r32 =>
 (lcm rows fun x36 : (List Int) => ([] : (List Int))).bind fun told =>
 (forO (enu 0 rows) (told : ((List (List Int)))) fun s41 x40 =>
 (lcp x40.2 (fun x44 : Int => some true) fun x44 => (idx s27.2 x44).bind fun v47 =>
 some v47).bind fun ys48 =>
 (Td.l_least_2 ys48).bind fun r51 =>
 (idx r32.1 x40.1).bind fun v52 =>
 (putI s41 v52 r51).bind fun told =>
 some told).bind fun s56 =>
 some ((s56, s27.2), r32.2)
end Td

namespace Td
open Ty
def l_exchanged (rows : (List (List Int))) (one : Int) (two : Int) : Option (List (List Int)) :=
 (lcm rows fun x3 : (List Int) => (x3.length : Int)).bind fun ys6 =>
 (rng 0 ys6.sum).bind fun names =>
 (putI names one two).bind fun names =>
 (putI names two one).bind fun names =>
 lcp rows (fun x14 : (List Int) => some true) fun x14 => (lcp x14 (fun x17 : Int => some true) fun x17 => (idx names x17).bind fun v20 =>
 some v20).bind fun ys21 =>
 (Td.l_least_2 ys21).bind fun r24 =>
 some r24
end Td

namespace Td
open Ty
def nextsP (rows : List (List Int)) : List (Int × Int) := rows.flatMap fun row => (List.range row.length).map fun j => (row.getD j 0, row.getD ((j + 1) % row.length) 0)
theorem seats3_eq {n : Nat} {rows : List (List Int)} (h : Dr n rows) (hn : n ≤ 100000) (hl : rows.length ≤ 100000) : l_seats_3 rows = some (homesL rows) := by
  unfold l_seats_3
  rw [lcm_ok (by omega), bs, sum_flat, rep_one (by rw [h.len]; omega) (by omega), bs]
  rw [show ((rows.flatten.length : Int)).toNat = rows.flatten.length by omega]
  have q := homes_go rows 0 (List.replicate rows.flatten.length 0) (fun e he => by rw [List.length_replicate, h.len]; exact h.in.mp he)
  rw [q, bs]; rfl
end Td

namespace Td
open Ty
def l_cell_2 (script : (List Int)) (k : Int) : Option Int :=
 if ((script.length : Int) = 0) then (pmul 48271 k).bind fun v1 =>
 some (v1 + 5)
 else if (k < (script.length : Int)) then idx script k
 else (pmod k (script.length : Int)).bind fun v3 =>
 (idx script v3).bind fun v4 =>
 (pmul (v4 % 1000033) 39373).bind fun v5 =>
 (pmul 7907 k).bind fun v6 =>
 some (v5 + v6)
end Td

namespace Td
open Ty
def l_draws_2 (cell : Int) (sizes : (List Int)) : Option (List Int) :=
 lt (0 : Int) fun rest =>
 (if (1000000000000000000 ≤ cell) then lt (cell : Int) fun rest =>
 some rest
 else some rest : Option (Int)).bind fun j5 =>
 lt (([] : (List Int)) : (List Int)) fun found =>
 (forO (enu 0 sizes) ((j5, found) : (Int × (List Int))) fun s11 x10 =>
 (if (0 < s11.1) then (pmod s11.1 x10.2).bind fun v14 =>
 (app s11.2 v14).bind fun found =>
 (pdiv s11.1 x10.2).bind fun rest =>
 some (rest, found)
 else (pmul 1009 x10.1).bind fun v23 =>
 (pmul v23 x10.1).bind fun v24 =>
 (pmul 48611 x10.1).bind fun v25 =>
 (ppow ((((cell % 2147483647) + v24) + v25) + 17) 5).bind fun v26 =>
 lt (v26 % 2147483647 : Int) fun mixed =>
 (pmul mixed 48271).bind fun v27 =>
 (pmul 7919 x10.1).bind fun v28 =>
 (pmod ((v27 + v28) % 1000000007) x10.2).bind fun v29 =>
 (app s11.2 v29).bind fun found =>
 some (s11.1, found) : Option (Int × (List Int))).bind fun j33 =>
 some (j33.1, j33.2)).bind fun s36 =>
 some (s36.2)
end Td

namespace Td
open Ty
def l_settled (rows : (List (List Int))) : Option (List (List Int)) :=
 lt (([] : (List (List Int))) : (List (List Int))) fun found =>
 (forO rows (found : ((List (List Int)))) fun s4 x3 =>
 lt (0 : Int) fun at_ =>
 (if (0 < (x3.length : Int)) then (pmin x3).bind fun v11 =>
 (ixOf x3 v11).bind fun at_ =>
 some at_
 else some at_ : Option (Int)).bind fun j13 =>
 (cat (sl x3 (some j13) none) (sl x3 none (some j13))).bind fun v16 =>
 (app s4 v16).bind fun found =>
 some found).bind fun s20 =>
 some (s20)
end Td

namespace Td
open Ty
def l_drawing (script : (List Int)) (base : Int) (most : Int) : Option (List (List Int)) :=
 (Td.l_cell_2 script base).bind fun r3 =>
 (Td.l_draws_2 r3 [most + 1, 4, 4, 60, 60]).bind fun r6 =>
 (un5 r6).bind fun y7 =>
 (Td.l_cell_2 script (base + 1)).bind fun r14 =>
 (pmul 2 y7.1).bind fun v15 =>
 (rng 0 v15).bind fun xs16 =>
 (lcp xs16 (fun x17 : Int => some true) fun x17 => (pmul 2 y7.1).bind fun v20 =>
 some (v20 - x17)).bind fun ys21 =>
 (Td.l_draws_2 r14 ys21).bind fun picks =>
 (Td.l_cell_2 script (base + 2)).bind fun r29 =>
 (idx [2, 3, 5, 40] y7.2.1).bind fun v30 =>
 (pmul 2 y7.1).bind fun v31 =>
 (rep [v30] v31).bind fun v32 =>
 (Td.l_draws_2 r29 v32).bind fun cuts =>
 (pmul 2 y7.1).bind fun v38 =>
 (rng 0 v38).bind fun left =>
 lt (([] : (List (List Int))) : (List (List Int))) fun rows =>
 (pmul 2 y7.1).bind fun v42 =>
 (rng 0 v42).bind fun xs43 =>
 (forO xs43 ((left, rows) : ((List Int) × (List (List Int)))) fun s45 x44 =>
 (idx cuts x44).bind fun v48 =>
 (if ((v48 = 0) ∨ ((s45.2.length : Int) = 0)) then (app s45.2 ([] : (List Int))).bind fun rows =>
 some rows
 else some s45.2 : Option ((List (List Int)))).bind fun j52 =>
 (idx j52 (-1)).bind fun z55 =>
 (idx picks x44).bind fun v56 =>
 (popI s45.1 v56).bind fun r57 => (app z55 r57.1).bind fun z58 =>
 some (r57.2, (setI j52 (-1) z58))).bind fun s61 =>
 (forO (sl [y7.2.2.2.1, y7.2.2.2.2] none (some (max 0 (y7.2.2.1 - 1)))) (s61.2 : ((List (List Int)))) fun s65 x64 =>
 (pmod x64 ((s65.length : Int) + 1)).bind fun v68 =>
 (insI s65 v68 ([] : (List Int))).bind fun rows =>
 some rows).bind fun s75 =>
 Td.l_settled s75
end Td

namespace Td
open Ty
def l_great_2 (cell : Int) : Option (List (List Int)) :=
 (Td.l_draws_2 cell [101, 5, 1000, 4, 3]).bind fun r3 =>
 (un5 r3).bind fun y4 =>
 lt (400 + y4.1 : Int) fun ties =>
 (idx [503, 509, 521, 523] y4.2.2.2.1).bind fun step =>
 (rng 0 (1 + y4.2.1)).bind fun xs14 =>
 (lcm xs14 fun x15 : Int => ([] : (List Int))).bind fun rows =>
 (pmul 2 ties).bind fun v19 =>
 (rng 0 v19).bind fun xs20 =>
 (forO xs20 (rows : ((List (List Int)))) fun s22 x21 =>
 (pmul x21 step).bind fun v27 =>
 (pmul 2 ties).bind fun v28 =>
 (pmod (v27 + y4.2.2.1) v28).bind fun end_ =>
 (pdiv x21 (1 + y4.2.2.2.2)).bind fun v30 =>
 (pmod v30 (s22.length : Int)).bind fun v31 =>
 (idx s22 v31).bind fun z32 =>
 (app z32 end_).bind fun z33 =>
 some (setI s22 v31 z33)).bind fun s36 =>
 Td.l_settled s36
end Td

namespace Td
open Ty
def l_crossed (one : Int) (two : Int) : Option (List (List Int)) :=
 (pmul 2 one).bind fun v3 =>
 (pmul 2 one).bind fun v4 =>
 (pmul 2 (one + two)).bind fun v5 =>
 lt ([[0, v3, v4 - 1, v5 - 1]] : (List (List Int))) fun rows =>
 (((rng 1 one).bind fun xs10 =>
 lcp xs10 (fun x11 : Int => some true) fun x11 => (pmul 2 x11).bind fun v14 =>
 (pmul 2 x11).bind fun v15 =>
 some [v14 - 1, v15]).bind fun ys17 => cat rows ys17).bind fun z18 =>
 (((rng 1 two).bind fun xs21 =>
 lcp xs21 (fun x22 : Int => some true) fun x22 => (pmul 2 one).bind fun v25 =>
 (pmul 2 x22).bind fun v26 =>
 (pmul 2 one).bind fun v27 =>
 (pmul 2 x22).bind fun v28 =>
 some [(v25 + v26) - 1, v27 + v28]).bind fun ys30 => cat z18 ys30).bind fun z31 => some (z31)
end Td

namespace Td
open Ty
theorem perm_of {l L : List Int} (h : l.Nodup) (h2 : L.Nodup) (hs : ∀ x ∈ l, x ∈ L) (hl : L.length ≤ l.length) : l.Perm L := by
  refine (List.perm_ext_iff_of_nodup h h2).mpr fun a => ⟨hs a, fun ha => Decidable.byContradiction fun hn => ?_⟩
  have := nodup_len (l := a :: l) (L := L) (List.nodup_cons.mpr ⟨hn, h⟩) (fun x hx => by
    rcases List.mem_cons.mp hx with e | e
    · rw [e]; exact ha
    · exact hs x e)
  rw [List.length_cons] at this
  omega
theorem span_app {a b c : Int} (h : a ≤ b) (h2 : b ≤ c) : span a c = span a b ++ span b c := by
  obtain ⟨k, rfl⟩ : ∃ k : Nat, c = b + k := ⟨(c - b).toNat, by omega⟩
  induction k with
  | zero => rw [span_nil (a := b) (by omega)]; simp
  | succ k ih =>
    rw [show b + ((k + 1 : Nat) : Int) = (b + k) + 1 by omega, span_succ (by omega), ih (by omega), span_succ (by omega), List.append_assoc]
def crossL (x y : Nat) : List (List Int) := [[0, 2 * ((x : Int) + 1), 2 * ((x : Int) + 1) - 1, 2 * ((x : Int) + 1 + ((y : Int) + 1)) - 1]] ++ ((span 1 ((x : Int) + 1)).map fun z => [0 + 2 * z - 1, 0 + 2 * z]) ++ ((span 1 ((y : Int) + 1)).map fun z => [2 * ((x : Int) + 1) + 2 * z - 1, 2 * ((x : Int) + 1) + 2 * z])
end Td

namespace Td
open Ty
def told (f : Int → Int) (rows : List (List Int)) : List (List Int) := rows.map fun r => least (r.map f)
theorem told_length (f : Int → Int) (rows : List (List Int)) : (told f rows).length = rows.length := by simp [told]
theorem told_flat (f : Int → Int) (rows : List (List Int)) : (told f rows).flatten.Perm (rows.flatten.map f) := by
  have h := least_flat (rows.map fun r => r.map f)
  rw [List.map_map] at h
  refine h.trans (List.Perm.of_eq ?_)
  rw [List.map_flatten]
theorem map_span {f : Int → Int} {n : Nat} (hi : ∀ x, In n x → In n (f x)) (hf : ∀ x y, In n x → In n y → f x = f y → x = y) : ((span 0 n).map f).Perm (span 0 n) := by
  refine perm_of ?_ (span_nodup _ _) (fun x hx => ?_) (by simp)
  · refine List.Pairwise.map _ ?_ (List.Pairwise.and_mem.mp (span_nodup 0 n))
    intro a b ⟨ha, hb, hab⟩ e
    exact hab (hf a b (mem_span.mp ha) (mem_span.mp hb) e)
  · obtain ⟨y, hy, rfl⟩ := List.mem_map.mp hx
    exact mem_span.mpr (hi y (mem_span.mp hy))
theorem Dr.told {n : Nat} {rows : List (List Int)} (h : Dr n rows) {f : Int → Int} (hi : ∀ x, In n x → In n (f x)) (hf : ∀ x y, In n x → In n y → f x = f y → x = y) : Dr n (told f rows) :=
  (told_flat f rows).trans ((List.Perm.map f h).trans (map_span hi hf))
def swp (one two x : Int) : Int := if x = two then one else if x = one then two else x
end Td

namespace Td
open Ty
def nm (names : List Int) (x : Int) : Int := (names[x.toNat]?).getD 0
theorem flatMap_pair_perm (c : Int → Int) (hc : ∀ x, c x = 0 ∨ c x = 1) : ∀ (m : Nat) (xs : List Int), xs.Perm (span 0 m) → (xs.flatMap fun x => [2 * x + c x, 2 * x + 1 - c x]).Perm (span 0 ((2 * m : Nat) : Int)) := fun m xs h => by
  have h1 := List.Perm.flatMap_right (fun x => [2 * x + c x, 2 * x + 1 - c x]) h
  refine h1.trans ?_
  clear h1 h
  induction m with
  | zero => exact List.Perm.refl _
  | succ m ih =>
    rw [show ((m + 1 : Nat) : Int) = (m : Int) + 1 by omega, span_succ (by omega), List.flatMap_append, show ((2 * (m + 1) : Nat) : Int) = ((2 * m : Nat) : Int) + 1 + 1 by omega, span_succ (by omega), span_succ (by omega), List.append_assoc]
    refine ih.append ?_
    simp only [List.flatMap_cons, List.flatMap_nil, List.append_nil, List.singleton_append]
    rw [show ((2 * m : Nat) : Int) = 2 * (m : Int) by omega]
    rcases hc m with e | e <;> rw [e]
    · rw [show 2 * (m : Int) + 0 = 2 * m by omega, show 2 * (m : Int) + 1 - 0 = 2 * m + 1 by omega]
    · rw [show 2 * (m : Int) + 1 - 1 = 2 * m by omega]; exact List.Perm.swap _ _ _
structure Nms (m : Nat) (names : List Int) : Prop where
  perm : names.Perm (span 0 ((2 * m : Nat) : Int))
  mate : ∀ x, In (2 * m) x → nm names (Ty.mate x) = Ty.mate (nm names x)
theorem Nms.length {m : Nat} {names : List Int} (h : Nms m names) : names.length = 2 * m := by
  have := h.perm.length_eq; simp at this; omega
theorem Nms.in {m : Nat} {names : List Int} (h : Nms m names) {x : Int} (hx : In (2 * m) x) : In (2 * m) (nm names x) := by
  have hl := h.length
  have h0 := hx.1; have h1 := hx.2
  have q : x.toNat < names.length := by omega
  unfold nm
  rw [List.getElem?_eq_getElem q]
  exact mem_span.mp (h.perm.mem_iff.mp (List.getElem_mem q))
theorem Nms.inj {m : Nat} {names : List Int} (h : Nms m names) {x y : Int} (hx : In (2 * m) x) (hy : In (2 * m) y) (e : nm names x = nm names y) : x = y := by
  have hl := h.length
  have h0 := hx.1; have h1 := hx.2; have h2 := hy.1; have h3 := hy.2
  have q : x.toNat < names.length := by omega
  have p : y.toNat < names.length := by omega
  have nd : names.Nodup := (h.perm.nodup_iff).mpr (span_nodup _ _)
  unfold nm at e
  rw [List.getElem?_eq_getElem q, List.getElem?_eq_getElem p] at e
  simp only [Option.getD_some] at e
  have := (nd_inj nd).mp e
  omega
theorem nm_idx {m : Nat} {names : List Int} (h : Nms m names) {x : Int} (hx : In (2 * m) x) : idx names x = some (nm names x) := by
  have hl := h.length
  have h0 := hx.1; have h1 := hx.2
  have q : x.toNat < names.length := by omega
  unfold nm
  exact idx_at h0 (by rw [List.getElem?_eq_getElem q]; rfl)
theorem nms_of {m : Nat} {xs cs names : List Int} (hx : xs.Perm (span 0 m)) (hc : cs.length = xs.length) (h01 : ∀ c ∈ cs, c = 0 ∨ c = 1)
    (hn : names = (xs.zip cs).flatMap fun p => [2 * p.1 + p.2, 2 * p.1 + 1 - p.2]) : Nms m names := by
  have hxl : xs.length = m := by have := hx.length_eq; simp at this; omega
  have nd : xs.Nodup := (hx.nodup_iff).mpr (span_nodup _ _)
  refine ⟨?_, ?_⟩
  · -- the choice as a function of the thread
    let c : Int → Int := fun x => (cs[xs.idxOf x]?).getD 0
    have hc01 : ∀ x, c x = 0 ∨ c x = 1 := fun x => by
      show (cs[xs.idxOf x]?).getD 0 = 0 ∨ (cs[xs.idxOf x]?).getD 0 = 1
      cases q : cs[xs.idxOf x]? with
      | none => exact .inl rfl
      | some v => exact h01 v (List.mem_of_getElem? q)
    have e : names = xs.flatMap fun x => [2 * x + c x, 2 * x + 1 - c x] := by
      rw [hn]
      have : xs.zip cs = xs.map fun x => (x, c x) := by
        apply List.ext_getElem
        · simp; omega
        · intro i h1 h2
          have hi : i < xs.length := by simp at h2; exact h2
          rw [zip_getE, List.getElem_map]
          have : c xs[i] = cs[i]'(by omega) := by
            show (cs[xs.idxOf xs[i]]?).getD 0 = _
            rw [nd.idxOf_getElem, List.getElem?_eq_getElem (by omega)]; rfl
          rw [this]
      rw [this, List.flatMap_map]
    rw [e]; exact flatMap_pair_perm c hc01 m xs hx
  · have at2 : ∀ (ps : List (Int × Int)) (k : Nat), (∀ p ∈ ps, p.2 = 0 ∨ p.2 = 1) → k < ps.length → ∃ v, (ps.flatMap fun p => [2 * p.1 + p.2, 2 * p.1 + 1 - p.2])[2 * k]? = some v ∧ (ps.flatMap fun p => [2 * p.1 + p.2, 2 * p.1 + 1 - p.2])[2 * k + 1]? = some (Ty.mate v) := fun ps => by
      induction ps with
      | nil => intro k _ h; simp at h
      | cons p ps ih =>
        intro k hp hk
        rw [List.flatMap_cons]
        cases k with
        | zero =>
          refine ⟨2 * p.1 + p.2, rfl, ?_⟩
          show some (2 * p.1 + 1 - p.2) = _
          congr 1
          unfold Ty.mate
          rcases hp p (List.mem_cons_self ..) with q | q <;> rw [q] <;> omega
        | succ k =>
          obtain ⟨v, e1, e2⟩ := ih k (fun q hq => hp q (List.mem_cons_of_mem _ hq)) (by simpa using hk)
          exact ⟨v, by rw [show 2 * (k + 1) = 2 * k + 1 + 1 by omega]; exact e1, by rw [show 2 * (k + 1) + 1 = 2 * k + 1 + 1 + 1 by omega]; exact e2⟩
    intro x hx'
    have h0 := hx'.1; have h1 := hx'.2
    have hz : ∀ p ∈ xs.zip cs, p.2 = 0 ∨ p.2 = 1 := fun p hp => h01 _ (List.of_mem_zip hp).2
    obtain ⟨v, e1, e2⟩ := at2 (xs.zip cs) (x / 2).toNat hz (by simp; omega)
    rw [← hn] at e1 e2
    unfold nm
    by_cases c : x % 2 = 0
    · have m1 : (Ty.mate x).toNat = 2 * (x / 2).toNat + 1 := by unfold Ty.mate; omega
      have m2 : x.toNat = 2 * (x / 2).toNat := by omega
      rw [m1, m2, e1, e2]; rfl
    · have m1 : (Ty.mate x).toNat = 2 * (x / 2).toNat := by unfold Ty.mate; omega
      have m2 : x.toNat = 2 * (x / 2).toNat + 1 := by omega
      rw [m1, m2, e1, e2]
      simp only [Option.getD_some]
      exact (mate_mate v).symm
end Td

namespace Td
open Ty
theorem even_sum {m : Nat} {rows : List (List Int)} (h : Dr (2 * m) rows) : (rows.map fun r => (r.length : Int)).sum = 2 * (m : Int) := by
  have := h.len
  have e := sum_flat rows
  omega
theorem putI_told {rows : List (List Int)} {g : List Int → List Int} {ps : List Int} {M : Nat} (hM : M = rows.length) (hp : ps.Perm (span 0 M)) {f : List (List Int) → Int × List Int → Option (List (List Int))}
    (hf : ∀ (i : Nat) (hi : i < rows.length) (t : List (List Int)), t.length = M → f t ((i : Int), rows[i]) = ((idx ps (i : Int)).bind fun v => (putI t v (g rows[i])).bind fun told => some told)) :
    ∃ out, forO (enu 0 rows) (List.replicate M []) f = some out ∧ out.Perm (rows.map g) := by
  have hpl : ps.length = M := by have := hp.length_eq; simp at this; omega
  have nd : ps.Nodup := (hp.nodup_iff).mpr (span_nodup _ _)
  have key : Ok (forO (enu 0 rows) (List.replicate M []) f) fun t => t.length = M ∧ ∀ i (hi : i < rows.length), t[(ps[i]'(by omega)).toNat]? = some (g rows[i]) := by
    refine (forO_at (I := fun k t => t.length = M ∧ ∀ i (hi : i < rows.length), i < k → t[(ps[i]'(by omega)).toNat]? = some (g rows[i])) ⟨by simp, by omega⟩ fun k t hk ⟨g1, g2⟩ => ?_).mono fun t ⟨g1, g2⟩ => ⟨g1, fun i hi => g2 i hi (by simp; omega)⟩
    have hk' : k < rows.length := by simpa using hk
    have hr := mem_span.mp (hp.mem_iff.mp (List.getElem_mem (show k < ps.length by omega)))
    rw [enu_getE hk, show ((0 + k : Nat) : Int) = (k : Int) by omega, hf k hk' t g1, idx_nat (by omega), bs, putI_ok hr.1 (by omega), bs]
    refine Ok.ret ⟨by simp [g1], fun i hi hik => ?_⟩
    by_cases c : i = k
    · subst c
      rw [List.getElem?_set_self (by omega)]
    · rw [List.getElem?_set_ne, g2 i hi (by omega)]
      intro e
      have hr2 := mem_span.mp (hp.mem_iff.mp (List.getElem_mem (show i < ps.length by omega)))
      exact c ((nd_inj nd).mp (show ps[i] = ps[k] by omega))
  obtain ⟨t, e, g1, g2⟩ := key
  refine ⟨t, e, ?_⟩
  have e1 : (ps.map fun p => (t[p.toNat]?).getD []) = rows.map g := by
    apply List.ext_getElem
    · simp; omega
    · intro i h1 h2
      have hi : i < rows.length := by simpa using h2
      rw [List.getElem_map, List.getElem_map, g2 i hi]; rfl
  have e2 : ((span 0 M).map fun p => (t[p.toNat]?).getD []) = t := by
    apply List.ext_getElem
    · simp; omega
    · intro i h1 h2
      rw [List.getElem_map, span_getE, show ((0 : Int) + (i : Int)).toNat = i by omega, List.getElem?_eq_getElem h2]; rfl
  rw [← e1, ← e2]
  rw [e2]
  refine (List.Perm.of_eq e2.symm).trans ?_
  exact (hp.map _).symm
theorem named_ok {n : Int} {b : List Int × Int × Int × Int} {m : Nat} {rows : List (List Int)} (h : Bx n b) (hn : n ≤ 50000) (hd : Dr (2 * m) rows) (hm : m ≤ 5000) (hl : rows.length ≤ 10000) :
    Ok (l_named b rows) fun r => Bx (n + m + m + rows.length) r.2 ∧ Nms m r.1.2 ∧ r.1.1.Perm (told (nm r.1.2) rows) := by
  unfold l_named
  rw [lt_eq, lcm_ok (by omega), bs, even_sum hd, show 2 * (m : Int) / 2 = (m : Int) by omega]
  refine (shuffled_ok h (by omega) (by omega)).bind fun r7 ⟨a1, a2⟩ => ?_
  have al : r7.1.length = m := by have := a2.length_eq; simp at this; omega
  refine (forO_ok (fun pre s => Bx (n + m + pre.length) s.1 ∧ ∃ cs : List Int, cs.length = pre.length ∧ (∀ c ∈ cs, c = 0 ∨ c = 1) ∧ s.2 = (pre.zip cs).flatMap fun p => [2 * p.1 + p.2, 2 * p.1 + 1 - p.2]) ⟨by simpa using a1, [], rfl, by simp, rfl⟩ fun pre x post s e ⟨g1, cs, g2, g3, g4⟩ => ?_).bind fun s27 ⟨g1, cs, g2, g3, g4⟩ => ?_
  rotate_left
  · have hx : In m x := mem_span.mp (a2.mem_iff.mp (by rw [e]; simp))
    have pl : pre.length + post.length + 1 = m := by rw [e] at al; simp at al; omega
    have h0 := hx.1; have h1 := hx.2
    have sl2 : ∀ ps : List (Int × Int), (ps.flatMap fun p => [2 * p.1 + p.2, 2 * p.1 + 1 - p.2]).length = 2 * ps.length := fun ps => by
      induction ps with
      | nil => rfl
      | cons p ps ih => rw [List.flatMap_cons, List.length_append, ih]; simp; omega
    have s2l : s.2.length = 2 * pre.length := by rw [g4, sl2]; simp; omega
    refine (take_ok g1 (by omega) (by decide) (by decide)).bind fun r17 ⟨c0, c1, c2⟩ => ?_
    rw [pmul_ok (by decide) (by omega), bs, app_ok (by omega), bs, bs, app_ok (by simp; omega), bs]
    refine Ok.ret ⟨c2.mono (by simp; omega), cs ++ [r17.1], by simp [g2], fun c hc => ?_, ?_⟩
    · rcases List.mem_append.mp hc with q | q
      · exact g3 c q
      · rw [List.mem_singleton.mp q]; omega
    · dsimp only
      rw [g4, List.zip_append (by omega), List.flatMap_append]
      simp
  · have hN : Nms m s27.2 := nms_of a2 (by omega) g3 g4
    refine (shuffled_ok g1 (by omega) (by omega)).bind fun r32 ⟨d1, d2⟩ => ?_
    rw [lcm_ok (by omega), bs]
    have hin : ∀ r ∈ rows, ∀ e ∈ r, In (2 * m) e := fun r hr e he => hd.in.mp (List.mem_flatten.mpr ⟨r, hr, he⟩)
    have hrl : ∀ r ∈ rows, r.length ≤ 10000 := fun r hr => by
      have := hd.len
      have := (List.sublist_flatten_of_mem hr).length_le
      omega
    have er : (rows.map fun _ => ([] : List Int)) = List.replicate rows.length [] := by simp [List.map_const']
    rw [er]
    obtain ⟨out, o1, o2⟩ := putI_told (g := fun r => least (r.map (nm s27.2))) (M := rows.length) rfl d2 (f := fun s41 x40 =>
      (lcp x40.2 (fun x44 : Int => some true) fun x44 => (idx s27.2 x44).bind fun v47 =>
      some v47).bind fun ys48 =>
      (Td.l_least_2 ys48).bind fun r51 =>
      (idx r32.1 x40.1).bind fun v52 =>
      (putI s41 v52 r51).bind fun told =>
      some told) (fun i hi t ht => by
        have hr : rows[i] ∈ rows := List.getElem_mem hi
        have hrl' := hrl _ hr
        dsimp only
        rw [lcp_all (nm s27.2) (by omega) (fun _ _ => rfl) (fun e he => by rw [nm_idx hN (hin _ hr e he), bs]), bs, least2_eq (by simp; omega), bs])
    rw [o1, bs]
    refine Ok.ret ⟨d1.mono (by omega), hN, o2⟩
end Td

namespace Td
open Ty
def l_down (r : Int) (c : Int) (s : Int) (p : Int) : Option Int :=
 if (c ≤ p) then some (p - c)
 else (pmul (r - 1) c).bind fun v1 =>
 (pmod (p - s) c).bind fun v2 =>
 some (v1 + v2)
end Td

namespace Td
open Ty
def l_threes (r : Int) (c : Int) (s : Int) : Option (List (List Int)) :=
 lt (([] : (List (List Int))) : (List (List Int))) fun told =>
 (pmul r c).bind fun v3 =>
 (rng 0 v3).bind fun xs4 =>
 (forO xs4 (told : ((List (List Int)))) fun s6 x5 =>
 (pmod x5 c).bind fun v11 =>
 (pmod x5 c).bind fun v12 =>
 (pmod (v12 - 1) c).bind fun v13 =>
 lt ((x5 - v11) + v13 : Int) fun left =>
 (Td.l_down r c s x5).bind fun down =>
 (Td.l_down r c s left).bind fun back =>
 (pmul 6 x5).bind fun v26 =>
 (pmul 6 x5).bind fun v27 =>
 (pmul 6 x5).bind fun v28 =>
 (pmul 6 down).bind fun v29 =>
 (pmul 6 back).bind fun v30 =>
 (pmul 6 left).bind fun v31 =>
 lt ([v26 + 2, v27 + 4, v28, v29 + 3, v30 + 5, v31 + 1] : (List Int)) fun row =>
 (Td.l_least_2 row).bind fun r34 =>
 (app s6 r34).bind fun told =>
 some told).bind fun s38 =>
 some (s38)
end Td

namespace Td
open Ty
def l_forty (box : ((List Int) × Int × Int × Int)) : Option ((List (List Int)) × ((List Int) × Int × Int × Int)) :=
 ((Td.l_take box 8).bind fun r3 => (idx [1, 2, 4, 5, 8, 10, 20, 40] r3.1).bind fun z6 => some (r3, z6)).bind fun r5 =>
 (pdiv 40 r5.2).bind fun v7 =>
 (pdiv 40 r5.2).bind fun v8 =>
 ((Td.l_take r5.1.2 v8).bind fun r9 => (Td.l_threes r5.2 v7 r9.1).bind fun r13 => some (r9, r13)).bind fun r15 => some (r15.2, r15.1.2)
end Td

namespace Td
open Ty
def dn (r c s p : Int) : Int := if c ≤ p then p - c else (r - 1) * c + (p - s) % c
def lf (c p : Int) : Int := p - p % c + (p % c - 1) % c
end Td

namespace Td
open Ty
end Td

namespace Td
open Ty
def l_forced (ones : (List (List Int))) (others : (List (List Int))) (end_ : Int) (goal : Int) : Option (Option (List Int)) :=
 (Td.l_behind_3 ones).bind fun one =>
 (Td.l_behind_3 others).bind fun other =>
 if ((one.length : Int) ≠ (other.length : Int)) then some (none)
 else lt ([(end_, goal)] : (List (Int × Int))) fun lay =>
 lt ([end_] : (List Int)) fun waiting =>
 aft (whR 100000 ((lay, waiting) : ((List (Int × Int)) × (List Int))) (fun s15 => some (decide ((0 < (s15.2.length : Int))))) fun s15 =>
 (popL s15.2).bind fun r20 =>
 (Td.l_mate r20.1).bind fun r23 =>
 (dget s15.1 r20.1).bind fun v24 =>
 (Td.l_mate v24).bind fun r27 =>
 (idx one r20.1).bind fun v28 =>
 (dget s15.1 r20.1).bind fun v29 =>
 (idx other v29).bind fun v30 =>
 aft (forR [(r23, r27), (v28, v30)] ((s15.1, r20.2) : ((List (Int × Int)) × (List Int))) fun s32 x31 =>
 (if ¬dhas s32.1 x31.1 = true then (dputO s32.1 x31.1 x31.2).bind fun lay =>
 (app s32.2 x31.1).bind fun waiting =>
 some (lay, waiting)
 else some (s32.1, s32.2) : Option ((List (Int × Int)) × (List Int))).bind fun j40 =>
 (dget j40.1 x31.1).bind fun v43 =>
 if (v43 ≠ x31.2) then some (.rt (none))
 else some (.go (j40.1, j40.2))) (fun s44 =>
 some (.go (s44.1, s44.2))) fun r_ => some (Lp.rt r_)) (fun s47 =>
 (rng 0 (one.length : Int)).bind fun xs52 =>
 (lcp xs52 (fun x53 : Int => some true) fun x53 => (dget s47.1 x53).bind fun v56 =>
 some v56).bind fun told =>
 (rng 0 (one.length : Int)).bind fun xs58 =>
 if ((srt told) ≠ xs58) then some (none)
 else some ((some told))) fun r_ => some r_
end Td

namespace Td
open Ty
def Cn (n : Nat) (rows : List (List Int)) : Prop := ∀ S : Int → Prop, (∀ x, In n x → S x → S (mate x)) → (∀ x, In n x → S x → S (nx rows x)) → S 0 → ∀ x, In n x → S x
abbrev FS := List (Int × Int) × List Int
structure FJ (n : Nat) (goal : Int) (s : FS) : Prop where
  nd : (s.1.map (·.1)).Nodup
  ink : ∀ k v, dget s.1 k = some v → In n k ∧ In n v
  wait : ∀ w ∈ s.2, ∃ v, dget s.1 w = some v
  zero : dget s.1 0 = some goal
def fmu (n : Nat) (s : FS) : Nat := s.2.length + (n - s.1.length)
end Td

namespace Td
open Ty
def l_hits (lay : (List Int)) (many : Int) : Option Bool :=
 lt (([] : (List (Int × Bool))) : (List (Int × Bool))) fun hit =>
 aft (forR lay (hit : ((List (Int × Bool)))) fun s4 x3 =>
 (Td.l_whole x3).bind fun r9 =>
 if (¬(r9 = true) ∨ ((x3 < 0) ∨ ((many ≤ x3) ∨ dhas s4 x3 = true))) then some (.rt (false))
 else (dputO s4 x3 true).bind fun hit =>
 some (.go hit)) (fun s12 =>
 some (decide ((lay.length : Int) = many))) fun r_ => some r_
end Td

namespace Td
open Ty
def l_lays (ones : (List (List Int))) (others : (List (List Int))) (lay : (List Int)) : Option Bool :=
 (Td.l_behind_3 ones).bind fun one =>
 (Td.l_behind_3 others).bind fun other =>
 (if ((one.length : Int) ≠ (other.length : Int)) then some true else (Td.l_hits lay (one.length : Int)).bind fun r13 =>
 some (decide (¬(r13 = true)))).bind fun b14 =>
 if b14 = true then some (false)
 else (rng 0 (one.length : Int)).bind fun xs15 =>
 aft (forR xs15 (() : Unit) fun s17 x16 =>
 (Td.l_mate x16).bind fun r22 =>
 (idx lay r22).bind fun v23 =>
 (idx lay x16).bind fun v24 =>
 (Td.l_mate v24).bind fun r27 =>
 (if (v23 ≠ r27) then some true else (idx one x16).bind fun v28 =>
 (idx lay v28).bind fun v29 =>
 (idx lay x16).bind fun v30 =>
 (idx other v30).bind fun v31 =>
 some (decide ((v29 ≠ v31)))).bind fun b32 =>
 if b32 = true then some (.rt (false))
 else some (.go ())) (fun s33 =>
 some (true)) fun r_ => some r_
end Td

namespace Td
open Ty
def p_drain (near : (List (List Int))) (waiting : (List (Int × Bool))) (start : Int) : Option ((List Int) × (List (Int × Bool))) :=
 (ddelO waiting start).bind fun waiting =>
 lt ([start] : (List Int)) fun group =>
 lt (0 : Int) fun at_ =>
 (whO 100000 ((waiting, group, at_) : ((List (Int × Bool)) × (List Int) × Int)) (fun s7 => some (decide ((s7.2.2 < (s7.2.1.length : Int))))) fun s7 =>
 (idx s7.2.1 s7.2.2).bind fun here =>
 (idx near here).bind fun v13 =>
 (forO v13 ((s7.1, s7.2.1) : ((List (Int × Bool)) × (List Int))) fun s15 x14 =>
 (if dhas s15.1 x14 = true then (ddelO s15.1 x14).bind fun waiting =>
 (app s15.2 x14).bind fun group =>
 some (waiting, group)
 else some (s15.1, s15.2) : Option ((List (Int × Bool)) × (List Int))).bind fun j23 =>
 some (j23.1, j23.2)).bind fun s26 =>
 lt (s7.2.2 + 1) fun at_ =>
 some (s26.1, s26.2, at_)).bind fun s31 =>
 some (s31.2.1, s31.1)
end Td

namespace Td
open Ty
def p_groups (near : (List (List Int))) (places : (List Int)) : Option (List (List Int)) :=
 (dcp places (fun x3 : Int => some true) fun x3 => some (x3, true)).bind fun waiting =>
 lt (([] : (List (List Int))) : (List (List Int))) fun found =>
 (forO places ((waiting, found) : ((List (Int × Bool)) × (List (List Int)))) fun s12 x11 =>
 (if dhas s12.1 x11 = true then (Td.p_drain near s12.1 x11).bind fun r15 => (app s12.2 (srt r15.1)).bind fun found =>
 some (r15.2, found)
 else some (s12.1, s12.2) : Option ((List (Int × Bool)) × (List (List Int)))).bind fun j19 =>
 some (j19.1, j19.2)).bind fun s22 =>
 some (s22.2)
end Td

namespace Td
open Ty
def p_orders_of (drawing : (List (List Int))) : Option (List (List Int)) :=
 (Td.p_homes_of drawing).bind fun homes =>
 lcp drawing (fun x6 : (List Int) => some true) fun x6 => (lcp x6 (fun x9 : Int => some true) fun x9 => (Td.p_mate_of x9).bind fun r14 =>
 (idx homes r14).bind fun v15 =>
 some v15).bind fun ys16 =>
 some ys16
end Td

namespace Td
open Ty
def p_parts_of (drawing : (List (List Int))) : Option (List (List Int)) :=
 (Td.p_orders_of drawing).bind fun r3 =>
 (rng 0 (drawing.length : Int)).bind fun xs4 =>
 Td.p_groups r3 xs4
end Td

namespace Td
open Ty
def p_is_one_part (drawing : (List (List Int))) : Option Bool :=
 (Td.p_parts_of drawing).bind fun r3 =>
 some (decide ((r3.length : Int) = 1))
end Td

namespace Td
open Ty
def p_is_laying (one : (List (List Int))) (two : (List (List Int))) (lay : (List Int)) : Option Bool :=
 (Td.p_is_one_part one).bind fun r3 =>
 (if ¬(r3 = true) then some true else (Td.p_is_one_part two).bind fun r6 =>
 some (decide (¬(r6 = true)))).bind fun b7 =>
 if b7 = true then some (false)
 else (Td.p_behind_of one).bind fun behind =>
 (Td.p_behind_of two).bind fun beyond =>
 (if ((behind.length : Int) ≠ (beyond.length : Int)) then some true else (rng 0 (beyond.length : Int)).bind fun xs18 =>
 some (decide (((srt lay) ≠ xs18)))).bind fun b19 =>
 if b19 = true then some (false)
 else aft (forR (enu 0 lay) (() : Unit) fun s21 x20 =>
 (Td.p_mate_of x20.1).bind fun r26 =>
 (idx lay r26).bind fun v27 =>
 (Td.p_mate_of x20.2).bind fun r30 =>
 (if (v27 ≠ r30) then some true else (idx behind x20.1).bind fun v31 =>
 (idx lay v31).bind fun v32 =>
 (idx beyond x20.2).bind fun v33 =>
 some (decide ((v32 ≠ v33)))).bind fun b34 =>
 if b34 = true then some (.rt (false))
 else some (.go ())) (fun s35 =>
 some (true)) fun r_ => some r_
end Td

namespace Td
open Ty
def LL (n : Nat) (one two : List (List Int)) (lay : List Int) : Prop := lay.Perm (span 0 n) ∧ ∀ x, In n x → nm lay (mate x) = mate (nm lay x) ∧ nm lay (nx one x) = nx two (nm lay x)
end Td

namespace Td
open Ty
end Td

namespace Td
open Ty
def nr (near : List (List Int)) (y : Int) : List Int := (near[y.toNat]?).getD []
def Cl (near : List (List Int)) (N : Nat) (S : Int → Prop) : Prop := ∀ y, In N y → S y → ∀ z ∈ nr near y, S z
structure DB (near : List (List Int)) (N : Nat) (W : List (Int × Bool)) (start : Int) (w : List (Int × Bool)) (g : List Int) : Prop where
  len : g.length + w.length = W.length
  sub : ∀ y, dhas w y = true → dhas W y = true
  cov : ∀ y, dhas W y = true → dhas w y = true ∨ y ∈ g
  out : ∀ y ∈ g, In N y ∧ dhas w y = false
  cl : ∀ S : Int → Prop, Cl near N S → S start → ∀ y ∈ g, S y
  st : start ∈ g
  nd : (w.map (·.1)).Nodup
end Td

namespace Td
open Ty
def OP (n : Nat) (rows : List (List Int)) : Prop := 0 < rows.length ∧ ∀ S : Int → Prop, (∀ x, In n x → S (hm rows x) → S (hm rows (mate x))) → S 0 → ∀ i, In rows.length i → S i
def ord (rows : List (List Int)) : List (List Int) := rows.map fun row => row.map fun e => hm rows (mate e)
end Td

namespace Td
open Ty
def l_part_count (rows : (List (List Int))) : Option Int :=
 (Td.l_seats_3 rows).bind fun seats =>
 (rng 0 (rows.length : Int)).bind fun part =>
 (rng 0 ((seats.length : Int) / 2)).bind fun xs9 =>
 (forO xs9 (part : ((List Int))) fun s11 x10 =>
 (pmul 2 x10).bind fun v16 =>
 (idx seats v16).bind fun v17 =>
 (idx s11 v17).bind fun one =>
 (pmul 2 x10).bind fun v21 =>
 (idx seats (v21 + 1)).bind fun v22 =>
 (idx s11 v22).bind fun two =>
 (if (one ≠ two) then (lcm s11 fun x26 : Int => if (x26 = two) then one else x26).bind fun part =>
 some part
 else some s11 : Option ((List Int))).bind fun j30 =>
 some j30).bind fun s33 =>
 dist s33
end Td

namespace Td
open Ty
def Cs (n : Nat) (rows : List (List Int)) (S : Int → Prop) : Prop := ∀ x, In n x → S (hm rows x) → S (hm rows (mate x))
end Td

namespace Td
open Ty
def l_well_2 (one : (List (List Int))) (two : (List (List Int))) (lay : (List Int)) : Option Bool :=
 (lcm one fun x3 : (List Int) => x3).bind fun ys6 =>
 (lcm two fun x7 : (List Int) => x7).bind fun ys10 =>
 lt ((ys6, ys10, lay) : ((List (List Int)) × (List (List Int)) × (List Int))) fun kept =>
 (Td.l_part_count one).bind fun r15 =>
 (if (r15 = 1) then (Td.l_part_count two).bind fun r18 =>
 (if (r18 = 1) then (Td.l_lays one two lay).bind fun r21 =>
 some (decide (r21 = true)) else some false).bind fun b22 =>
 some b22 else some false).bind fun due =>
 (Td.p_is_laying one two lay).bind fun told =>
 some (decide (True ∧ ((told = due) ∧ ((one, two, lay) = kept))))
end Td

namespace Td
open Ty
def l_spoilt_4 (box : ((List Int) × Int × Int × Int)) (way : Int) (rows : (List (List Int))) : Option ((List (List Int)) × ((List Int) × Int × Int × Int)) :=
 (lcm rows fun x3 : (List Int) => (x3.length : Int)).bind fun ys6 =>
 lt (ys6.sum : Int) fun many =>
 (Td.l_take box (max 1 many)).bind fun r9 =>
 (Td.l_take r9.2 (max 1 many)).bind fun r13 =>
 (if ((0 < many) ∧ (way = 1)) then (Td.l_behind_3 rows).bind fun r19 =>
 (idx r19 r9.1).bind fun two =>
 some two
 else some r13.1 : Option (Int)).bind fun j21 =>
 (if ((0 < many) ∧ ((way = 1) ∨ (way = 2))) then (Td.l_exchanged rows r9.1 j21).bind fun rows =>
 some rows
 else some rows : Option ((List (List Int)))).bind fun j29 =>
 (if (way = 3) then (Td.l_grown_3 r13.2 ((j29.length : Int) - 1) (((many / 2) - (j29.length : Int)) + 1)).bind fun r34 =>
 some (r34.2, r34.1)
 else some (r13.2, j29) : Option (((List Int) × Int × Int × Int) × (List (List Int)))).bind fun j36 =>
 (if (way = 4) then (((Td.l_take j36.1 5).bind fun r41 => (Td.l_take r41.2 5).bind fun r45 => some (r41, r45)).bind fun r49 => Td.l_grown_3 r49.2.2 r49.1.1 r49.2.1).bind fun r50 =>
 some (r50.2, r50.1)
 else some (j36.1, j36.2) : Option (((List Int) × Int × Int × Int) × (List (List Int)))).bind fun j52 =>
 (if (way = 5) then (cat j52.2 [([] : (List Int))]).bind fun rows =>
 some rows
 else some j52.2 : Option ((List (List Int)))).bind fun j58 =>
 (if (way = 6) then (lcp j58 (fun x63 : (List Int) => some true) fun x63 => (lcm x63 fun x66 : Int => x66 + many).bind fun ys69 =>
 some ys69).bind fun ys70 =>
 (cat j58 ys70).bind fun rows =>
 some rows
 else some j58 : Option ((List (List Int)))).bind fun j72 =>
 (if (way = 7) then lt (([] : (List (List Int))) : (List (List Int))) fun rows =>
 some rows
 else some j72 : Option ((List (List Int)))).bind fun j77 =>
 (if (way = 8) then lt ([([] : (List Int))] : (List (List Int))) fun rows =>
 some rows
 else some j77 : Option ((List (List Int)))).bind fun j82 =>
 (if (way = 9) then (lcp j82 (fun x87 : (List Int) => some true) fun x87 => (slS x87 none none (-1)).bind fun ys90 =>
 (Td.l_least_2 ys90).bind fun r93 =>
 some r93).bind fun rows =>
 some rows
 else some j82 : Option ((List (List Int)))).bind fun j95 =>
 some (j95, j52.1)
end Td

namespace Td
open Ty
def l_bent (box : ((List Int) × Int × Int × Int)) (bend : Int) (lay : (List Int)) (many : Int) : Option ((List Int) × ((List Int) × Int × Int × Int)) :=
 (Td.l_take box (max 1 (lay.length : Int))).bind fun r3 =>
 (Td.l_take r3.2 (max 1 (lay.length : Int))).bind fun r7 =>
 (Td.l_take r7.2 (many + 3)).bind fun r11 =>
 if (bend = 1) then (cat (sl lay none (some r3.1)) [r11.1 - 1]).bind fun v15 =>
 (cat v15 (sl lay (some (r3.1 + 1)) none)).bind fun v16 =>
 some (v16, r11.2)
 else if (bend = 2) then (cat (sl lay none (some r3.1)) (sl lay (some (r3.1 + 1)) none)).bind fun v17 =>
 some (v17, r11.2)
 else if (bend = 3) then (cat (sl lay none (some r3.1)) (sl lay (some r3.1) (some (r3.1 + 1)))).bind fun v18 =>
 (cat v18 (sl lay (some r3.1) none)).bind fun v19 =>
 some (v19, r11.2)
 else if (bend = 4) then (lcp (sl lay (some r3.1) (some (r3.1 + 1))) (fun x20 : Int => some true) fun x20 => (Td.l_mate x20).bind fun r25 =>
 some r25).bind fun ys26 =>
 (cat (sl lay none (some r3.1)) ys26).bind fun v27 =>
 (cat v27 (sl lay (some (r3.1 + 1)) none)).bind fun v28 =>
 some (v28, r11.2)
 else if ((bend = 5) ∧ (0 < (lay.length : Int))) then lt (lay : (List Int)) fun moved =>
 (idx lay r7.1).bind fun v31 =>
 (putI moved r3.1 v31).bind fun moved =>
 (idx lay r3.1).bind fun v35 =>
 (putI moved r7.1 v35).bind fun moved =>
 some (moved, r11.2)
 else if (bend = 6) then (cat lay [r11.1 - 1]).bind fun v41 =>
 some (v41, r11.2)
 else if (bend = 7) then (((Td.l_take r11.2 6).bind fun r44 => (rng 0 r44.1).bind fun xs43 => some (r44, xs43)).bind fun r42 => (lce r42.2 (r42.1.2 : ((List Int) × Int × Int × Int)) (fun s46 (x47 : Int) => some true) fun s46 x47 => (Td.l_take s46 (many + 2)).bind fun r50 => some (r50.1 - 1, r50.2)).bind fun r54_ => some (r42, r54_)).bind fun r54 => some (r54.2.1, r54.2.2)
 else if (bend = 8) then (cat (sl lay none (some r3.1)) [10000000000000000000000000000000000000000 + (r11.1 - 1)]).bind fun v57 =>
 (cat v57 (sl lay (some (r3.1 + 1)) none)).bind fun v58 =>
 some (v58, r11.2)
 else if (bend = 9) then lt (r3.1 - (r3.1 % 2) : Int) fun at_ =>
 (((Td.l_take r11.2 4).bind fun r63 => (idx [0, 1, 2, 10000000000000000000000000000000000000000] r63.1).bind fun z66 => some (r63, z66)).bind fun r65 => (pmul 2 r65.2).bind fun w68 => some (r65, w68)).bind fun r67 =>
 ((Td.l_take r67.1.1.2 2).bind fun r71 => (idx [many + r67.2, (0 - r67.2) - 2] r71.1).bind fun z74 => some (r71, z74)).bind fun r73 =>
 (cat (sl lay none (some at_)) [r73.2, r73.2 + 1]).bind fun v75 =>
 (cat v75 (sl lay (some (at_ + 2)) none)).bind fun v76 =>
 some (v76, r73.1.2)
 else some (lay, r11.2)
end Td

namespace Td
open Ty
end Td

namespace Td
open Ty
end Td

namespace Td
open Ty
def Fit (a b : Nat) (rows : List (List Int)) : Prop := ∃ m, Dr (2 * m) rows ∧ m ≤ a ∧ rows.length ≤ b
end Td

namespace Td
open Ty
def Jn (n : Nat) (rows : List (List Int)) : Prop := ∀ S : Int → Prop, (∀ x, In n x → S x → S (mate x)) → (∀ row ∈ rows, ∀ x ∈ row, ∀ y ∈ row, S x → S y) → S 0 → ∀ x, In n x → S x
end Td

namespace Td
open Ty
def CnE (n : Nat) (rows : List (List Int)) (e : Int) : Prop := ∀ S : Int → Prop, (∀ x, In n x → S x → S (mate x)) → (∀ x, In n x → S x → S (nx rows x)) → S e → ∀ x, In n x → S x
end Td

namespace Td
open Ty
def p_lay_from_2 (behind : (List Int)) (beyond : (List Int)) (end_ : Int) (goal : Int) : Option (Option (List Int)) :=
 if ((behind.length : Int) ≠ (beyond.length : Int)) then some (none)
 else lt ([(end_, goal)] : (List (Int × Int))) fun lay =>
 lt ([end_] : (List Int)) fun line =>
 lt (0 : Int) fun at_ =>
 aft (whR 100000 ((lay, line, at_) : ((List (Int × Int)) × (List Int) × Int)) (fun s7 => some (decide ((s7.2.2 < (s7.2.1.length : Int))))) fun s7 =>
 (idx s7.2.1 s7.2.2).bind fun here =>
 (dget s7.1 here).bind fun there =>
 (Td.p_mate_of here).bind fun r18 =>
 (Td.p_mate_of there).bind fun r21 =>
 (idx behind here).bind fun v22 =>
 (idx beyond there).bind fun v23 =>
 aft (forR [((r18, r21), (v22, v23)).1, ((r18, r21), (v22, v23)).2] ((s7.1, s7.2.1) : ((List (Int × Int)) × (List Int))) fun s25 x24 =>
 if ¬dhas s25.1 x24.1 = true then (dputO s25.1 x24.1 x24.2).bind fun lay =>
 (app s25.2 x24.1).bind fun line =>
 some (.go (lay, line))
 else (dget s25.1 x24.1).bind fun v33 =>
 if (v33 ≠ x24.2) then some (.rt (none))
 else some (.go (s25.1, s25.2))) (fun s34 =>
 lt (s7.2.2 + 1) fun at_ =>
 some (.go (s34.1, s34.2, at_))) fun r_ => some (Lp.rt r_)) (fun s39 =>
 (rng 0 (behind.length : Int)).bind fun xs42 =>
 (lcp xs42 (fun x43 : Int => some true) fun x43 => (dget s39.1 x43).bind fun v46 =>
 some v46).bind fun ys47 =>
 some ((some ys47))) fun r_ => some r_
end Td

namespace Td
open Ty
def LG (n : Nat) (one two : List (List Int)) (e goal : Int) (L : List Int) : Prop := LL n one two L ∧ nm L e = goal
structure GJ (n : Nat) (one two : List (List Int)) (e goal : Int) (s : FS) : Prop where
  nd : (s.1.map (·.1)).Nodup
  ink : ∀ k v, dget s.1 k = some v → In n k ∧ In n v
  wait : ∀ w ∈ s.2, ∃ v, dget s.1 w = some v
  zero : dget s.1 e = some goal
  tru : ∀ L, LG n one two e goal L → ∀ k v, dget s.1 k = some v → nm L k = v
variable {n : Nat} {one two : List (List Int)} {e goal : Int}
def GS (n : Nat) (one two : List (List Int)) (e goal a b : Int) (s : FS) (r : Lp FS (Option (List Int))) : Prop := match r with
   | .go s' => GJ n one two e goal s' ∧ (∀ j v, dget s.1 j = some v → dget s'.1 j = some v) ∧ dget s'.1 a = some b ∧ (∀ k v, dget s'.1 k = some v → k ∉ s'.2 → dget s.1 k = some v ∧ k ∉ s.2) ∧ fmu n s' ≤ fmu n s ∧ (∃ l, s'.2 = s.2 ++ l) ∧ (s.1.map (·.1) = s.2 → s'.1.map (·.1) = s'.2)
   | .br _ => False
   | .rt v => v = none ∧ ∀ L, ¬LG n one two e goal L
theorem perm_cov : ∀ {l L : List Int}, l.Nodup → (∀ x ∈ l, x ∈ L) → L.length ≤ l.length → l.Perm L
  | [], L, _, _, h => by rw [List.length_eq_zero_iff.mp (Nat.le_zero.mp h)]
  | x :: l, L, nd, hs, h => by
    rw [List.nodup_cons] at nd
    have hx := hs x (List.mem_cons_self ..)
    have p := List.perm_cons_erase hx
    have q := p.length_eq
    simp only [List.length_cons] at q h
    refine (List.Perm.cons x (perm_cov nd.2 (fun y hy => ?_) (by omega))).trans p.symm
    rcases List.mem_cons.mp (p.mem_iff.mp (hs y (List.mem_cons_of_mem _ hy))) with z | z
    · exact absurd (z ▸ hy) nd.1
    · exact z
end Td

namespace Td
open Ty
end Td

namespace Td
open Ty
theorem rot_get {L : List Int} {a k : Nat} (ha : a ≤ L.length) (hk : k < L.length) : (L.drop a ++ L.take a)[k]? = L[(a + k) % L.length]? := by
  by_cases q : a + k < L.length
  · rw [List.getElem?_append_left (by simp; omega), List.getElem?_drop, Nat.mod_eq_of_lt q]
  · rw [List.getElem?_append_right (by simp; omega), List.length_drop, List.getElem?_take_of_lt (by omega), Nat.mod_eq_sub_mod (by omega), Nat.mod_eq_of_lt (by omega)]
    congr 1; omega
theorem nx_rot {n : Nat} {rows rows2 : List (List Int)} {f : Int → Int} (h : Dr n rows) (h2 : Dr n rows2) {row R : List Int} (hr : row ∈ rows) (hR : R ∈ rows2) {a : Nat} (ha : a ≤ row.length) (e : R = (row.map f).drop a ++ (row.map f).take a) {x : Int} (hx : x ∈ row) : nx rows2 (f x) = f (nx rows x) := by
  obtain ⟨j, hj, ej⟩ := List.getElem_of_mem hx
  have hl : R.length = row.length := by rw [e]; simp; omega
  have g : ∀ k, k < row.length → ∀ hk : k < R.length, R[k] = f (row[(a + k) % row.length]'(Nat.mod_lt _ (by omega))) := fun k hk hk' => by
    have q := rot_get (L := row.map f) (a := a) (k := k) (by simpa using ha) (by simpa using hk)
    rw [← e, List.getElem?_eq_getElem hk', List.length_map, List.getElem?_map, List.getElem?_eq_getElem (Nat.mod_lt _ (by omega))] at q
    exact Option.some.inj q
  have hk : (j + row.length - a) % row.length < R.length := by rw [hl]; exact Nat.mod_lt _ (by omega)
  have e1 := g _ (by omega) hk
  have m1 : (a + (j + row.length - a) % row.length) % row.length = j := by
    rw [Nat.add_mod_mod, show a + (j + row.length - a) = j + row.length by omega, Nat.add_mod_right, Nat.mod_eq_of_lt hj]
  simp only [m1] at e1
  have e2 := nx_row h2 hR hk
  have m3 : ((j + row.length - a) % row.length + 1) % R.length < R.length := Nat.mod_lt _ (by omega)
  rw [g _ (by omega) m3] at e2
  have m2 : (a + ((j + row.length - a) % row.length + 1) % R.length) % row.length = (j + 1) % row.length := by
    rw [hl, Nat.mod_add_mod, Nat.add_mod_mod, show a + (j + row.length - a + 1) = j + 1 + row.length by omega, Nat.add_mod_right]
  simp only [m2] at e2
  rw [e1, ej] at e2
  rw [e2]
  have e3 := nx_row h hr hj
  rw [ej] at e3
  rw [e3]
end Td

namespace Td
open Ty
def l_lands_3 (rows : (List (List Int))) : Option (List (List Int)) :=
 (Td.l_behind_3 rows).bind fun behind =>
 lt (([] : (List (Int × Bool))) : (List (Int × Bool))) fun seen =>
 lt (([] : (List (List Int))) : (List (List Int))) fun told =>
 (rng 0 (behind.length : Int)).bind fun xs10 =>
 (forO xs10 ((seen, told) : ((List (Int × Bool)) × (List (List Int)))) fun s12 x11 =>
 (if ¬dhas s12.1 x11 = true then lt (([] : (List Int)) : (List Int)) fun land =>
 lt (x11 : Int) fun step =>
 (whO 100000 ((s12.1, land, step) : ((List (Int × Bool)) × (List Int) × Int)) (fun s19 => some (decide (¬dhas s19.1 s19.2.2 = true))) fun s19 =>
 (dputO s19.1 s19.2.2 true).bind fun seen =>
 (app s19.2.1 s19.2.2).bind fun land =>
 (Td.l_mate s19.2.2).bind fun r31 =>
 (idx behind r31).bind fun step =>
 some (seen, land, step)).bind fun s33 =>
 (app s12.2 s33.2.1).bind fun told =>
 some (s33.1, told)
 else some (s12.1, s12.2) : Option ((List (Int × Bool)) × (List (List Int)))).bind fun j39 =>
 some (j39.1, j39.2)).bind fun s42 =>
 ((lcp rows (fun x47 : (List Int) => some (decide (((x47.length : Int) = 0)))) fun x47 => some ([] : (List Int))).bind fun ys51 => cat s42.2 ys51).bind fun z52 => some (z52)
end Td

namespace Td
open Ty
end Td

namespace Td
open Ty
def l_mirrored (rows : (List (List Int))) : Option (List (List Int)) :=
 lcp rows (fun x1 : (List Int) => some true) fun x1 => (slS x1 none none (-1)).bind fun ys4 =>
 (Td.l_least_2 ys4).bind fun r7 =>
 some r7
end Td

namespace Td
open Ty
variable {m : Nat} {rows : List (List Int)}
def mir (rows : List (List Int)) : List (List Int) := rows.map fun r => least r.reverse
variable {two : List (List Int)} {e g : Int} {L : List Int}
end Td

namespace Td
open Ty
structure RO (f : Int → Int) (n : Nat) (k : Int) (ls : List (List Int)) : Prop where
  rf : RF f n ls
  hd : ∀ l ∈ ls, ∃ x t, l = x :: t ∧ In n x ∧ x < k ∧ l = ring f n x ∧ ∀ y ∈ l, x ≤ y
  up : ls.Pairwise fun a b => ∀ x ∈ a.head?, ∀ y ∈ b.head?, x < y
  cov : ∀ x, In n x → x < k → x ∈ ls.flatten
end Td

namespace Td
open Ty
def p_laid_out (steps : (List (List Int))) (clock : (List Int)) : Option (List (List Int)) :=
 lt ((clock.length : Int) : Int) fun size =>
 (idx steps 0).bind fun v5 =>
 (lcp v5 (fun x6 : Int => some true) fun x6 => (rep [0] size).bind fun v9 =>
 some v9).bind fun slots =>
 (forO (enu 0 steps) (slots : ((List (List Int)))) fun s12 x11 =>
 (forO (enu 0 x11.2) (s12 : ((List (List Int)))) fun s16 x15 =>
 (pmul size x15.1).bind fun v21 =>
 (pmul 2 x11.1).bind fun v22 =>
 lt (v21 + v22 : Int) fun even =>
 (idx s16 x15.1).bind fun z23 =>
 (pmul 2 x11.1).bind fun v24 =>
 (putI z23 v24 even).bind fun z25 =>
 (idx (setI s16 x15.1 z25) x15.2).bind fun z28 =>
 (pmul 2 x11.1).bind fun v29 =>
 (putI z28 (v29 + 1) (even + 1)).bind fun z30 =>
 some (setI (setI s16 x15.1 z25) x15.2 z30)).bind fun s33 =>
 some s33).bind fun s36 =>
 lcp s36 (fun x39 : (List Int) => some true) fun x39 => (lcp clock (fun x42 : Int => some true) fun x42 => (idx x39 x42).bind fun v45 =>
 some v45).bind fun ys46 =>
 (Td.p_begun_least ys46).bind fun r49 =>
 some r49
end Td

namespace Td
open Ty
def p_rights_of (rows : Int) (columns : Int) : Option (List Int) :=
 (rng 0 rows).bind fun xs1 =>
 lcq xs1 (fun x2 : Int => some true) fun x2 => (rng 0 columns).bind fun xs5 =>
 lcO (fun x6 : Int => some true) (fun x6 => (pmul x2 columns).bind fun v9 =>
 (pmod (x6 + 1) columns).bind fun v10 =>
 some (v9 + v10)) xs5
end Td

namespace Td
open Ty
def p_uppers_of (rows : Int) (columns : Int) (shift : Int) : Option (List Int) :=
 (pmul (rows - 1) columns).bind fun v3 =>
 (rng 0 v3).bind fun xs4 =>
 (lcm xs4 fun x5 : Int => x5 + columns).bind fun inner =>
 (rng 0 columns).bind fun xs9 =>
 (lcp xs9 (fun x10 : Int => some true) fun x10 => (pmod (x10 + shift) columns).bind fun v13 =>
 some v13).bind fun ys14 =>
 cat inner ys14
end Td

namespace Td
open Ty
def p_are_numbers (rows : Int) (columns : Int) (shift : Int) : Option Bool :=
 some (decide ((1 ≤ rows) ∧ ((1 ≤ columns) ∧ (0 ≤ shift ∧ shift < columns))))
end Td

namespace Td
open Ty
def p_check_numbers (rows : Int) (columns : Int) (shift : Int) : Option (Rx Unit) :=
 (Td.p_are_numbers rows columns shift).bind fun r3 =>
 if ¬(r3 = true) then some (Rx.ex "NoNumbers")
 else (pmul rows columns).bind fun v4 =>
 if (40 < v4) then (fb [40]).bind fun _ => some (Rx.ex "NoNumbers")
 else some (Rx.ok (()))
end Td

namespace Td
open Ty

def beg (xs : List Int) : List Int := match xs.min? with
  | none => []
  | some m => xs.drop (xs.idxOf m) ++ xs.take (xs.idxOf m)
theorem beg_ok {xs : List Int} (hl : xs.length ≤ 16777216) (h : xs ≠ []) : ((pmin xs).bind fun v => (ixOf xs v).bind fun a => cat (sl xs (some a) none) (sl xs none (some a))) = some (beg xs) := by
  unfold beg pmin
  cases hm : xs.min? with
  | none => exact absurd (List.min?_eq_none_iff.mp hm) h
  | some m =>
    have hx := (List.min?_eq_some_iff.mp hm).1
    have hi := List.idxOf_lt_length_of_mem hx
    rw [bs, ixOf_ok hx, bs, sl_hi (by omega), sl_lo (by omega), Int.toNat_natCast, cat_ok (by rw [List.length_drop, List.length_take]; omega)]
theorem least2_ok {xs : List Int} (hl : xs.length ≤ 16777216) : l_least_2 xs = some (beg xs) := by
  unfold l_least_2
  by_cases h : xs = []
  · subst h; rfl
  · rw [if_neg (by have := List.length_pos_iff.mpr h; omega)]; exact beg_ok hl h

def tab (n m : Nat) (g : Nat → Nat → Int) : List (List Int) := (List.range n).map fun q => (List.range m).map (g q)
@[simp] theorem tab_len {n m : Nat} {g : Nat → Nat → Int} : (tab n m g).length = n := by simp [tab]
structure Stp (n : Nat) (goals : List Int) (inv : Nat → Nat) : Prop where
  len : goals.length = n
  lt : ∀ q < n, inv q < n
  to : ∀ q < n, goals[inv q]? = some (q : Int)
  un : ∀ p < n, ∃ q, q < n ∧ goals[p]? = some (q : Int) ∧ inv q = p
def sv (size : Nat) (inv : Nat → Nat → Nat) (t : Nat) (q k : Nat) : Int := if k < 2 * t then (if k % 2 = 0 then ((size * q + k : Nat) : Int) else ((size * inv (k / 2) q + k : Nat) : Int)) else 0
def sw (size : Nat) (inv : Nat → Nat → Nat) (t m : Nat) (q k : Nat) : Int :=
  if k = 2 * t then (if q < m then ((size * q + k : Nat) : Int) else 0) else if k = 2 * t + 1 then (if inv t q < m then ((size * inv t q + k : Nat) : Int) else 0) else sv size inv t q k
end Td

namespace Td
open Ty
def l_numbers (box : ((List Int) × Int × Int × Int)) : Option ((Int × Int × Int) × ((List Int) × Int × Int × Int)) :=
 (Td.l_take box 6).bind fun r3 =>
 (if (r3.1 = 0) then ((Td.l_take r3.2 8).bind fun r7 => (idx [1, 2, 4, 5, 8, 10, 20, 40] r7.1).bind fun z10 => some (r7, z10)).bind fun r9 =>
 (pdiv 40 r9.2).bind fun c =>
 some (r9.1.2, r9.2, c)
 else (idx [3, 6, 12, 40, 7] (r3.1 - 1)).bind fun v16 =>
 (Td.l_take r3.2 v16).bind fun r17 =>
 (pdiv 40 (1 + r17.1)).bind fun v21 =>
 (Td.l_take r17.2 v21).bind fun r22 =>
 ((Td.l_take r22.2 2).bind fun r24 => (if r24.1 = 1 then lt ((1 + r22.1, 1 + r17.1) : (Int × Int)) fun y30 =>
 some (r24.2, y30.1, y30.2)
 else some (r24.2, 1 + r17.1, 1 + r22.1) : Option (((List Int) × Int × Int × Int) × Int × Int))).bind fun j33 =>
 some (j33.1, j33.2.1, j33.2.2) : Option (((List Int) × Int × Int × Int) × Int × Int)).bind fun j36 =>
 (Td.l_take j36.1 j36.2.2).bind fun r39 => some ((j36.2.1, j36.2.2, r39.1), r39.2)
end Td

namespace Td
open Ty
def l_spoilt_2 (box : ((List Int) × Int × Int × Int)) (r : Int) (c : Int) (s : Int) : Option ((Int × Int × Int) × ((List Int) × Int × Int × Int)) :=
 (((Td.l_take box 2).bind fun r3 => (pmul r3.1 10000000000000000000000000000000000000000).bind fun w8 => some (r3, w8)).bind fun r7 => ((Td.l_take r7.1.2 1000000000000000000).bind fun r11 => (Td.l_take r11.2 3).bind fun r15 => (pmul r11.1 r15.1).bind fun w18 => some ((r11, r15), w18)).bind fun r17 => some (r7, r17)).bind fun r19 =>
 (Td.l_take r19.2.1.2.2 6).bind fun r22 =>
 (if (r22.1 = 0) then lt (0 - (r19.1.2 + r19.2.2) : Int) fun r =>
 some r
 else some r : Option (Int)).bind fun j26 =>
 (if (r22.1 = 1) then lt (0 - (r19.1.2 + r19.2.2) : Int) fun c =>
 some c
 else some c : Option (Int)).bind fun j31 =>
 (if (r22.1 = 2) then lt ((-1) - (r19.1.2 + r19.2.2) : Int) fun s =>
 some s
 else some s : Option (Int)).bind fun j36 =>
 (if (r22.1 = 3) then lt (j31 + (r19.1.2 + r19.2.2) : Int) fun s =>
 some s
 else some j36 : Option (Int)).bind fun j41 =>
 (if (r22.1 = 4) then (pdiv 40 (max 1 j31)).bind fun v46 =>
 lt ((v46 + 1) + (r19.1.2 + r19.2.2) : Int) fun r =>
 some r
 else some j26 : Option (Int)).bind fun j47 =>
 (if (r22.1 = 5) then (pdiv 40 (max 1 j47)).bind fun v52 =>
 lt ((v52 + 1) + (r19.1.2 + r19.2.2) : Int) fun c =>
 some c
 else some j31 : Option (Int)).bind fun j53 =>
 some ((j47, j53, j41), r22.2)
end Td

namespace Td
open Ty

theorem dm {c i j : Nat} (h : j < c) : (i * c + j) / c = i ∧ (i * c + j) % c = j := by
  have hc : 0 < c := by omega
  rw [Nat.mul_comm]
  exact ⟨by rw [Nat.mul_add_div hc, Nat.div_eq_of_lt h, Nat.add_zero], by rw [Nat.mul_add_mod, Nat.mod_eq_of_lt h]⟩
theorem dmE {c q : Nat} (h : 0 < c) : ∃ i j, q = i * c + j ∧ j < c ∧ q / c = i ∧ q % c = j := ⟨q / c, q % c, by rw [Nat.mul_comm]; exact (Nat.div_add_mod q c).symm, Nat.mod_lt _ h, rfl, rfl⟩
def rgt (c q : Nat) : Nat := q / c * c + (q % c + 1) % c
def rgtI (c q : Nat) : Nat := q / c * c + (q % c + (c - 1)) % c
def upp (r c s q : Nat) : Nat := if q < (r - 1) * c then q + c else (q - (r - 1) * c + s) % c
def uppI (r c s q : Nat) : Nat := if q < c then (r - 1) * c + (q + (c - s)) % c else q - c
theorem md_back {c j s : Nat} (hj : j < c) (hs : s < c) : ((j + (c - s)) % c + s) % c = j := by
  by_cases h : s ≤ j
  · rw [show j + (c - s) = (j - s) + c by omega, Nat.add_mod_right, Nat.mod_eq_of_lt (by omega : j - s < c), show j - s + s = j by omega, Nat.mod_eq_of_lt hj]
  · rw [Nat.mod_eq_of_lt (by omega : j + (c - s) < c), show j + (c - s) + s = j + c by omega, Nat.add_mod_right, Nat.mod_eq_of_lt hj]
theorem md_forth {c j s : Nat} (hj : j < c) (hs : s < c) : ((j + s) % c + (c - s)) % c = j := by
  by_cases h : j + s < c
  · rw [Nat.mod_eq_of_lt h, show j + s + (c - s) = j + c by omega, Nat.add_mod_right, Nat.mod_eq_of_lt hj]
  · rw [show j + s = (j + s - c) + c by omega, Nat.add_mod_right, Nat.mod_eq_of_lt (by omega : j + s - c < c), show j + s - c + (c - s) = j by omega, Nat.mod_eq_of_lt hj]
theorem rgt_lt {r c q : Nat} (hc : 0 < c) (h : q < r * c) : rgt c q < r * c ∧ rgtI c q < r * c ∧ rgt c (rgtI c q) = q ∧ rgtI c (rgt c q) = q := by
  obtain ⟨i, j, e, hj, h1, h2⟩ := dmE (q := q) hc
  have hi : i < r := by
    rw [← h1]
    exact (Nat.div_lt_iff_lt_mul hc).mpr h
  have hm : (i + 1) * c ≤ r * c := Nat.mul_le_mul_right c hi
  rw [Nat.add_mul, Nat.one_mul] at hm
  have a1 : (j + 1) % c < c := Nat.mod_lt _ hc
  have a2 : (j + (c - 1)) % c < c := Nat.mod_lt _ hc
  have d1 := dm (i := i) a1
  have d2 := dm (i := i) a2
  unfold rgt rgtI
  rw [h1, h2, d1.1, d1.2, d2.1, d2.2]
  refine ⟨by omega, by omega, ?_, ?_⟩
  · by_cases h1c : c = 1
    · subst h1c
      have : j = 0 := by omega
      subst this
      rw [e] <;> simp
    · rw [md_back hj (by omega : 1 < c), e]
  · by_cases h1c : c = 1
    · subst h1c
      have : j = 0 := by omega
      subst this
      rw [e] <;> simp
    · rw [md_forth hj (by omega : 1 < c), e]
theorem upp_lt {r c s q : Nat} (hr : 0 < r) (hs : s < c) (h : q < r * c) : upp r c s q < r * c ∧ uppI r c s q < r * c ∧ upp r c s (uppI r c s q) = q ∧ uppI r c s (upp r c s q) = q := by
  obtain ⟨r, rfl⟩ : ∃ k, r = k + 1 := ⟨r - 1, by omega⟩
  have hc : 0 < c := by omega
  unfold upp uppI
  rw [Nat.add_sub_cancel]
  rw [Nat.add_mul, Nat.one_mul] at h ⊢
  refine ⟨?_, ?_, ?_, ?_⟩
  · split
    · omega
    · have := Nat.mod_lt (q - r * c + s) hc
      omega
  · split
    · have := Nat.mod_lt (q + (c - s)) hc
      omega
    · omega
  · by_cases h1 : q < c
    · rw [if_pos h1, if_neg (by omega), show r * c + (q + (c - s)) % c - r * c = (q + (c - s)) % c by omega, md_back h1 hs]
    · rw [if_neg h1, if_pos (by omega)]; omega
  · by_cases h1 : q < r * c
    · rw [if_pos h1, if_neg (by omega)]; omega
    · rw [if_neg h1, if_pos (Nat.mod_lt _ hc), md_forth (by omega) hs]; omega


end Td

namespace Td
open Ty
def l_named_2 (box : ((List Int) × Int × Int × Int)) (rows : (List (List Int))) : Option (((List (List Int)) × (List Int)) × ((List Int) × Int × Int × Int)) :=
 lt (([] : (List Int)) : (List Int)) fun names =>
 (lcm rows fun x3 : (List Int) => (x3.length : Int)).bind fun ys6 =>
 (Td.l_shuffled box (ys6.sum / 2)).bind fun r7 =>
 (forO r7.1 ((r7.2, names) : (((List Int) × Int × Int × Int) × (List Int))) fun s12 x11 =>
 (Td.l_take s12.1 2).bind fun r17 =>
 (pmul 2 x11).bind fun v19 =>
 (app s12.2 (v19 + r17.1)).bind fun names =>
 (pmul 2 x11).bind fun v23 =>
 (app names ((v23 + 1) - r17.1)).bind fun names =>
 some (r17.2, names)).bind fun s27 =>
 (Td.l_shuffled s27.1 (rows.length : Int)).bind fun r32 =>
 (lcm rows fun x36 : (List Int) => ([] : (List Int))).bind fun told =>
 (forO (enu 0 rows) (told : ((List (List Int)))) fun s41 x40 =>
 (lcp x40.2 (fun x44 : Int => some true) fun x44 => (idx s27.2 x44).bind fun v47 =>
 some v47).bind fun ys48 =>
 (Td.l_least_2 ys48).bind fun r51 =>
 (idx r32.1 x40.1).bind fun v52 =>
 (putI s41 v52 r51).bind fun told =>
 some told).bind fun s56 =>
 some ((s56, s27.2), r32.2)
end Td

namespace Td
open Ty
def p_other_of (drawing : (List (List Int))) : Option (List (List Int)) :=
 Td.p_lands_of drawing
end Td

namespace Td
open Ty
def law_k70 (script : (List Int)) : Option Bool :=
 lt ((script, 0, 0, 0) : ((List Int) × Int × Int × Int)) fun box =>
 (Td.l_take box 16).bind fun r5 =>
 (Td.l_take r5.2 7).bind fun r9 =>
 (Td.l_take r9.2 10).bind fun r13 =>
 (if (r5.1 = 0) then (Td.l_take r13.2 50).bind fun r17 =>
 (Td.l_take r17.2 441).bind fun r21 =>
 some (r21.2, 1 + r17.1, r21.1)
 else some (r13.2, r9.1, r13.1) : Option (((List Int) × Int × Int × Int) × Int × Int)).bind fun j23 =>
 (if (j23.2.1 = 0) then lt (0 : Int) fun ties =>
 some ties
 else some j23.2.2 : Option (Int)).bind fun j28 =>
 ((rng 0 j23.2.1).bind fun xs33 => ((lcm xs33 fun x34 : Int => ([] : (List Int))).bind fun ys37 => ((pmul 2 j28).bind fun v38 => ((Td.l_lay_ends j23.1 ys37 0 v38).bind fun r39 => Td.l_named_2 r39.2.1 r39.1).bind fun r43 => some (v38, r43)).bind fun r45 => some (ys37, r45)).bind fun r46 => some (xs33, r46)).bind fun r47 =>
 (lcm r47.2.2.2.1.1 fun x52 : (List Int) => x52).bind fun kept =>
 (Td.l_lands_3 r47.2.2.2.1.1).bind fun due =>
 (Td.p_other_of r47.2.2.2.1.1).bind fun told =>
 (Td.l_rows_2 told due).bind fun r68 =>
 if (¬(r68 = true) ∨ (r47.2.2.2.1.1 ≠ kept)) then some (false)
 else (lcp kept (fun x73 : (List Int) => some (decide ((0 < (x73.length : Int))))) fun x73 => some x73).bind fun ys76 =>
 (lcp kept (fun x77 : (List Int) => some (decide (((x77.length : Int) = 0)))) fun x77 => some x77).bind fun ys80 =>
 (cat (lsrt ys76) ys80).bind fun back =>
 (Td.p_other_of told).bind fun r84 =>
 (Td.l_rows_2 r84 back).bind fun r87 =>
 if (¬(r87 = true) ∨ (told ≠ due)) then some (false)
 else (forW told (() : Unit) fun s88 x89 =>
 (app x89 0).bind fun row =>
 some ((), row)).bind fun s95 =>
 (lcp due (fun x98 : (List Int) => some true) fun x98 => (cat x98 [0]).bind fun v101 =>
 some v101).bind fun ys102 =>
 if (s95.2 ≠ ys102) then some (false)
 else if (r47.2.2.2.1.1 = kept) then (Td.p_other_of r47.2.2.2.1.1).bind fun r105 =>
 (Td.l_rows_2 r105 due).bind fun r108 =>
 some (decide (r108 = true)) else some false
end Td

namespace Td
open Ty
def Lea (rows : List (List Int)) : Prop := ∀ x t, (x :: t) ∈ rows → ∀ y ∈ x :: t, x ≤ y
end Td

namespace Td
open Ty
variable {α β : Type}
def Rot (l l' : List α) : Prop := ∃ u v, l = u ++ v ∧ l' = v ++ u
theorem Rot.trans {l l' l'' : List α} : Rot l l' → Rot l' l'' → Rot l l'' := fun ⟨u, v, a, b⟩ ⟨u', v', c, d⟩ => by
  subst a b d
  rcases List.append_eq_append_iff.mp c with ⟨w, h1, h2⟩ | ⟨w, h1, h2⟩
  · subst h1 h2
    exact ⟨w, v' ++ v, by simp, by simp⟩
  · subst h1 h2
    exact ⟨u ++ u', w, by simp, by simp⟩
theorem Rot.perm {l l' : List α} : Rot l l' → l.Perm l' := fun ⟨u, v, a, b⟩ => by rw [a, b]; exact List.perm_append_comm
theorem rot_one (x : α) (t : List α) : Rot (x :: t) (t ++ [x]) := ⟨[x], t, rfl, rfl⟩
theorem Rot.cons {l : List α} {x : α} {y : α} {t : List α} (h : Rot l (x :: y :: t)) : Rot l (y :: (t ++ [x])) := h.trans (rot_one x (y :: t))
theorem nx_cyc {n : Nat} {rows : List (List Int)} (h : Dr n rows) {row : List Int} (hr : row ∈ rows) {x : Int} {t : List Int} (r : Rot row (x :: t)) : nx rows x = (t ++ [x]).headD 0 := by
  obtain ⟨u, v, e1, e2⟩ := r
  cases v with
  | nil =>
    rw [List.nil_append] at e2
    rw [List.append_nil, ← e2] at e1
    have q := nx_row h hr (j := 0) (by rw [e1]; simp)
    subst e1
    cases t with
    | nil => simpa using q
    | cons y t => simpa using q
  | cons z v =>
    rw [List.cons_append] at e2
    obtain ⟨e3, e4⟩ := List.cons.inj e2
    subst e3
    have hl : row.length = u.length + v.length + 1 := by rw [e1]; simp; omega
    have q := nx_row h hr (j := u.length) (by omega)
    have ex : row[u.length]'(by omega) = x := by simp [e1]
    rw [ex] at q
    rw [q, e4]
    cases v with
    | nil =>
      have : (u.length + 1) % row.length = 0 := by rw [hl]; simp
      simp only [this]
      cases u with
      | nil => simp [e1]
      | cons w u => simp [e1]
    | cons w v =>
      have : (u.length + 1) % row.length = u.length + 1 := Nat.mod_eq_of_lt (by rw [hl]; simp)
      simp only [this]
      subst e1
      simp
def skp (a b : Int) (G : Int → Int) (y : Int) : Int := if y = a then (if G a = b then G b else G a) else if y = b then (if G b = a then G a else G b) else y
def emp (rows : List (List Int)) : Nat := (rows.filter fun r => decide (r = [])).length
end Td

namespace Td
open Ty
def l_taken (rows : (List (List Int))) (tie : Int) : Option (List (List Int)) :=
 lt (([] : (List (List Int))) : (List (List Int))) fun told =>
 (forO rows (told : ((List (List Int)))) fun s4 x3 =>
 (lcp x3 (fun x9 : Int => some (decide (((x9 / 2) ≠ tie)))) fun x9 => some x9).bind fun left =>
 (lcp left (fun x13 : Int => some true) fun x13 => (pmul 2 (b2i (decide (tie < (x13 / 2))))).bind fun v16 =>
 some (x13 - v16)).bind fun ys17 =>
 (Td.l_least_2 ys17).bind fun r20 =>
 (app s4 r20).bind fun told =>
 some told).bind fun s24 =>
 some (s24)
end Td

namespace Td
open Ty
def p_check_tie (drawing : (List (List Int))) (tie : Int) : Option (Rx Unit) :=
 (if (tie < 0) then some true else (pmul 2 tie).bind fun v1 =>
 (Td.p_count_ends drawing).bind fun r4 =>
 some (decide ((r4 ≤ v1)))).bind fun b5 =>
 if b5 = true then (fb [tie]).bind fun _ => some (Rx.ex "NoTie")
 else some (Rx.ok (()))
end Td

namespace Td
open Ty
def p_without (row : (List Int)) (tie : Int) : Option (List Int) :=
 (lcp row (fun x3 : Int => some (decide (((x3 / 2) ≠ tie)))) fun x3 => some x3).bind fun kept =>
 (lcm kept fun x7 : Int => if (tie < (x7 / 2)) then x7 - 2 else x7).bind fun ys10 =>
 Td.p_begun_least ys10
end Td

namespace Td
open Ty
def p_taken_2 (drawing : (List (List Int))) (tie : Int) : Option (List (List Int)) :=
 (okX (Td.p_check_tie drawing tie)).bind fun r3 =>
 lcp drawing (fun x6 : (List Int) => some true) fun x6 => (Td.p_without x6 tie).bind fun r11 =>
 some r11
end Td

namespace Td
open Ty
def p_past (row : (List Int)) (end_ : Int) : Option (List Int) :=
 (ixOf row end_).bind fun at_ =>
 cat (sl row (some (at_ + 1)) none) (sl row none (some at_))
end Td

namespace Td
open Ty
def p_shrunk (drawing : (List (List Int))) (tie : Int) : Option (Rx (List (List Int))) :=
 bx (Td.p_check_tie drawing tie) (fun _ =>
 (Td.p_homes_of drawing).bind fun homes =>
 (pmul 2 tie).bind fun v10 =>
 (idx homes v10).bind fun v11 =>
 (pmul 2 tie).bind fun v12 =>
 (idx homes (v12 + 1)).bind fun v13 =>
 lt ((v11, v13) : (Int × Int)) fun y14 =>
 if (y14.1 = y14.2) then (fb [tie]).bind fun _ => some (Rx.ex "Looped")
 else (idx drawing y14.1).bind fun v19 =>
 (pmul 2 tie).bind fun v20 =>
 (Td.p_past v19 v20).bind fun r23 =>
 (idx drawing y14.2).bind fun v24 =>
 (pmul 2 tie).bind fun v25 =>
 (Td.p_past v24 (v25 + 1)).bind fun r28 =>
 (cat r23 r28).bind fun joined =>
 lt (([] : (List (List Int))) : (List (List Int))) fun rows =>
 (forO (enu 0 drawing) (rows : ((List (List Int)))) fun s33 x32 =>
 (if (x32.1 = (min y14.1 y14.2)) then (Td.p_without joined tie).bind fun r38 =>
 (app s33 r38).bind fun rows =>
 some rows
 else (if (x32.1 ≠ (max y14.1 y14.2)) then (Td.p_without x32.2 tie).bind fun r44 =>
 (app s33 r44).bind fun rows =>
 some rows
 else some s33 : Option ((List (List Int)))).bind fun j48 =>
 some j48 : Option ((List (List Int)))).bind fun j51 =>
 some j51).bind fun s54 =>
 some (Rx.ok (s54))) fun n_ => Rx.ex n_
end Td

namespace Td
open Ty
def l_looped (rows : (List (List Int))) (tie : Int) : Option Bool :=
 aft (tryL (bx (Td.p_shrunk rows tie) (fun _ =>
 some (.go ())) fun n_ => Lp.rt (Rx.ex n_) : Option (Lp Unit (Rx Bool))) fun n5 =>
 (tabS ["Looped", "NoTie"] "Looped" n5).bind fun b_ => if b_ = true then (tabS ["Looped", "NoTie"] "FloorError" n5).bind fun v10 =>
 (if v10 = true then (tabS ["Looped", "NoTie"] "NoTie" n5).bind fun v11 =>
 some (decide (¬(v11 = true))) else some false).bind fun b12 =>
 some (.rt (b12))
 else none) (fun s14 =>
 some (false)) fun r_ => some r_
end Td

namespace Td
open Ty
def dnT (T x : Int) : Int := if T < x / 2 then x - 2 else x
def upT (T x : Int) : Int := if x < 2 * T then x else x + 2
def kp (a b : Int) (x : Int) : Bool := decide (x ≠ a ∧ x ≠ b)
def wo (T : Int) (r : List Int) : List Int := least ((r.filter (kp (2 * T) (2 * T + 1))).map (dnT T))
def tk (T : Int) (R : List (List Int)) : List (List Int) := R.map (wo T)
variable {m : Nat} {R : List (List Int)} {T : Int}
theorem row_nd {n : Nat} (h : Dr n R) {r : List Int} (hr : r ∈ R) : r.Nodup := (List.pairwise_flatten.mp h.nd).1 r hr
end Td

namespace Td
open Ty
def SK (T : Int) (R S : List (List Int)) : Prop := ∃ ra rb rest q s, R.Perm (ra :: rb :: rest) ∧ Rot ra (2 * T :: q) ∧ Rot rb ((2 * T + 1) :: s) ∧ S.Perm (wo T (q ++ s) :: rest.map (wo T))
variable {m : Nat} {R S : List (List Int)} {T : Int}
def jn (a b : Int) (G : Int → Int) (y : Int) : Int := if y = a then (if G b = b then G a else G b) else if y = b then (if G a = a then G b else G a) else y
end Td

namespace Td
open Ty
def Ins (rows rows' : List (List Int)) (e : Int) : Prop := ∃ pre r post r', rows = pre ++ r :: post ∧ rows' = pre ++ r' :: post ∧ r'.Perm (e :: r)
theorem putJ_ok {e : Int} : ∀ (rows : List (List Int)) (at_ : Int), 0 ≤ at_ → at_ < (rows.map fun r => max 1 (r.length : Int)).sum → rows.length ≤ 100000 → rows.flatten.length ≤ 100000 →
    ∃ rows', (forWR rows (at_ : Int) fun s1 x2 => Ty.lt (max 1 (x2.length : Int) : Int) fun many => if (s1 < many) then (insI x2 (s1 + 1) e).bind fun row => some (.rt (true, row)) else Ty.lt (s1 - many : Int) fun at_ => some (.go (at_, x2)) : Option (Lp (Int × List (List Int)) (Bool × List (List Int)))) = some (.rt (true, rows')) ∧ Ins rows rows' e
  | [], at_, h0, h1, _, _ => by simp at h1; omega
  | r :: rs, at_, h0, h1, hl, hf => by
    simp only [List.map_cons, List.sum_cons, List.length_cons, List.flatten_cons, List.length_append] at h1 hl hf
    rw [forWR, lt_eq]
    by_cases q : at_ < max 1 (r.length : Int)
    · rw [if_pos q, insI_ok (by omega) (by omega) (by omega), bs, bs]
      refine ⟨_, rfl, [], r, rs, _, rfl, rfl, ?_⟩
      rw [List.append_assoc, List.singleton_append]
      refine List.perm_middle.trans ?_
      rw [List.take_append_drop]
    · rw [if_neg q, lt_eq, bs]
      obtain ⟨rs', g1, pre, r0, post, r', i1, i2, i3⟩ := putJ_ok rs (at_ - max 1 (r.length : Int)) (by omega) (by omega) (by omega) (by omega)
      dsimp only
      rw [g1]
      exact ⟨r :: rs', rfl, r :: pre, r0, post, r', by rw [i1]; rfl, by rw [i2]; rfl, i3⟩
theorem l_putJ_ok {rows : List (List Int)} {at_ e : Int} (h0 : 0 ≤ at_) (h1 : at_ < (rows.map fun r => max 1 (r.length : Int)).sum) (hl : rows.length ≤ 100000) (hf : rows.flatten.length ≤ 100000) : ∃ rows', l_put rows at_ e = some (true, rows') ∧ Ins rows rows' e := by
  obtain ⟨rows', g1, g2⟩ := putJ_ok (e := e) rows at_ h0 h1 hl hf
  refine ⟨rows', ?_, g2⟩
  unfold l_put aft
  rw [g1, bs]
theorem Ins.len {rows rows' : List (List Int)} {e : Int} (h : Ins rows rows' e) : rows'.length = rows.length := by
  obtain ⟨pre, r, post, r', i1, i2, _⟩ := h
  rw [i1, i2]; simp
theorem Ins.flat {rows rows' : List (List Int)} {e : Int} (h : Ins rows rows' e) : rows'.flatten.Perm (e :: rows.flatten) := by
  obtain ⟨pre, r, post, r', i1, i2, i3⟩ := h
  rw [i1, i2]
  simp only [List.flatten_append, List.flatten_cons]
  refine ((i3.append_right _).append_left _).trans ?_
  rw [List.cons_append]
  exact List.perm_middle
structure Pj (rows : List (List Int)) : Prop where
  full : ∀ r ∈ rows, r ≠ []
  to : ∀ S : Int → Prop, (∀ x, x ∈ rows.flatten → mate x ∈ rows.flatten → S x → S (mate x)) → (∀ row ∈ rows, ∀ x ∈ row, ∀ y ∈ row, S x → S y) → S 0 → ∀ x ∈ rows.flatten, S x
end Td

namespace Td
open Ty
end Td

namespace Td
open Ty
def Steps (r c s : Int) : Prop := (∀ p, In 40 p → p % c ≠ 0 → lf c p = p - 1) ∧ (∀ p, In 40 p → p % c = 0 → lf c p = p + c - 1 ∧ In 40 (p + c - 1) ∧ (p + c - 1) % c = c - 1) ∧ (∀ p, In 40 p → dn r c s p / c = if c ≤ p then p / c - 1 else 39 / c) ∧ (∀ p, In 40 p → In 40 (dn r c s p))
end Td

namespace Td
open Ty
end Td

namespace Td
open Ty
end Td

namespace Td
open Ty
def law_k83_2 (script : (List Int)) : Option Bool :=
 lt ((script, 0, 0, 0) : ((List Int) × Int × Int × Int)) fun box =>
 (Td.l_take box 12).bind fun r5 =>
 (Td.l_take r5.2 8).bind fun r9 =>
 (Td.l_take r9.2 14).bind fun r13 =>
 (Td.l_take r13.2 4).bind fun r17 =>
 (Td.l_take r17.2 16).bind fun r21 =>
 (((Td.l_take r21.2 6).bind fun r25 => (Td.l_take r25.2 5).bind fun r29 => some (r25, r29)).bind fun r33 => Td.l_grown_3 r33.2.2 r33.1.1 r33.2.1).bind fun r34 =>
 (if (r21.1 = 0) then (Td.l_forty r34.2).bind fun r38 =>
 some (r38.2, r38.1)
 else some (r34.2, r34.1) : Option (((List Int) × Int × Int × Int) × (List (List Int)))).bind fun j40 =>
 (Td.l_named j40.1 j40.2).bind fun r43 =>
 lt ((r43.1.2.length : Int) : Int) fun many =>
 (if ((r17.1 = 0) ∧ (0 < many)) then ((Td.l_take r43.2 many).bind fun r51 => (Td.l_forced j40.2 r43.1.1 0 r51.1).bind fun r55 => some (r51, r55)).bind fun r57 =>
 (if (r57.2 ≠ none) then (r57.2).bind fun found_58 =>
 lt found_58 fun lay =>
 some lay
 else some r43.1.2 : Option ((List Int))).bind fun j62 =>
 some (r57.1.2, j62)
 else some (r43.2, r43.1.2) : Option (((List Int) × Int × Int × Int) × (List Int))).bind fun j65 =>
 (if (r9.1 < 2) then (Td.l_spoilt_4 j65.1 r5.1 j40.2).bind fun r70 =>
 some (r70.2, r70.1)
 else some (j65.1, j40.2) : Option (((List Int) × Int × Int × Int) × (List (List Int)))).bind fun j72 =>
 (if (0 < r9.1) then (Td.l_spoilt_4 j72.1 r5.1 r43.1.1).bind fun r79 =>
 some (r79.2, r79.1)
 else some (j72.1, r43.1.1) : Option (((List Int) × Int × Int × Int) × (List (List Int)))).bind fun j81 =>
 (Td.l_bent j81.1 r13.1 j65.2 many).bind fun r88 =>
 ((Td.l_take r88.2 14).bind fun r92 => Td.l_bent r92.2 r92.1 j65.2 many).bind fun r96 =>
 (Td.l_well_2 j72.2 j81.2 r88.1).bind fun r100 =>
 (if ¬(r100 = true) then some true else (Td.l_well_2 j81.2 j72.2 r88.1).bind fun r103 =>
 some (decide (¬(r103 = true)))).bind fun b104 =>
 if b104 = true then some (false)
 else (Td.l_well_2 j72.2 j81.2 r96.1).bind fun r107 =>
 if r107 = true then (Td.l_well_2 j72.2 j81.2 r88.1).bind fun r110 =>
 some (decide (r110 = true)) else some false
end Td

namespace Td
open Ty
end Td

namespace Td
open Ty
def l_row_3 (found : (Option (List Int))) (due : (List Int)) : Option Bool :=
 (if ¬((found.isSome && true) = true) then some true else (found).bind fun u1 =>
 some (decide (((u1.length : Int) ≠ (due.length : Int))))).bind fun b2 =>
 if b2 = true then some (false)
 else aft (forR (enu 0 due) (() : Unit) fun s4 x3 =>
 (found).bind fun u7 =>
 (idx u7 x3.1).bind fun v8 =>
 (Td.l_whole v8).bind fun r11 =>
 (if ¬(r11 = true) then some true else (found).bind fun u12 =>
 (idx u12 x3.1).bind fun v13 =>
 some (decide ((v13 ≠ x3.2)))).bind fun b14 =>
 if b14 = true then some (.rt (false))
 else some (.go ())) (fun s15 =>
 some (true)) fun r_ => some r_
end Td

namespace Td
open Ty
def l_list_4 (found : (Option (List Int))) (due : (Option (List Int))) : Option Bool :=
 if (due = none) then some (decide (found = none))
 else (due).bind fun due_1 =>
 Td.l_row_3 found due_1
end Td

namespace Td
open Ty
def l_spoilt_3 (box : ((List Int) × Int × Int × Int)) (way : Int) (rows : (List (List Int))) : Option ((List (List Int)) × ((List Int) × Int × Int × Int)) :=
 (lcm rows fun x3 : (List Int) => (x3.length : Int)).bind fun ys6 =>
 lt (ys6.sum : Int) fun many =>
 (Td.l_take box many).bind fun r9 =>
 (Td.l_take r9.2 many).bind fun r13 =>
 if ((way = 3) ∨ (way = 4)) then (Td.l_behind_3 rows).bind fun r17 =>
 (idx r17 r9.1).bind fun v18 =>
 (Td.l_exchanged rows r9.1 v18).bind fun r21 =>
 some (r21, r13.2)
 else if (way = 5) then (Td.l_exchanged rows r9.1 r13.1).bind fun r24 =>
 some (r24, r13.2)
 else if ((way = 6) ∨ (way = 7)) then (Td.l_grown_3 r13.2 ((rows.length : Int) - 1) (((many / 2) - (rows.length : Int)) + 1)).bind fun r25 => some (r25.1, r25.2)
 else if (way = 8) then (Td.l_mirrored rows).bind fun r31 =>
 some (r31, r13.2)
 else some (rows, r13.2)
end Td

namespace Td
open Ty
def p_check_end (drawing : (List (List Int))) (end_ : Int) : Option Unit :=
 (if (end_ < 0) then some true else (Td.p_count_ends drawing).bind fun r3 =>
 some (decide ((r3 ≤ end_)))).bind fun b4 =>
 if b4 = true then none
 else some (())
end Td

namespace Td
open Ty
def p_check_one_part (drawing : (List (List Int))) : Option Unit :=
 (Td.p_is_one_part drawing).bind fun r3 =>
 if ¬(r3 = true) then none
 else some (())
end Td

namespace Td
open Ty
def p_laid_3 (one : (List (List Int))) (two : (List (List Int))) (end_ : Int) (goal : Int) : Option (Option (List Int)) :=
 (Td.p_check_one_part one).bind fun r3 =>
 (Td.p_check_one_part two).bind fun r8 =>
 (Td.p_check_end one end_).bind fun r13 =>
 (Td.p_check_end two goal).bind fun r18 =>
 (Td.p_behind_of one).bind fun r23 =>
 (Td.p_behind_of two).bind fun r26 =>
 (Td.p_lay_from_2 r23 r26 end_ goal).bind fun r29 =>
 some (r29)
end Td

namespace Td
open Ty
def law_k76_3 (script : (List Int)) : Option Bool :=
 lt ((script, 0, 0, 0) : ((List Int) × Int × Int × Int)) fun box =>
 (Td.l_take box 9).bind fun r5 =>
 (Td.l_take r5.2 2).bind fun r9 =>
 (((Td.l_take r9.2 6).bind fun r13 => (Td.l_take r13.2 5).bind fun r17 => some (r13, r17)).bind fun r21 => Td.l_grown_3 r21.2.2 r21.1.1 r21.2.1).bind fun r22 =>
 (if (r22.1 = [([] : (List Int))]) then ((Td.l_take r22.2 4).bind fun r26 => Td.l_grown_3 r26.2 1 r26.1).bind fun r30 =>
 some (r30.2, r30.1)
 else some (r22.2, r22.1) : Option (((List Int) × Int × Int × Int) × (List (List Int)))).bind fun j32 =>
 (Td.l_named j32.1 j32.2).bind fun r35 =>
 (Td.l_take r35.2 (r35.1.2.length : Int)).bind fun r41 =>
 (idx r35.1.2 r41.1).bind fun goal =>
 (if (r9.1 = 0) then (Td.l_take r41.2 (r35.1.2.length : Int)).bind fun r48 =>
 some (r48.2, r48.1)
 else some (r41.2, goal) : Option (((List Int) × Int × Int × Int) × Int)).bind fun j50 =>
 (Td.l_spoilt_3 j50.1 r5.1 r35.1.1).bind fun r57 =>
 (Td.l_part_count r57.1).bind fun r61 =>
 (if (r61 ≠ 1) then lt (j32.2 : (List (List Int))) fun two =>
 some two
 else some r57.1 : Option ((List (List Int)))).bind fun j64 =>
 (Td.l_forced j32.2 j64 r41.1 j50.2).bind fun due =>
 (lcm j32.2 fun x72 : (List Int) => x72).bind fun ys75 =>
 (lcm j64 fun x76 : (List Int) => x76).bind fun ys79 =>
 (Td.p_laid_3 ys75 ys79 r41.1 j50.2).bind fun r82 =>
 (Td.l_list_4 r82 due).bind fun r85 =>
 if ¬(r85 = true) then some (false)
 else (Td.l_lands_3 j32.2).bind fun r88 =>
 (Td.l_lands_3 j64).bind fun r91 =>
 (Td.p_laid_3 r88 r91 r41.1 j50.2).bind fun r94 =>
 (Td.l_list_4 r94 due).bind fun r97 =>
 if ¬(r97 = true) then some (false)
 else (Td.l_mirrored j32.2).bind fun r100 =>
 (Td.l_mirrored j64).bind fun r103 =>
 (Td.p_laid_3 r100 r103 r41.1 j50.2).bind fun r106 =>
 Td.l_list_4 r106 due
end Td

namespace Td
open Ty
end Td

namespace Td
open Ty
def p_check_one_part_2 (drawing : (List (List Int))) : Option (Rx Unit) :=
 (Td.p_is_one_part drawing).bind fun r3 =>
 if ¬(r3 = true) then some (Rx.ex "Apart")
 else some (Rx.ok (()))
end Td

namespace Td
open Ty
def p_alike_2 (one : (List (List Int))) (two : (List (List Int))) : Option (Rx (Option (List Int))) :=
 bx (Td.p_check_one_part_2 one) (fun _ =>
 bx (Td.p_check_one_part_2 two) (fun _ =>
 (Td.p_behind_of one).bind fun behind =>
 (Td.p_behind_of two).bind fun beyond =>
 if (¬(behind ≠ []) ∧ ¬(beyond ≠ [])) then some (Rx.ok ((some ([] : (List Int)))))
 else (rng 0 (beyond.length : Int)).bind fun xs19 =>
 aft (forR xs19 (() : Unit) fun s21 x20 =>
 (Td.p_lay_from_2 behind beyond 0 x20).bind fun lay =>
 if (lay ≠ none) then (lay).bind fun lay_29 =>
 some (.rt (Rx.ok ((some lay_29))))
 else some (.go ())) (fun s31 =>
 some (Rx.ok (none))) fun r_ => some r_) fun n_ => Rx.ex n_) fun n_ => Rx.ex n_
end Td

namespace Td
open Ty
def l_apart_3 (one : (List (List Int))) (two : (List (List Int))) : Option Bool :=
 aft (tryL (bx (Td.p_alike_2 one two) (fun _ =>
 some (.go ())) fun n_ => Lp.rt (Rx.ex n_) : Option (Lp Unit (Rx Bool))) fun n5 =>
 (tabS ["Apart"] "Apart" n5).bind fun b_ => if b_ = true then (tabS ["Apart"] "FloorError" n5).bind fun v10 =>
 (if v10 = true then (tabS ["Apart"] "NoEnd" n5).bind fun v11 =>
 some (decide (¬(v11 = true))) else some false).bind fun b12 =>
 some (.rt (b12))
 else none) (fun s14 =>
 some (false)) fun r_ => some r_
end Td

namespace Td
open Ty
def l_due_3 (one : (List (List Int))) (two : (List (List Int))) : Option (Option (List Int)) :=
 (lcm one fun x3 : (List Int) => (x3.length : Int)).bind fun ys6 =>
 lt (ys6.sum : Int) fun many =>
 (lcm two fun x7 : (List Int) => (x7.length : Int)).bind fun ys10 =>
 if (many ≠ ys10.sum) then some (none)
 else if (many = 0) then some ((some ([] : (List Int))))
 else (rng 0 many).bind fun xs11 =>
 aft (forR xs11 (() : Unit) fun s13 x12 =>
 (Td.l_forced one two 0 x12).bind fun lay =>
 if (lay ≠ none) then (lay).bind fun lay_21 =>
 some (.rt ((some lay_21)))
 else some (.go ())) (fun s23 =>
 some (none)) fun r_ => some r_
end Td

namespace Td
open Ty
def l_row_2 (found : (Option (List Int))) (due : (List Int)) : Option Bool :=
 (if ¬((found.isSome && true) = true) then some true else (found).bind fun u1 =>
 some (decide (((u1.length : Int) ≠ (due.length : Int))))).bind fun b2 =>
 if b2 = true then some (false)
 else aft (forR (enu 0 due) (() : Unit) fun s4 x3 =>
 (found).bind fun u7 =>
 (idx u7 x3.1).bind fun v8 =>
 (Td.l_whole v8).bind fun r11 =>
 (if ¬(r11 = true) then some true else (found).bind fun u12 =>
 (idx u12 x3.1).bind fun v13 =>
 some (decide ((v13 ≠ x3.2)))).bind fun b14 =>
 if b14 = true then some (.rt (false))
 else some (.go ())) (fun s15 =>
 some (true)) fun r_ => some r_
end Td

namespace Td
open Ty
def l_list_2 (found : (Option (List Int))) (due : (Option (List Int))) : Option Bool :=
 if (due = none) then some (decide (found = none))
 else (due).bind fun due_1 =>
 Td.l_row_2 found due_1
end Td

namespace Td
open Ty
def law_k73_2 (script : (List Int)) : Option Bool :=
 lt ((script, 0, 0, 0) : ((List Int) × Int × Int × Int)) fun box =>
 (Td.l_take box 12).bind fun r5 =>
 (Td.l_take r5.2 8).bind fun r9 =>
 (((Td.l_take r9.2 6).bind fun r13 => (Td.l_take r13.2 4).bind fun r17 => some (r13, r17)).bind fun r21 => Td.l_grown_3 r21.2.2 r21.1.1 r21.2.1).bind fun r22 =>
 (Td.l_named r22.2 r22.1).bind fun r24 =>
 (if (r9.1 < 2) then (Td.l_spoilt_4 r24.2 r5.1 r22.1).bind fun r30 =>
 some (r30.2, r30.1)
 else some (r24.2, r22.1) : Option (((List Int) × Int × Int × Int) × (List (List Int)))).bind fun j32 =>
 (if (0 < r9.1) then (Td.l_spoilt_4 j32.1 r5.1 r24.1.1).bind fun r39 =>
 some r39.1
 else some r24.1.1 : Option ((List (List Int)))).bind fun j41 =>
 (lcm j32.2 fun x46 : (List Int) => x46).bind fun ys49 =>
 (lcm j41 fun x50 : (List Int) => x50).bind fun ys53 =>
 lt ([ys49, ys53] : (List (List (List Int)))) fun kept =>
 (Td.l_part_count j32.2).bind fun r56 =>
 (if (r56 ≠ 1) then some true else (Td.l_part_count j41).bind fun r59 =>
 some (decide ((r59 ≠ 1)))).bind fun b60 =>
 if b60 = true then (Td.l_apart_3 j32.2 j41).bind fun r63 =>
 some (decide (r63 = true ∧ ([j32.2, j41] = kept)))
 else (Td.l_due_3 j32.2 j41).bind fun due =>
 if ((r5.1 = 0) ∧ (due = none)) then some (false)
 else (okX (Td.p_alike_2 j32.2 j41)).bind fun told =>
 (Td.l_list_2 told due).bind fun r76 =>
 if (¬(r76 = true) ∨ ([j32.2, j41] ≠ kept)) then some (false)
 else (if (told ≠ none) then (told).bind fun told_77 =>
 (app told_77 0).bind fun told =>
 some ()
 else some () : Option Unit).bind fun j82 =>
 (okX (Td.p_alike_2 j32.2 j41)).bind fun r87 =>
 (Td.l_list_2 r87 due).bind fun r90 =>
 some (decide (r90 = true ∧ ([j32.2, j41] = kept)))
end Td

namespace Td
open Ty
end Td

namespace Td
open Ty
def l_astray (box : ((List Int) × Int × Int × Int)) (many : Int) : Option (Int × ((List Int) × Int × Int × Int)) :=
 (((Td.l_take box 3).bind fun r1 => (Td.l_take r1.2 3).bind fun r5 => some (r1, r5)).bind fun r9 => (Td.l_take r9.2.2 4).bind fun r12 => (idx [(-1) - r9.1.1, many + r9.2.1, -1000000000000000000000000000000, 1000000000000000000000000000000] r12.1).bind fun z15 => some ((r9, r12), z15)).bind fun r14 => some (r14.2, r14.1.2.2)
end Td

namespace Td
open Ty
def p_check_end_2 (drawing : (List (List Int))) (end_ : Int) : Option (Rx Unit) :=
 (if (end_ < 0) then some true else (Td.p_count_ends drawing).bind fun r3 =>
 some (decide ((r3 ≤ end_)))).bind fun b4 =>
 if b4 = true then (fb [end_]).bind fun _ => some (Rx.ex "NoEnd")
 else some (Rx.ok (()))
end Td

namespace Td
open Ty
def p_laid_4 (one : (List (List Int))) (two : (List (List Int))) (end_ : Int) (goal : Int) : Option (Rx (Option (List Int))) :=
 bx (Td.p_check_one_part_2 one) (fun _ =>
 bx (Td.p_check_one_part_2 two) (fun _ =>
 bx (Td.p_check_end_2 one end_) (fun _ =>
 bx (Td.p_check_end_2 two goal) (fun _ =>
 (Td.p_behind_of one).bind fun r19 =>
 (Td.p_behind_of two).bind fun r22 =>
 (Td.p_lay_from_2 r19 r22 end_ goal).bind fun r25 =>
 some (Rx.ok (r25))) fun n_ => Rx.ex n_) fun n_ => Rx.ex n_) fun n_ => Rx.ex n_) fun n_ => Rx.ex n_
end Td

namespace Td
open Ty
def l_answer_2 (one : (List (List Int))) (two : (List (List Int))) (end_ : Int) (goal : Int) : Option ((Option (List Int)) × Txt) :=
 aft (tryL ((mapX (Td.p_laid_4 one two end_ goal) fun y5 => (y5, (tx []))).bind fun r_ => some (Lp.rt r_) : Option (Lp Unit (Rx ((Option (List Int)) × Txt)))) fun n6 =>
 (tabS ["Apart", "NoEnd"] "Apart" n6).bind fun b_ => if b_ = true then (tabS ["Apart", "NoEnd"] "FloorError" n6).bind fun v11 =>
 (if v11 = true then (tabS ["Apart", "NoEnd"] "NoEnd" n6).bind fun v12 =>
 some (decide (¬(v12 = true))) else some false).bind fun b13 =>
 if b13 = true then some (.rt ((none, (tx [65, 112, 97, 114, 116]))))
 else some (.go ())
 else (tabS ["Apart", "NoEnd"] "NoEnd" n6).bind fun b_ => if b_ = true then (tabS ["Apart", "NoEnd"] "FloorError" n6).bind fun v16 =>
 (if v16 = true then (tabS ["Apart", "NoEnd"] "Apart" n6).bind fun v17 =>
 some (decide (¬(v17 = true))) else some false).bind fun b18 =>
 if b18 = true then some (.rt ((none, (tx [78, 111, 69, 110, 100]))))
 else some (.go ())
 else none) (fun s20 =>
 some ((none, (tx [111, 116, 104, 101, 114])))) fun r_ => some r_
end Td

namespace Td
open Ty
def l_list_3 (found : (Option (List Int))) (due : (List Int)) : Option Bool :=
 Td.l_row_3 found due
end Td

namespace Td
open Ty
def l_well_5 (one : (List (List Int))) (two : (List (List Int))) (end_ : Int) (goal : Int) (known : (List Int)) : Option Bool :=
 (lcm one fun x3 : (List Int) => x3).bind fun ys6 =>
 (lcm two fun x7 : (List Int) => x7).bind fun ys10 =>
 lt ([ys6, ys10] : (List (List (List Int)))) fun kept =>
 (Td.l_answer_2 one two end_ goal).bind fun y14 =>
 if ([one, two] ≠ kept) then some (false)
 else (Td.l_part_count one).bind fun r19 =>
 (if (r19 ≠ 1) then some true else (Td.l_part_count two).bind fun r22 =>
 some (decide ((r22 ≠ 1)))).bind fun b23 =>
 if b23 = true then some (decide (y14.2 = (tx [65, 112, 97, 114, 116])))
 else (lcm one fun x24 : (List Int) => (x24.length : Int)).bind fun ys27 =>
 (if ¬((0 ≤ end_ ∧ end_ < ys27.sum)) then some true else (lcm two fun x28 : (List Int) => (x28.length : Int)).bind fun ys31 =>
 some (decide (¬((0 ≤ goal ∧ goal < ys31.sum))))).bind fun b32 =>
 if b32 = true then some (decide (y14.2 = (tx [78, 111, 69, 110, 100])))
 else lt (known : (List Int)) fun due =>
 (if (y14.2 ≠ (tx [])) then some true else (Td.l_list_3 y14.1 due).bind fun r37 =>
 some (decide (¬(r37 = true)))).bind fun b38 =>
 if b38 = true then some (false)
 else (if (y14.1 ≠ none) then (y14.1).bind fun told_39 =>
 (app told_39 0).bind fun told =>
 some ()
 else some () : Option Unit).bind fun j44 =>
 (Td.l_answer_2 one two end_ goal).bind fun y50 =>
 if (y50.2 = (tx [])) then (Td.l_list_3 y50.1 due).bind fun r55 =>
 some (decide (r55 = true ∧ ([one, two] = kept))) else some false
end Td

namespace Td
open Ty
def l_well_6 (one : (List (List Int))) (two : (List (List Int))) (end_ : Int) (goal : Int) (known : Unit) : Option Bool :=
 (lcm one fun x3 : (List Int) => x3).bind fun ys6 =>
 (lcm two fun x7 : (List Int) => x7).bind fun ys10 =>
 lt ([ys6, ys10] : (List (List (List Int)))) fun kept =>
 (Td.l_answer_2 one two end_ goal).bind fun y14 =>
 if ([one, two] ≠ kept) then some (false)
 else (Td.l_part_count one).bind fun r19 =>
 (if (r19 ≠ 1) then some true else (Td.l_part_count two).bind fun r22 =>
 some (decide ((r22 ≠ 1)))).bind fun b23 =>
 if b23 = true then some (decide (y14.2 = (tx [65, 112, 97, 114, 116])))
 else (lcm one fun x24 : (List Int) => (x24.length : Int)).bind fun ys27 =>
 (if ¬((0 ≤ end_ ∧ end_ < ys27.sum)) then some true else (lcm two fun x28 : (List Int) => (x28.length : Int)).bind fun ys31 =>
 some (decide (¬((0 ≤ goal ∧ goal < ys31.sum))))).bind fun b32 =>
 if b32 = true then some (decide (y14.2 = (tx [78, 111, 69, 110, 100])))
 else lt (known : Unit) fun due =>
 (Td.l_forced one two end_ goal).bind fun due =>
 (if (y14.2 ≠ (tx [])) then some true else (Td.l_list_4 y14.1 due).bind fun r42 =>
 some (decide (¬(r42 = true)))).bind fun b43 =>
 if b43 = true then some (false)
 else (if (y14.1 ≠ none) then (y14.1).bind fun told_44 =>
 (app told_44 0).bind fun told =>
 some ()
 else some () : Option Unit).bind fun j49 =>
 (Td.l_answer_2 one two end_ goal).bind fun y55 =>
 if (y55.2 = (tx [])) then (Td.l_list_4 y55.1 due).bind fun r60 =>
 some (decide (r60 = true ∧ ([one, two] = kept))) else some false
end Td

namespace Td
open Ty
def law_k72_2 (script : (List Int)) : Option Bool :=
 lt ((script, 0, 0, 0) : ((List Int) × Int × Int × Int)) fun box =>
 (Td.l_take box 12).bind fun r5 =>
 (Td.l_take r5.2 8).bind fun r9 =>
 (Td.l_take r9.2 6).bind fun r13 =>
 (Td.l_take r13.2 2).bind fun r17 =>
 (Td.l_take r17.2 16).bind fun r21 =>
 ((Td.l_take r21.2 8).bind fun r25 => (idx [6, 6, 6, 6, 6, 6, 6, 30] r25.1).bind fun z28 => some (r25, z28)).bind fun r27 =>
 (((Td.l_take r27.1.2 r27.2).bind fun r31 => (Td.l_take r31.2 r27.2).bind fun r35 => some (r31, r35)).bind fun r39 => Td.l_grown_3 r39.2.2 r39.1.1 r39.2.1).bind fun r40 =>
 (if (r21.1 = 0) then (Td.l_forty r40.2).bind fun r44 =>
 (pmul r5.1 (b2i (decide (r5.1 ≠ 6)))).bind fun way =>
 some (r44.2, way, r44.1)
 else some (r40.2, r5.1, r40.1) : Option (((List Int) × Int × Int × Int) × Int × (List (List Int)))).bind fun j49 =>
 (Td.l_named j49.1 j49.2.2).bind fun r52 =>
 (Td.l_take r52.2 (max 1 (r52.1.2.length : Int))).bind fun r58 =>
 (cat r52.1.2 [0]).bind fun v62 =>
 (idx v62 r58.1).bind fun goal =>
 (if ((r17.1 = 0) ∧ (j49.2.1 ≠ 0)) then (Td.l_take r58.2 (max 1 (r52.1.2.length : Int))).bind fun r66 =>
 some (r66.2, r66.1)
 else some (r58.2, goal) : Option (((List Int) × Int × Int × Int) × Int)).bind fun j68 =>
 (if (r9.1 < 2) then (Td.l_spoilt_4 j68.1 j49.2.1 j49.2.2).bind fun r73 =>
 some (r73.2, r73.1)
 else some (j68.1, j49.2.2) : Option (((List Int) × Int × Int × Int) × (List (List Int)))).bind fun j75 =>
 (if (0 < r9.1) then (Td.l_spoilt_4 j75.1 j49.2.1 r52.1.1).bind fun r82 =>
 some (r82.2, r82.1)
 else some (j75.1, r52.1.1) : Option (((List Int) × Int × Int × Int) × (List (List Int)))).bind fun j84 =>
 (if (r13.1 = 0) then (lcm j75.2 fun x89 : (List Int) => (x89.length : Int)).bind fun ys92 =>
 (Td.l_astray j84.1 ys92.sum).bind fun r93 =>
 some (r93.2, r93.1)
 else some (j84.1, r58.1) : Option (((List Int) × Int × Int × Int) × Int)).bind fun j95 =>
 (if (r13.1 = 1) then (lcm j84.2 fun x100 : (List Int) => (x100.length : Int)).bind fun ys103 =>
 (Td.l_astray j95.1 ys103.sum).bind fun r104 =>
 some r104.1
 else some j68.2 : Option (Int)).bind fun j106 =>
 if (j49.2.1 = 0) then Td.l_well_5 j75.2 j84.2 j95.2 j106 r52.1.2
 else Td.l_well_6 j75.2 j84.2 j95.2 j106 ()
end Td

namespace Td
open Ty
end Td

namespace Td
open Ty
variable {m : Nat} {R S : List (List Int)} {T : Int}
theorem row_le {n : Nat} (h : Dr n R) {r : List Int} (hr : r ∈ R) : r.length ≤ n := by
  have := (List.sublist_flatten_of_mem hr).length_le
  rw [h.len] at this; exact this
def pst (l : List Int) (e : Int) : List Int := l.drop (l.idxOf e + 1) ++ l.take (l.idxOf e)
def skg (T : Int) (J : List Int) (lo hi : Int) (x : Int × List Int) : List (List Int) := if x.1 = lo then [wo T J] else if x.1 ≠ hi then [wo T x.2] else []
end Td

namespace Td
open Ty
def Cj (m : Nat) (R : List (List Int)) (i j : Int) : Prop := ∀ S : Int → Prop, (∀ x, In (2 * m) x → S (hm R x) → S (hm R (mate x))) → S i → S j
variable {m : Nat} {R : List (List Int)} {T : Int}
structure PL (m : Nat) (R : List (List Int)) (Q : List (List Int)) : Prop where
  nd : Q.flatten.Nodup
  ne : ∀ g ∈ Q, g ≠ []
  cl : ∀ g ∈ Q, ∀ x, In (2 * m) x → hm R x ∈ g → hm R (mate x) ∈ g
  cn : ∀ g ∈ Q, ∀ i ∈ g, ∀ j ∈ g, Cj m R i j
  rg : ∀ g ∈ Q, ∀ i ∈ g, In R.length i
end Td

namespace Td
open Ty
def law_k77 (script : (List Int)) : Option Bool :=
 lt ((script, 0, 0, 0) : ((List Int) × Int × Int × Int)) fun box =>
 (Td.l_take box 6).bind fun r5 =>
 (Td.l_take r5.2 8).bind fun r9 =>
 ((rng 0 (1 + r5.1)).bind fun xs13 => ((lcm xs13 fun x14 : Int => ([] : (List Int))).bind fun ys17 => ((pmul 2 (1 + r9.1)).bind fun v18 => ((Td.l_lay_ends r9.2 ys17 0 v18).bind fun r19 => Td.l_named r19.2.1 r19.1).bind fun r23 => some (v18, r23)).bind fun r25 => some (ys17, r25)).bind fun r26 => some (xs13, r26)).bind fun r27 =>
 (Td.l_take r27.2.2.2.2 (1 + r9.1)).bind fun r32 =>
 (Td.l_lands_3 r27.2.2.2.1.1).bind fun lands =>
 (Td.l_seats_3 r27.2.2.2.1.1).bind fun seats =>
 (Td.l_seats_3 lands).bind fun over =>
 (Td.l_taken r27.2.2.2.1.1 r32.1).bind fun without =>
 (lcm r27.2.2.2.1.1 fun x56 : (List Int) => x56).bind fun ys59 =>
 (Td.p_other_of ys59).bind fun other =>
 (Td.l_rows_2 other lands).bind fun r65 =>
 if ¬(r65 = true) then some (false)
 else (pmul 2 r32.1).bind fun v66 =>
 (idx over v66).bind fun v67 =>
 (pmul 2 r32.1).bind fun v68 =>
 (idx over (v68 + 1)).bind fun v69 =>
 if (v67 = v69) then (Td.l_looped other r32.1).bind fun r72 =>
 if ¬(r72 = true) then some (false)
 else (pmul 2 r32.1).bind fun v73 =>
 (idx seats v73).bind fun v74 =>
 (pmul 2 r32.1).bind fun v75 =>
 (idx seats (v75 + 1)).bind fun v76 =>
 if (v74 = v76) then Td.l_looped r27.2.2.2.1.1 r32.1
 else (okX (Td.p_shrunk r27.2.2.2.1.1 r32.1)).bind fun r84 =>
 (Td.p_other_of r84).bind fun met =>
 (Td.l_taken lands r32.1).bind fun r92 =>
 (Td.l_rows_2 (lsrt met) (lsrt r92)).bind fun r95 =>
 if ¬(r95 = true) then some (false)
 else (Td.p_taken_2 lands r32.1).bind fun r98 =>
 (Td.l_taken lands r32.1).bind fun r101 =>
 Td.l_rows_2 r98 r101
 else (okX (Td.p_shrunk other r32.1)).bind fun met =>
 (Td.l_lands_3 without).bind fun r114 =>
 (Td.l_rows_2 (lsrt met) (lsrt r114)).bind fun r117 =>
 if ¬(r117 = true) then some (false)
 else (Td.p_taken_2 r27.2.2.2.1.1 r32.1).bind fun r120 =>
 (Td.p_other_of r120).bind fun r123 =>
 (Td.l_lands_3 without).bind fun r126 =>
 (Td.l_rows_2 r123 r126).bind fun r129 =>
 if ¬(r129 = true) then some (false)
 else (pmul 2 r32.1).bind fun v130 =>
 (idx seats v130).bind fun v131 =>
 (pmul 2 r32.1).bind fun v132 =>
 (idx seats (v132 + 1)).bind fun v133 =>
 if (v131 = v133) then Td.l_looped r27.2.2.2.1.1 r32.1
 else (okX (Td.p_shrunk r27.2.2.2.1.1 r32.1)).bind fun r141 =>
 (Td.p_other_of r141).bind fun met =>
 (Td.l_taken lands r32.1).bind fun r149 =>
 (Td.l_rows_2 (lsrt met) (lsrt r149)).bind fun r152 =>
 if ¬(r152 = true) then some (false)
 else (Td.p_taken_2 lands r32.1).bind fun r155 =>
 (Td.l_taken lands r32.1).bind fun r158 =>
 Td.l_rows_2 r155 r158
end Td

namespace Td
open Ty
variable {m : Nat} {R : List (List Int)} {T : Int}
end Td

namespace Td
open Ty
variable {m : Nat} {R : List (List Int)} {T : Int}
def ctZ (Z : Int → Bool) (L : List (List Int)) : Nat := (L.filter fun l => decide (l ≠ []) && Z (l.headD 0)).length
def ZP (R : List (List Int)) (P : List Int) (x : Int) : Bool := decide (hm R x ∈ P)
def PA (T : Int) (L S : List (List Int)) : Prop := ∃ l X Y rest, L.Perm (l :: rest) ∧ Rot l (2 * T :: (X ++ (2 * T + 1) :: Y)) ∧ S.Perm (wo T X :: wo T Y :: rest.map (wo T))
variable {L S : List (List Int)}
def swT (a b : Int) (F : Int → Int) (y : Int) : Int := if y = a then F b else if y = b then F a else y
end Td

namespace Td
open Ty
variable {m : Nat} {R : List (List Int)} {T : Int}
def rw_ (R : List (List Int)) (i : Int) : List Int := (R[i.toNat]?).getD []
theorem rw_mem {i : Int} (h : In R.length i) : rw_ R i ∈ R := by
  have := h.1; have := h.2
  unfold rw_
  rw [List.getElem?_eq_getElem (by omega)]
  exact List.getElem_mem _
theorem rw_hm {n : Nat} (h : Dr n R) {x : Int} (hx : In n x) {i : Int} (hi : In R.length i) : x ∈ rw_ R i ↔ i = hm R x := by
  have h0 := hi.1; have h1 := hi.2
  obtain ⟨j, hj, e, mj⟩ := hm_in h hx
  have er : rw_ R i = R[i.toNat]'(by omega) := by unfold rw_; rw [List.getElem?_eq_getElem (by omega)]; rfl
  constructor
  · intro q
    rw [er] at q
    have := hm_row h (by omega) q
    omega
  · intro q
    have : i.toNat = j := by omega
    rw [er]
    subst this
    exact mj
def BF (R : List (List Int)) (P : List Int) : Nat := (P.filter fun i => decide (rw_ R i = [])).length
def LF (R : List (List Int)) (P : List Int) : Nat := ctZ (ZP R P) (lands R)
section
variable {P : List Int}
end
end Td

namespace Td
open Ty
def l_is_walk (drawing : (List (List Int))) (ends : (List Int)) : Option Bool :=
 (Td.l_seats drawing).bind fun seats =>
 aft (forR ends (() : Unit) fun s7 x6 =>
 if ¬dhas seats x6 = true then some (.rt (false))
 else some (.go ())) (fun s10 =>
 (rng 0 (ends.length : Int)).bind fun xs13 =>
 aft (forR xs13 (() : Unit) fun s15 x14 =>
 (idx ends (x14 - 1)).bind fun v18 =>
 (Td.l_mate v18).bind fun r21 =>
 (dget seats r21).bind fun v22 =>
 (idx ends x14).bind fun v23 =>
 (dget seats v23).bind fun v24 =>
 if (v22 ≠ v24) then some (.rt (false))
 else some (.go ())) (fun s25 =>
 some (true)) fun r_ => some r_) fun r_ => some r_
end Td

namespace Td
open Ty
theorem getD_at {l : List Int} {k : Nat} {d : Int} (h : k < l.length) : l.getD k d = l[k] := by rw [List.getD, List.getElem?_eq_getElem h]; rfl
def Wk (n : Nat) (rows : List (List Int)) (ends : List Int) : Prop := (∀ x ∈ ends, In n x) ∧ ∀ k (h : k < ends.length), hm rows (mate ((prevs ends)[k]'(by simpa using h))) = hm rows ends[k]
theorem p_is_walk_ok {m : Nat} {rows : List (List Int)} (h : Dr (2 * m) rows) (hn : 2 * m ≤ 100000) (hl : rows.length ≤ 100000) (ends : List Int) (he : ends.length ≤ 200000) : Ok (p_is_walk rows ends) fun b => b = true ↔ Wk (2 * m) rows ends := by
  unfold p_is_walk
  refine Ok.bindE (homes_eq h hn hl) ?_
  rw [homes_len h]
  refine aft_for (fun pre _ => ∀ x ∈ pre, In (2 * m) x) (fun v : Bool => v = true ↔ Wk (2 * m) rows ends) (fun _ h => by cases h) (fun pre x post s e hp => ?_) (fun s hp => ?_) fun v hv => Ok.ret hv
  · refine Ok.ite (fun q => Ok.ret ?_) fun q => Ok.ret ?_
    · refine ⟨fun z => (by cases z), fun z => ?_⟩
      have t := z.1 x (by rw [e]; simp)
      have := t.1; have := t.2
      omega
    · intro y hy
      rcases List.mem_append.mp hy with z | z
      · exact hp y z
      · rw [List.mem_singleton.mp z]
        exact ⟨by omega, by omega⟩
  · refine Ok.bindE (lcp_all (fun x : Int × Int => decide (hm rows (mate ((prevs ends).getD x.1.toNat 0)) = hm rows x.2)) (by simp; omega) (fun _ _ => rfl) fun x hx => ?_) (Ok.ret ?_)
    · obtain ⟨k, hk, rfl⟩ := List.getElem_of_mem hx
      have hk' : k < ends.length := by simpa using hk
      have hpk : k < (prevs ends).length := by simpa using hk'
      rw [enu_getE hk]
      dsimp only
      rw [show ((0 + k : Nat) : Int) = (k : Int) by omega, prevs_idx hk', bs, p_mate_eq, bs]
      have i1 := hp _ ((prevs_perm ends).mem_iff.mp (List.getElem_mem hpk))
      have i2 := hp _ (List.getElem_mem hk')
      rw [homes_idx h (mate_in i1), bs, homes_idx h i2, bs]
      rw [show ((k : Int)).toNat = k by omega, getD_at hpk]
    · rw [List.all_map, List.all_eq_true]
      constructor
      · intro q
        refine ⟨hp, fun k hk => ?_⟩
        have hpk : k < (prevs ends).length := by simpa using hk
        have hek : k < (enu 0 ends).length := by simpa using hk
        have := q _ (List.getElem_mem hek)
        rw [enu_getE hek] at this
        simp only [Function.comp, id, decide_eq_true_eq] at this
        rw [show ((0 + k : Nat) : Int).toNat = k by omega, getD_at hpk] at this
        exact this
      · intro ⟨_, q⟩ x hx
        obtain ⟨k, hk, rfl⟩ := List.getElem_of_mem hx
        have hk' : k < ends.length := by simpa using hk
        have hpk : k < (prevs ends).length := by simpa using hk'
        rw [enu_getE hk]
        simp only [Function.comp, id, decide_eq_true_eq]
        rw [show ((0 + k : Nat) : Int).toNat = k by omega, getD_at hpk]
        exact q k hk'
end Td

namespace Td
open Ty
def l_is_turn (drawing : (List (List Int))) (ends : (List Int)) : Option Bool :=
 (if ((ends.length : Int) = 0) then some true else (Td.l_is_walk drawing ends).bind fun r3 =>
 some (decide (¬(r3 = true)))).bind fun b4 =>
 if b4 = true then some (false)
 else (Td.l_seats drawing).bind fun seats =>
 (lcp ends (fun x10 : Int => some true) fun x10 => (dget seats x10).bind fun v13 =>
 some v13).bind fun ys14 =>
 (dist ys14).bind fun v15 =>
 if (v15 ≠ (ends.length : Int)) then some (false)
 else (lcm ends fun x16 : Int => x16 / 2).bind fun ys19 =>
 (dist ys19).bind fun v20 =>
 some (decide (v20 = (ends.length : Int)))
end Td

namespace Td
open Ty
theorem dc_keys {κ : Type} {p : Int → Option Bool} {f : Int → Option (Int × Bool)} {g : Int → Int} : ∀ (xs : List Int) (m : List (Int × Bool)), (∀ x ∈ xs, p x = some true) → (∀ x ∈ xs, f x = some (g x, true)) → ∃ r, dcO p f xs m = some r ∧ r.map (·.1) = (xs.map g).foldl (fun l x => if x ∈ l then l else l ++ [x]) (m.map (·.1))
  | [], m, _, _ => ⟨m, rfl, rfl⟩
  | x :: xs, m, hp, hf => by
    obtain ⟨r, h1, h2⟩ := dc_keys (κ := κ) (p := p) (f := f) (g := g) xs (dput m (g x) true) (fun y hy => hp y (List.mem_cons_of_mem _ hy)) fun y hy => hf y (List.mem_cons_of_mem _ hy)
    refine ⟨r, ?_, ?_⟩
    · rw [dcO, hp x (List.mem_cons_self ..), bs, if_pos rfl, hf x (List.mem_cons_self ..), bs]
      exact h1
    · rw [h2, dput_keys, List.map_cons, List.foldl_cons]
theorem dcp_once {f : Int → Option (Int × Bool)} {g : Int → Int} {xs : List Int} (hl : xs.length ≤ 16777216) (hf : ∀ x ∈ xs, f x = some (g x, true)) : ∃ r, dcp xs (fun _ => some true) f = some r ∧ r.length = (once (xs.map g)).length := by
  obtain ⟨r, h1, h2⟩ := dc_keys (κ := Int) (p := fun _ => some true) (f := f) (g := g) xs [] (fun _ _ => rfl) hf
  refine ⟨r, by unfold dcp; rw [if_pos hl]; exact h1, ?_⟩
  have := congrArg List.length h2
  rw [List.length_map] at this
  exact this
end Td

namespace Td
open Ty
variable {m : Nat} {R : List (List Int)} {T : Int}
def E2 (R : List (List Int)) (P : List Int) : Nat := (P.map fun i => (rw_ R i).length).sum
def Eul (R : List (List Int)) (k : Nat) (P : List Int) (hh : Nat) : Prop := ∃ e, E2 R P = 2 * e ∧ 2 * k + e = P.length + (LF R P + BF R P) + 2 * hh

end Td

namespace Td
open Ty
structure Gd where
  z : Nat
  X : Nat → Int
  Y : Nat → Int
  up : Nat
def Gd.ax (G : Gd) (ρ : Nat) (x y : Int) : Int := x * G.X ρ + y * G.X ((G.up + ρ) % G.z)
def Gd.ay (G : Gd) (ρ : Nat) (x y : Int) : Int := x * G.Y ρ + y * G.Y ((G.up + ρ) % G.z)
def G4 : Gd := ⟨4, fun d => match d with | 0 => 1 | 2 => -1 | _ => 0, fun d => match d with | 1 => -1 | 3 => 1 | _ => 0, 3⟩
def G6 : Gd := ⟨6, fun d => match d with | 0 => 1 | 2 => -1 | 3 => -1 | 5 => 1 | _ => 0, fun d => match d with | 1 => -1 | 2 => -1 | 4 => 1 | 5 => 1 | _ => 0, 4⟩
structure Gd.Ok (G : Gd) : Prop where
  even : ∃ h, G.z = 2 * h ∧ 0 < h ∧ h ≤ 3
  ul : G.up < G.z
  r0 : G.X 0 = 1 ∧ G.Y 0 = 0
  ru : G.X G.up = 0 ∧ G.Y G.up = 1
  half : ∀ d < G.z, G.X ((d + G.z / 2) % G.z) = -G.X d ∧ G.Y ((d + G.z / 2) % G.z) = -G.Y d
  turn : ∀ d < G.z, ∀ ρ < G.z, G.ax ρ (G.X d) (G.Y d) = G.X ((d + ρ) % G.z) ∧ G.ay ρ (G.X d) (G.Y d) = G.Y ((d + ρ) % G.z)
structure KR (G : Gd) (rows : List (List Int)) (N : Nat) (E : Nat → Nat → Int) (pl : Int → Int → Nat) : Prop where
  pos : 0 < N
  dr : Dr (G.z * N) rows
  pll : ∀ x y, pl x y < N
  onto : ∀ q < N, ∃ x y, pl x y = q
  ein : ∀ q < N, ∀ d < G.z, In (G.z * N) (E q d)
  all : ∀ e, In (G.z * N) e → ∃ q d, q < N ∧ d < G.z ∧ E q d = e
  inj : ∀ q < N, ∀ d < G.z, ∀ p < N, ∀ f < G.z, E q d = E p f → q = p ∧ d = f
  nxt : ∀ q < N, ∀ d < G.z, nx rows (E q d) = E q ((d + 1) % G.z)
  mat : ∀ x y, ∀ d < G.z, mate (E (pl x y) d) = E (pl (x + G.X d) (y + G.Y d)) ((d + G.z / 2) % G.z)
  zero : pl 0 0 = 0 ∧ E 0 0 = 0
variable {G : Gd} {rows rows' : List (List Int)} {N N' : Nat} {E E' : Nat → Nat → Int} {pl pl' : Int → Int → Nat}
end Td

namespace Td
open Ty
theorem imod {a b : Nat} (hb : 0 < b) {x : Int} (h : x + (b : Int) = (a : Int)) : x % (b : Int) = ((a % b : Nat) : Int) := by
  rw [← Int.add_emod_right, h]; rfl
end Td

namespace Td
open Ty
theorem nx_least {n : Nat} {rows : List (List Int)} (h : Dr n rows) : Dr n (rows.map least) ∧ ∀ x, In n x → nx (rows.map least) x = nx rows x := by
  have d : Dr n (rows.map least) := (least_flat rows).trans h
  refine ⟨d, fun x hx => ?_⟩
  obtain ⟨r, hr, xr⟩ := List.mem_flatten.mp (h.in.mpr hx)
  have := nx_rot (f := id) h d hr (List.mem_map.mpr ⟨r, hr, rfl⟩) (a := r.idxOf (r.min?.getD 0)) List.idxOf_le_length (by rw [List.map_id]; rfl) xr
  exact this
theorem beg_least (xs : List Int) : beg xs = least xs := by
  unfold beg least
  cases h : xs.min? with
  | none => rw [List.min?_eq_none_iff.mp h]; rfl
  | some m => rfl
theorem kr_rows {z N st : Nat} {E : Nat → Nat → Int} (hz : 0 < z) (hst : st < z)
    (all : ∀ e, In (z * N) e → ∃ q d, q < N ∧ d < z ∧ E q d = e)
    {rows : List (List Int)} (hr : rows = (List.range N).map fun q => least ((List.range z).map fun i => E q ((st + i) % z))) :
    Dr (z * N) rows ∧ ∀ q < N, ∀ d < z, nx rows (E q d) = E q ((d + 1) % z) := by
  have lenf : ∀ M, ((List.range M).map fun q => (List.range z).map fun i => E q ((st + i) % z)).flatten.length = z * M := fun M => by
    induction M with
    | zero => simp
    | succ M ih => rw [List.range_succ, List.map_append, List.flatten_append, List.length_append, ih]; simp; rw [Nat.mul_succ]
  have d0 : Dr (z * N) ((List.range N).map fun q => (List.range z).map fun i => E q ((st + i) % z)) := by
    refine (perm_cov (span_nodup _ _) (fun x hx => ?_) (by rw [lenf, span_length]; omega)).symm
    obtain ⟨q, d, hq, hd, rfl⟩ := all x (mem_span.mp hx)
    refine List.mem_flatten.mpr ⟨_, List.mem_map.mpr ⟨q, List.mem_range.mpr hq, rfl⟩, List.mem_map.mpr ⟨(d + z - st) % z, List.mem_range.mpr (Nat.mod_lt _ hz), ?_⟩⟩
    rw [Nat.add_mod_mod, show st + (d + z - st) = d + z by omega, Nat.add_mod_right, Nat.mod_eq_of_lt hd]
  have e : rows = ((List.range N).map fun q => (List.range z).map fun i => E q ((st + i) % z)).map least := by rw [hr, List.map_map]; rfl
  rw [e]
  obtain ⟨d1, n1⟩ := nx_least d0
  refine ⟨d1, fun q hq d hd => ?_⟩
  have rm : ((List.range z).map fun i => E q ((st + i) % z)) ∈ ((List.range N).map fun q => (List.range z).map fun i => E q ((st + i) % z)) := List.mem_map.mpr ⟨q, List.mem_range.mpr hq, rfl⟩
  have hi : (d + z - st) % z < ((List.range z).map fun i => E q ((st + i) % z)).length := by simp; exact Nat.mod_lt _ hz
  have gi : (st + (d + z - st) % z) % z = d := by rw [Nat.add_mod_mod, show st + (d + z - st) = d + z by omega, Nat.add_mod_right, Nat.mod_eq_of_lt hd]
  have q1 := nx_row d0 rm hi
  rw [List.getElem_map, List.getElem_map, List.getElem_range, List.getElem_range, gi] at q1
  have hE : In (z * N) (E q d) := d0.in.mp (List.mem_flatten.mpr ⟨_, rm, by
    have := List.getElem_mem hi
    rw [List.getElem_map, List.getElem_range, gi] at this
    exact this⟩)
  rw [n1 _ hE, q1, List.length_map, List.length_range]
  congr 1
  rw [Nat.add_mod_mod, show st + ((d + z - st) % z + 1) = st + (d + z - st) % z + 1 by omega, ← Nat.mod_add_mod, gi]

def plc (r c s : Nat) (x y : Int) : Nat := (y % r).toNat * c + ((x + s * (y / r)) % c).toNat
theorem toNat_mod {a : Int} {c b : Nat} (hc : 0 < c) : ((a % (c : Int)).toNat + b) % c = ((a + b) % (c : Int)).toNat := by
  have h0 : 0 ≤ a % (c : Int) := Int.emod_nonneg _ (by omega)
  have h1 : 0 ≤ (a + b) % (c : Int) := Int.emod_nonneg _ (by omega)
  have : ((((a % (c : Int)).toNat + b) % c : Nat) : Int) = (((a + b) % (c : Int)).toNat : Int) := by
    rw [Int.natCast_emod, Int.natCast_add, Int.toNat_of_nonneg h0, Int.toNat_of_nonneg h1, Int.emod_add_emod]
  exact Int.ofNat.inj this
theorem toNat_lt {a : Int} {c : Nat} (hc : 0 < c) : (a % (c : Int)).toNat < c := by
  have h0 : 0 ≤ a % (c : Int) := Int.emod_nonneg _ (by omega)
  have h1 : a % (c : Int) < c := Int.emod_lt_of_pos _ (by omega)
  omega
variable {r c s : Nat}
theorem plc_lt (hr : 0 < r) (hc : 0 < c) (x y : Int) : plc r c s x y < r * c := by
  unfold plc
  have h1 := toNat_lt (a := y) hr
  have h2 := toNat_lt (a := x + s * (y / r)) hc
  have := Nat.mul_le_mul_right c (show (y % (r : Int)).toNat + 1 ≤ r by omega)
  rw [Nat.add_mul, Nat.one_mul] at this
  omega
theorem plc_onto (hr : 0 < r) (hc : 0 < c) : ∀ q < r * c, ∃ x y, plc r c s x y = q := fun q hq => by
  obtain ⟨i, j, e, hj, _, _⟩ := dmE (q := q) hc
  have hi : i < r := by
    refine Nat.lt_of_mul_lt_mul_right (a := c) ?_
    omega
  refine ⟨j, i, ?_⟩
  unfold plc
  rw [Int.emod_eq_of_lt (by omega) (by omega), Int.ediv_eq_zero_of_lt (by omega) (by omega), Int.mul_zero, Int.add_zero, Int.emod_eq_of_lt (by omega) (by omega), Int.toNat_natCast, Int.toNat_natCast, e]
theorem plc_zero : plc r c s 0 0 = 0 := by unfold plc; simp
theorem plc_rgt (hc : 0 < c) (x y : Int) : rgt c (plc r c s x y) = plc r c s (x + 1) y := by
  unfold rgt plc
  have h2 := toNat_lt (a := x + s * (y / r)) hc
  rw [(dm h2).1, (dm h2).2, toNat_mod hc]
  congr 3; omega
theorem plc_upp (hr : 0 < r) (hc : 0 < c) (x y : Int) : upp r c s (plc r c s x y) = plc r c s x (y + 1) := by
  unfold upp plc
  have h1 := toNat_lt (a := y) hr
  have h2 := toNat_lt (a := x + s * (y / r)) hc
  have h0 : 0 ≤ y % (r : Int) := Int.emod_nonneg _ (by omega)
  have ey := Int.mul_ediv_add_emod y r
  generalize hk : y / (r : Int) = k at *
  generalize ht : y % (r : Int) = t at *
  by_cases z : t.toNat < r - 1
  · have a1 : (y + 1) / (r : Int) = k ∧ (y + 1) % (r : Int) = t + 1 := (Int.ediv_emod_unique (by omega)).mpr ⟨by omega, by omega, by omega⟩
    have := Nat.mul_le_mul_right c (show t.toNat + 1 ≤ r - 1 by omega)
    rw [Nat.add_mul, Nat.one_mul] at this
    rw [if_pos (by omega), a1.1, a1.2, show (t + 1).toNat = t.toNat + 1 by omega, Nat.add_mul, Nat.one_mul]
    omega
  · have a1 : (y + 1) / (r : Int) = k + 1 ∧ (y + 1) % (r : Int) = 0 := (Int.ediv_emod_unique (by omega)).mpr ⟨by rw [Int.mul_add, Int.mul_one]; omega, by omega, by omega⟩
    have e : t.toNat = r - 1 := by omega
    rw [e, if_neg (by omega), a1.1, a1.2, Nat.add_sub_cancel_left, toNat_mod hc, Int.toNat_zero, Nat.zero_mul, Nat.zero_add, Int.mul_add, Int.mul_one, Int.add_assoc]
theorem plc_lft (hr : 0 < r) (hc : 0 < c) (x y : Int) : rgtI c (plc r c s x y) = plc r c s (x - 1) y := by
  have := plc_rgt (r := r) (s := s) hc (x - 1) y
  rw [Int.sub_add_cancel] at this
  rw [← this, (rgt_lt hc (plc_lt hr hc (x - 1) y)).2.2.2]
theorem plc_dwn (hr : 0 < r) (hs : s < c) (x y : Int) : uppI r c s (plc r c s x y) = plc r c s x (y - 1) := by
  have := plc_upp (s := s) hr (by omega : 0 < c) x (y - 1)
  rw [Int.sub_add_cancel] at this
  rw [← this, (upp_lt hr hs (plc_lt hr (by omega) x (y - 1))).2.2.2]

def cl4 (d : Nat) : Nat := match d with | 0 => 0 | 1 => 3 | 2 => 1 | _ => 2
def A4 (r c s d q : Nat) : Nat := match d with | 1 => uppI r c s q | 2 => rgtI c q | _ => q
def B4 (r c s d q : Nat) : Nat := match d with | 1 => upp r c s q | 2 => rgt c q | _ => q
def E4 (r c s q d : Nat) : Int := ((4 * A4 r c s d q + cl4 d : Nat) : Int)
theorem four_d {d : Nat} (h : d < 4) : d = 0 ∨ d = 1 ∨ d = 2 ∨ d = 3 := by omega
theorem kr4 (hr : 0 < r) (hs : s < c) {rows : List (List Int)} (e : rows = (List.range (r * c)).map fun q => beg [((4 * q + 2 : Nat) : Int), ((4 * q : Nat) : Int), ((4 * uppI r c s q + 3 : Nat) : Int), ((4 * rgtI c q + 1 : Nat) : Int)]) : KR G4 rows (r * c) (E4 r c s) (plc r c s) := by
  have hc : 0 < c := by omega
  have A : ∀ q < r * c, ∀ d < 4, A4 r c s d q < r * c ∧ B4 r c s d q < r * c ∧ A4 r c s d (B4 r c s d q) = q ∧ B4 r c s d (A4 r c s d q) = q := fun q hq d hd => by
    obtain ⟨a1, a2, a3, a4⟩ := upp_lt hr hs hq
    obtain ⟨b1, b2, b3, b4⟩ := rgt_lt (r := r) hc hq
    rcases four_d hd with z | z | z | z <;> subst z
    · exact ⟨hq, hq, rfl, rfl⟩
    · exact ⟨a2, a1, a4, a3⟩
    · exact ⟨b2, b1, b4, b3⟩
    · exact ⟨hq, hq, rfl, rfl⟩
  have cl : ∀ d, d < 4 → cl4 d < 4 := by decide
  have ein : ∀ q < r * c, ∀ d < 4, In (4 * (r * c)) (E4 r c s q d) := fun q hq d hd => by
    have := (A q hq d hd).1
    have := cl d hd
    unfold E4
    exact ⟨by omega, by omega⟩
  have all : ∀ x, In (4 * (r * c)) x → ∃ q d, q < r * c ∧ d < 4 ∧ E4 r c s q d = x := fun x hx => by
    have h0 := hx.1; have h1 := hx.2
    obtain ⟨n, rfl⟩ := Int.eq_ofNat_of_zero_le h0
    have ck : ∀ k, k < 4 → ∃ d, d < 4 ∧ cl4 d = k := by decide
    obtain ⟨d, hd, ed⟩ := ck (n % 4) (Nat.mod_lt _ (by decide))
    have hq : n / 4 < r * c := by omega
    refine ⟨B4 r c s d (n / 4), d, (A _ hq d hd).2.1, hd, ?_⟩
    unfold E4
    rw [(A _ hq d hd).2.2.1, ed, Nat.div_add_mod]
  obtain ⟨k1, k2⟩ := kr_rows (z := 4) (st := 3) (N := r * c) (E := E4 r c s) (by decide) (by decide) all (rows := rows) (by
    rw [e]
    apply List.map_congr_left
    intro q _
    rw [beg_least]
    congr 1)
  refine ⟨Nat.mul_pos hr hc, k1, plc_lt hr hc, plc_onto hr hc, ein, all, fun q hq d hd p hp f hf h => ?_, k2, fun x y d hd => ?_, plc_zero, rfl⟩
  · have a := cl d hd
    have b := cl f hf
    have h : 4 * A4 r c s d q + cl4 d = 4 * A4 r c s f p + cl4 f := by unfold E4 at h; omega
    have e1 : cl4 d = cl4 f := by omega
    have inj : ∀ d, d < 4 → ∀ f, f < 4 → cl4 d = cl4 f → d = f := by decide
    have e2 := inj d hd f hf e1
    subst e2
    refine ⟨?_, rfl⟩
    have : A4 r c s d q = A4 r c s d p := by omega
    have := congrArg (B4 r c s d) this
    rwa [(A q hq d hd).2.2.2, (A p hp d hd).2.2.2] at this
  · have hp := plc_lt (s := s) hr hc
    rcases four_d hd with z | z | z | z <;> subst z
    · show mate (((4 * plc r c s x y + 0 : Nat)) : Int) = ((4 * rgtI c (plc r c s (x + 1) (y + 0)) + 1 : Nat) : Int)
      rw [plc_lft hr hc, show x + 1 - 1 = x by omega, Int.add_zero]
      unfold mate; omega
    · show mate (((4 * uppI r c s (plc r c s x y) + 3 : Nat)) : Int) = ((4 * plc r c s (x + 0) (y + -1) + 2 : Nat) : Int)
      rw [plc_dwn hr hs, Int.add_zero, Int.add_neg_eq_sub]
      unfold mate; omega
    · show mate (((4 * rgtI c (plc r c s x y) + 1 : Nat)) : Int) = ((4 * plc r c s (x + -1) (y + 0) + 0 : Nat) : Int)
      rw [plc_lft hr hc, Int.add_zero, Int.add_neg_eq_sub]
      unfold mate; omega
    · show mate (((4 * plc r c s x y + 2 : Nat)) : Int) = ((4 * uppI r c s (plc r c s (x + 0) (y + 1)) + 3 : Nat) : Int)
      rw [plc_dwn hr hs, show y + 1 - 1 = y by omega, Int.add_zero]
      unfold mate; omega

def cl6 (d : Nat) : Nat := match d with | 0 => 0 | 1 => 3 | 2 => 5 | 3 => 1 | 4 => 2 | _ => 4
def A6 (r c s d q : Nat) : Nat := match d with | 1 => uppI r c s q | 2 => uppI r c s (rgtI c q) | 3 => rgtI c q | _ => q
def B6 (r c s d q : Nat) : Nat := match d with | 1 => upp r c s q | 2 => rgt c (upp r c s q) | 3 => rgt c q | _ => q
def E6 (r c s q d : Nat) : Int := ((6 * A6 r c s d q + cl6 d : Nat) : Int)
end Td

namespace Td
open Ty
def p_part_holes (drawing : (List (List Int))) (part : (List Int)) (lands : (List Int)) : Option Int :=
 (lcp part (fun x3 : Int => some true) fun x3 => (idx drawing x3).bind fun v6 =>
 some (v6.length : Int)).bind fun ys7 =>
 lt (ys7.sum / 2 : Int) fun ties =>
 (lcp part (fun x8 : Int => some true) fun x8 => (idx lands x8).bind fun v11 =>
 some v11).bind fun ys12 =>
 some ((((2 - (part.length : Int)) + ties) - ys12.sum) / 2)
end Td

namespace Td
open Ty
def p_holes_of (drawing : (List (List Int))) : Option (List Int) :=
 (Td.p_homes_of drawing).bind fun homes =>
 (lcm drawing fun x8 : (List Int) => if ¬(x8 ≠ []) then 1 else 0).bind fun lands =>
 (Td.p_lands_of drawing).bind fun r14 =>
 (forO r14 (lands : ((List Int))) fun s16 x15 =>
 (if x15 ≠ [] then (idx x15 0).bind fun v19 =>
 (idx homes v19).bind fun v20 =>
 (idx s16 v20).bind fun z21 =>
 lt (setI s16 v20 (z21 + 1)) fun lands =>
 some lands
 else some s16 : Option ((List Int))).bind fun j24 =>
 some j24).bind fun s27 =>
 (Td.p_parts_of drawing).bind fun r32 =>
 lcp r32 (fun x33 : (List Int) => some true) fun x33 => (Td.p_part_holes drawing x33 s27).bind fun r38 =>
 some r38
end Td

namespace Td
open Ty

variable {G : Gd} {rows : List (List Int)} {N : Nat} {E : Nat → Nat → Int} {pl : Int → Int → Nat}
def Gd.sx (G : Gd) (d : Nat) : Nat → Int
  | 0 => 0
  | j + 1 => G.sx d j + G.X ((d + j * (G.z / 2 + 1)) % G.z)
def Gd.sy (G : Gd) (d : Nat) : Nat → Int
  | 0 => 0
  | j + 1 => G.sy d j + G.Y ((d + j * (G.z / 2 + 1)) % G.z)
end Td

namespace Td
open Ty
variable {m : Nat} {R : List (List Int)}
structure PP (m : Nat) (R P : List (List Int)) : Prop where
  pl : PL m R P
  fl : P.flatten.Perm (span 0 (R.length : Int))
  up : ∀ g ∈ P, g.Pairwise (· < ·)
  hd : P.Pairwise fun a b => a.headD 0 < b.headD 0
end Td

namespace Td
open Ty
variable {m : Nat} {R : List (List Int)}
def cntL (R L : List (List Int)) (x : Int) : Nat := (L.filter fun l => decide (l ≠ []) && decide (hm R (l.headD 0) = x)).length
def hN (R : List (List Int)) (g : List Int) : Nat := (2 + E2 R g / 2 - (g.length + (LF R g + BF R g))) / 2
end Td

namespace Td
open Ty
variable {m : Nat} {R : List (List Int)} {T : Int}


def pn (z k : Int) : Int := if k < z then k else k - 1
def ps (lo hi k : Int) : Int := if k = hi then lo else pn hi k
structure Sh (T : Int) (R S : List (List Int)) (lo hi : Nat) (J : List Int) : Prop where
  lt : lo < hi
  hl : hi < R.length
  len : S.length + 1 = R.length
  rl : rw_ S lo = wo T J
  re : ∀ k : Int, In R.length k → k ≠ lo → k ≠ hi → rw_ S (pn hi k) = wo T (rw_ R k)
end Td

namespace Td
open Ty
variable {m : Nat} {R S : List (List Int)} {T : Int} {lo hi : Nat} {J : List Int}
structure JS (m : Nat) (T : Int) (R S : List (List Int)) (lo hi : Nat) (J : List Int) : Prop where
  sh : Sh T R S lo hi J
  ab : (hm R (2 * T) = lo ∧ hm R (2 * T + 1) = hi) ∨ (hm R (2 * T) = hi ∧ hm R (2 * T + 1) = lo)
  jm : ∀ x, x ∈ J ↔ ((x ≠ 2 * T ∧ x ≠ 2 * T + 1) ∧ In (2 * m) x ∧ (hm R x = lo ∨ hm R x = hi))
  jl : J.length + 2 = (rw_ R lo).length + (rw_ R hi).length
  sk : SK T R S
section
variable (j : JS m T R S lo hi J) (h : Dr (2 * m) R) (t0 : 0 ≤ T) (t1 : T < m)
include j
def shr (hi : Nat) (g : List Int) : List Int := (g.filter fun k : Int => decide (k ≠ (hi : Int))).map (pn hi)
end
end Td

namespace Td
open Ty
variable {m : Nat} {R S : List (List Int)} {T : Int} {lo hi : Nat} {J : List Int}
section
variable (j : JS m T R S lo hi J) (h : Dr (2 * m) R) (t0 : 0 ≤ T) (t1 : T < m)
include j h t0 t1
end
end Td

namespace Td
open Ty
def l_parted (rows : (List (List Int))) (one : Int) (two : Int) (many : Int) : Option (Unit × (List (List Int))) :=
 (pmod one (rows.length : Int)).bind fun p =>
 (idx rows p).bind fun v6 =>
 lt ((v6.length : Int) : Int) fun size =>
 (pmod two (max 1 size)).bind fun begin =>
 (idx rows p).bind fun v12 =>
 (idx rows p).bind fun v13 =>
 (cat (sl v12 (some begin) none) (sl v13 none (some begin))).bind fun row =>
 (pdiv two (max 1 size)).bind fun v17 =>
 (pmod v17 (size + 1)).bind fun cut_ =>
 (cat (sl row (some cut_) none) [many]).bind fun v19 =>
 (putI rows p v19).bind fun rows =>
 (cat (sl row none (some cut_)) [many + 1]).bind fun v23 =>
 (app rows v23).bind fun rows =>
 some ((), rows)
end Td

namespace Td
open Ty
def l_ahead_of (rows : (List (List Int))) (end_ : Int) (new : Int) : Option (Unit × (List (List Int))) :=
 (forW rows (() : Unit) fun s1 x2 =>
 (if (end_ ∈ x2) then (ixOf x2 end_).bind fun v5 =>
 (insI x2 v5 new).bind fun row =>
 some row
 else some x2 : Option ((List Int))).bind fun j12 =>
 some ((), j12)).bind fun s15 =>
 some ((), s15.2)
end Td

namespace Td
open Ty
def l_grown (rows : (List (List Int))) (cell : Int) (steps : Int) : Option ((List (List Int)) × (List (List Int))) :=
 (rep [2, 1009, 1013, 2] steps).bind fun v3 =>
 (Td.l_draws cell v3).bind fun draws =>
 (rng 0 steps).bind fun xs7 =>
 (forO xs7 (rows : ((List (List Int)))) fun s9 x8 =>
 (pmul 4 x8).bind fun v12 =>
 (pmul 4 x8).bind fun v13 =>
 (un4 (sl draws (some v12) (some (v13 + 4)))).bind fun y14 =>
 (lcm s9 fun x19 : (List Int) => (x19.length : Int)).bind fun ys22 =>
 lt (ys22.sum : Int) fun many =>
 (if (y14.1 = 1) then (Td.l_parted s9 y14.2.1 y14.2.2.1 many).bind fun r23 =>
 some r23.2
 else (if (many = 0) then (putI s9 0 [0, 1]).bind fun rows =>
 some rows
 else (pmod y14.2.1 many).bind fun goal =>
 (Td.l_land s9 goal).bind fun land =>
 (Td.l_ahead_of s9 goal (many + y14.2.2.2)).bind fun r38 =>
 (pmod y14.2.2.1 (land.length : Int)).bind fun v42 =>
 (idx land v42).bind fun v43 =>
 (Td.l_ahead_of r38.2 v43 ((many + 1) - y14.2.2.2)).bind fun r44 =>
 some r44.2 : Option ((List (List Int)))).bind fun j48 =>
 some j48 : Option ((List (List Int)))).bind fun j51 =>
 some j51).bind fun s54 =>
 (lcp s54 (fun x57 : (List Int) => some true) fun x57 => (Td.l_least x57).bind fun r62 =>
 some r62).bind fun ys63 =>
 some (ys63, s54)
end Td

namespace Td
open Ty
def l_great (cell : Int) : Option (List (List Int)) :=
 (Td.l_draws cell [101, 12, 1009]).bind fun r3 =>
 (un3 r3).bind fun y4 =>
 (pmul 2 y4.1).bind fun v9 =>
 (rng 0 (800 + v9)).bind fun ends =>
 (pmod y4.2.2 (ends.length : Int)).bind fun at_ =>
 (cat (sl ends (some at_) none) (sl ends none (some at_))).bind fun ends =>
 (rng 0 (y4.2.1 + 1)).bind fun xs17 =>
 lcp xs17 (fun x18 : Int => some true) fun x18 => (slS ends (some x18) none (y4.2.1 + 1)).bind fun ys21 =>
 some ys21
end Td

namespace Td
open Ty
def l_same (found : (List (List Int))) (due : (List (List Int))) : Option Bool :=
 if ((found.length : Int) ≠ (due.length : Int)) then some (false)
 else (rng 0 (due.length : Int)).bind fun xs1 =>
 aft (forR xs1 (() : Unit) fun s3 x2 =>
 (idx found x2).bind fun v6 =>
 (idx found x2).bind fun v7 =>
 (idx due x2).bind fun v8 =>
 if (v7 ≠ v8) then some (.rt (false))
 else (idx found x2).bind fun v9 =>
 aft (forR v9 (() : Unit) fun s11 x10 =>
 some (.go ())) (fun s14 =>
 some (.go ())) fun r_ => some (Lp.rt r_)) (fun s17 =>
 some (true)) fun r_ => some r_
end Td

namespace Td
open Ty
end Td

namespace Td
open Ty
end Td

namespace Td
open Ty
def law_k11_2 (script : (List Int)) : Option Bool :=
 (Td.l_cell script 0).bind fun first =>
 (if ((first % 2) = 0) then lt ((first / 2) % 10 : Int) fun ties =>
 (Td.l_cell script 1).bind fun r12 =>
 lt (r12 % 9 : Int) fun places =>
 (if ((0 < ties) ∧ (places = 0)) then lt (1 : Int) fun places =>
 some places
 else some places : Option (Int)).bind fun j15 =>
 (Td.l_cell script 2).bind fun r22 =>
 (Td.l_rows r22 ties j15).bind fun r25 =>
 (lcp r25 (fun x26 : (List Int) => some true) fun x26 => (Td.l_least x26).bind fun r31 =>
 some r31).bind fun rows =>
 some rows
 else (idx [[([] : (List Int))], [[0, 2, 1, 3]]] ((first / 2) % 2)).bind fun z37 =>
 (Td.l_cell script 2).bind fun r42 =>
 (Td.l_cell script 1).bind fun r45 =>
 (Td.l_grown z37 r42 (r45 % 15)).bind fun r46 =>
 some r46.1 : Option ((List (List Int)))).bind fun j48 =>
 (Td.l_cell script 3).bind fun r53 =>
 (Td.l_draws r53 [16]).bind fun r56 =>
 (idx r56 0).bind fun v57 =>
 (if (v57 = 7) then (Td.l_cell script 2).bind fun r62 =>
 (Td.l_great r62).bind fun r65 =>
 (lcp r65 (fun x66 : (List Int) => some true) fun x66 => (Td.l_least x66).bind fun r71 =>
 some r71).bind fun ys72 =>
 ((some [([] : (List Int))]).bind fun ys75 => cat ys72 ys75).bind fun z76 =>
 some z76
 else some j48 : Option ((List (List Int)))).bind fun j77 =>
 (Td.l_lands j77).bind fun due =>
 (lcm j77 fun x87 : (List Int) => x87).bind fun handed =>
 (Td.p_lands_of handed).bind fun found =>
 (Td.l_same found due).bind fun r98 =>
 if (¬(r98 = true) ∨ (handed ≠ j77)) then some (false)
 else (forW found (() : Unit) fun s99 x100 =>
 (app x100 0).bind fun land =>
 some ((), land)).bind fun s106 =>
 (lcp due (fun x109 : (List Int) => some true) fun x109 => (cat x109 [0]).bind fun v112 =>
 some v112).bind fun ys113 =>
 if (s106.2 ≠ ys113) then some (false)
 else (app s106.2 ([] : (List Int))).bind fun found =>
 (Td.p_lands_of handed).bind fun r119 =>
 (Td.l_same r119 due).bind fun r122 =>
 some (decide (r122 = true ∧ (handed = j77)))
end Td

namespace Td
open Ty
end Td

namespace Td
open Ty
def l_crossed_2 (a : Int) (b : Int) : Option (List (List Int)) :=
 (pmul 2 a).bind fun v3 =>
 (pmul 2 a).bind fun v4 =>
 (pmul 2 (a + b)).bind fun v5 =>
 lt ([[0, v3, v4 - 1, v5 - 1]] : (List (List Int))) fun rows =>
 (((rng 1 a).bind fun xs10 =>
 lcp xs10 (fun x11 : Int => some true) fun x11 => (pmul 2 x11).bind fun v14 =>
 (pmul 2 x11).bind fun v15 =>
 some [v14 - 1, v15]).bind fun ys17 => cat rows ys17).bind fun z18 =>
 (((rng 1 b).bind fun xs21 =>
 lcp xs21 (fun x22 : Int => some true) fun x22 => (pmul 2 a).bind fun v25 =>
 (pmul 2 x22).bind fun v26 =>
 (pmul 2 a).bind fun v27 =>
 (pmul 2 x22).bind fun v28 =>
 some [(v25 + v26) - 1, v27 + v28]).bind fun ys30 => cat z18 ys30).bind fun z31 => some (z31)
end Td

namespace Td
open Ty
def l_great_4 (cell : Int) : Option (List (List Int)) :=
 (Td.l_draws cell [101, 12, 1009, 2]).bind fun r3 =>
 (un4 r3).bind fun y4 =>
 if (y4.2.2.2 = 1) then (pmul 12 y4.1).bind fun v7 =>
 Td.l_crossed_2 (1 + (y4.2.2.1 % 250)) (1 + ((v7 + y4.2.1) % 250))
 else (pmul 2 y4.1).bind fun v13 =>
 (rng 0 (800 + v13)).bind fun ends =>
 (pmod y4.2.2.1 (ends.length : Int)).bind fun at_ =>
 (cat (sl ends (some at_) none) (sl ends none (some at_))).bind fun ends =>
 (rng 0 (y4.2.1 + 1)).bind fun xs21 =>
 lcp xs21 (fun x22 : Int => some true) fun x22 => (slS ends (some x22) none (y4.2.1 + 1)).bind fun ys25 =>
 some ys25
end Td

namespace Td
open Ty
def l_due_4 (rows : (List (List Int))) (tie : Int) : Option (List (List Int)) :=
 lt (([] : (List (List Int))) : (List (List Int))) fun due =>
 (forO rows (due : ((List (List Int)))) fun s4 x3 =>
 lt (([] : (List Int)) : (List Int)) fun kept =>
 (forO x3 (kept : ((List Int))) fun s12 x11 =>
 (pmul 2 tie).bind fun v15 =>
 (if (x11 < v15) then (app s12 x11).bind fun kept =>
 some kept
 else some s12 : Option ((List Int))).bind fun j19 =>
 (pmul 2 tie).bind fun v22 =>
 (if ((v22 + 1) < x11) then (app j19 (x11 - 2)).bind fun kept =>
 some kept
 else some j19 : Option ((List Int))).bind fun j26 =>
 some j26).bind fun s29 =>
 (Td.l_least s29).bind fun r34 =>
 (app s4 r34).bind fun due =>
 some due).bind fun s38 =>
 some (s38)
end Td

namespace Td
open Ty
def p_taken (drawing : (List (List Int))) (tie : Int) : Option (Rx (List (List Int))) :=
 bx (Td.p_check_tie drawing tie) (fun _ =>
 (lcp drawing (fun x5 : (List Int) => some true) fun x5 => (Td.p_without x5 tie).bind fun r10 =>
 some r10).bind fun ys11 =>
 some (Rx.ok (ys11))) fun n_ => Rx.ex n_
end Td

namespace Td
open Ty
def l_well_10 (rows : (List (List Int))) (tie : Int) (ties : Int) : Option Bool :=
 lt (() : Unit) fun found =>
 (lcm rows fun x7 : (List Int) => x7).bind fun handed =>
 aft (tryL (bx (Td.p_taken handed tie) (fun found =>
 some (.go (none, (some found)))) fun n_ => Lp.rt (Rx.ex n_) : Option (Lp ((Option (List Bool)) × (Option (List (List Int)))) (Rx Bool))) fun n15 =>
 (tabS ["NoTie"] "NoTie" n15).bind fun b_ => if b_ = true then (tabS ["NoTie"] "FloorError" n15).bind fun v22 =>
 (tabS ["NoTie"] "Looped" n15).bind fun v23 =>
 (tabS ["NoTie"] "NoDrawing" n15).bind fun v24 =>
 (tabS ["NoTie"] "NoEnd" n15).bind fun v25 =>
 lt ([v22, v23, v24, v25] : (List Bool)) fun word =>
 some (.go ((some word), none))
 else none) (fun s27 =>
 if (handed ≠ rows) then some (false)
 else if ((tie < 0) ∨ (ties ≤ tie)) then some (decide (s27.1 = (some [true, false, false, false])))
 else (if (s27.1 ≠ none) then some true else (if ¬((s27.2.isSome && true) = true) then some true else (Td.l_due_4 rows tie).bind fun r32 =>
 some (decide ((s27.2 ≠ (some r32))))).bind fun b33 =>
 some (decide (b33 = true))).bind fun b34 =>
 if b34 = true then some (false)
 else (s27.2).bind fun found_35 =>
 aft (forWR found_35 (() : Unit) fun s37 x38 =>
 (forO x38 (() : Unit) fun s44 x43 =>
 some ()).bind fun s47 =>
 some (.go ((), x38)) : Option (Lp (Unit × List (List Int)) (Bool × List (List Int)))) (fun s50 =>
 (Td.p_holes_of handed).bind fun r57 =>
 (Td.p_holes_of s50.2).bind fun r60 =>
 lt (r57.sum - r60.sum : Int) fun fall =>
 (forW s50.2 (() : Unit) fun s61 x62 =>
 (app x62 0).bind fun row =>
 some ((), row)).bind fun s68 =>
 (Td.l_due_4 rows tie).bind fun r73 =>
 (lcp r73 (fun x74 : (List Int) => some true) fun x74 => (cat x74 [0]).bind fun v77 =>
 some v77).bind fun ys78 =>
 if (s68.2 ≠ ys78) then some (false)
 else (okX (Td.p_taken handed tie)).bind fun kept =>
 (cat handed [([] : (List Int))]).bind fun v88 =>
 (okX (Td.p_taken v88 tie)).bind fun wider =>
 (Td.l_due_4 rows tie).bind fun r94 =>
 (cat r94 [([] : (List Int))]).bind fun v95 =>
 if (wider ≠ v95) then some (false)
 else if (handed = rows) then (if (0 ≤ fall ∧ fall ≤ 1) then (Td.l_due_4 rows tie).bind fun r98 =>
 some (decide (kept = r98)) else some false).bind fun b99 =>
 some b99 else some false) fun r_ => some r_.1) fun r_ => some r_
end Td

namespace Td
open Ty
def law_k16_3 (script : (List Int)) : Option Bool :=
 (Td.l_cell script 0).bind fun first =>
 (if ((first % 2) = 0) then (Td.l_cell script 2).bind fun r10 =>
 (Td.l_cell script 1).bind fun r13 =>
 (Td.l_rows r10 ((first / 2) % 10) (1 + (r13 % 8))).bind fun rows =>
 (lcp rows (fun x19 : (List Int) => some true) fun x19 => (Td.l_least x19).bind fun r24 =>
 some r24).bind fun rows =>
 some rows
 else (idx [[([] : (List Int))], [[0, 2, 1, 3]]] ((first / 2) % 2)).bind fun z30 =>
 (Td.l_cell script 2).bind fun r35 =>
 (Td.l_cell script 1).bind fun r38 =>
 (Td.l_grown z30 r35 (r38 % 10)).bind fun r39 =>
 some r39.1 : Option ((List (List Int)))).bind fun j41 =>
 (Td.l_cell script 4).bind fun r46 =>
 (Td.l_draws r46 [16]).bind fun r49 =>
 (idx r49 0).bind fun v50 =>
 (if (v50 = 7) then (Td.l_cell script 2).bind fun r55 =>
 (Td.l_great_4 r55).bind fun r58 =>
 (lcp r58 (fun x59 : (List Int) => some true) fun x59 => (Td.l_least x59).bind fun r64 =>
 some r64).bind fun rows =>
 some rows
 else some j41 : Option ((List (List Int)))).bind fun j66 =>
 (if ((first % 40) = 20) then lt (([] : (List (List Int))) : (List (List Int))) fun rows =>
 some rows
 else some j66 : Option ((List (List Int)))).bind fun j71 =>
 (lcm j71 fun x76 : (List Int) => (x76.length : Int)).bind fun ys79 =>
 lt (ys79.sum / 2 : Int) fun ties =>
 (Td.l_cell script 3).bind fun draw =>
 (pmod draw (ties + 6)).bind fun v87 =>
 lt (v87 - 3 : Int) fun tie =>
 (if (((draw / 35) % 13) = 5) then (pmul 2 ((draw / 455) % 2)).bind fun v90 =>
 (pmul (100000000000000000000000000000000000000000000000000000000000 + (draw % 1009)) (1 - v90)).bind fun tie =>
 some tie
 else some tie : Option (Int)).bind fun j92 =>
 (Td.l_well_10 j71 j92 ties).bind fun r97 =>
 if ¬(r97 = true) then some (false)
 else if (ties = 0) then some true else (pmod (draw / 910) ties).bind fun v98 =>
 (Td.l_well_10 j71 v98 ties).bind fun r101 =>
 some (decide (r101 = true))
end Td

namespace Td
open Ty
variable {m : Nat} {R : List (List Int)} {T : Int}
end Td

namespace Td
open Ty
def l_less (row : (List Int)) (tie : Int) : Option (List Int) :=
 lt (([] : (List Int)) : (List Int)) fun kept =>
 (forO row (kept : ((List Int))) fun s4 x3 =>
 (pmul 2 tie).bind fun v7 =>
 (if (x3 < v7) then (app s4 x3).bind fun kept =>
 some kept
 else some s4 : Option ((List Int))).bind fun j11 =>
 (pmul 2 tie).bind fun v14 =>
 (if ((v14 + 1) < x3) then (app j11 (x3 - 2)).bind fun kept =>
 some kept
 else some j11 : Option ((List Int))).bind fun j18 =>
 some j18).bind fun s21 =>
 Td.l_least s21
end Td

namespace Td
open Ty
def l_due_6 (rows : (List (List Int))) (tie : Int) (one : Int) (two : Int) : Option (List (List Int)) :=
 (idx rows one).bind fun v3 =>
 (pmul 2 tie).bind fun v4 =>
 (ixOf v3 v4).bind fun at_ =>
 (idx rows two).bind fun v8 =>
 (pmul 2 tie).bind fun v9 =>
 (ixOf v8 (v9 + 1)).bind fun by_ =>
 (idx rows one).bind fun v13 =>
 (idx rows two).bind fun v14 =>
 (cat (sl v13 none (some at_)) (sl v14 (some (by_ + 1)) none)).bind fun both =>
 (idx rows two).bind fun v18 =>
 (cat both (sl v18 none (some by_))).bind fun v19 =>
 (idx rows one).bind fun v20 =>
 (cat v19 (sl v20 (some (at_ + 1)) none)).bind fun both =>
 lt (([] : (List (List Int))) : (List (List Int))) fun due =>
 (rng 0 (rows.length : Int)).bind fun xs24 =>
 (forO xs24 (due : ((List (List Int)))) fun s26 x25 =>
 (if (x25 = (min one two)) then (Td.l_less both tie).bind fun r31 =>
 (app s26 r31).bind fun due =>
 some due
 else (if (x25 ≠ (max one two)) then (idx rows x25).bind fun v35 =>
 (Td.l_less v35 tie).bind fun r38 =>
 (app s26 r38).bind fun due =>
 some due
 else some s26 : Option ((List (List Int)))).bind fun j42 =>
 some j42 : Option ((List (List Int)))).bind fun j45 =>
 some j45).bind fun s48 =>
 some (s48)
end Td

namespace Td
open Ty
def l_seats_2 (rows : (List (List Int))) : Option (List Int) :=
 (lcm rows fun x3 : (List Int) => (x3.length : Int)).bind fun ys6 =>
 (rep [0] ys6.sum).bind fun seats =>
 (rng 0 (rows.length : Int)).bind fun xs8 =>
 (forO xs8 (seats : ((List Int))) fun s10 x9 =>
 (idx rows x9).bind fun v13 =>
 (forO v13 (s10 : ((List Int))) fun s15 x14 =>
 (putI s15 x14 x9).bind fun seats =>
 some seats).bind fun s21 =>
 some s21).bind fun s24 =>
 some (s24)
end Td

namespace Td
open Ty
def l_well_11 (rows : (List (List Int))) (tie : Int) (ties : Int) : Option Bool :=
 lt (() : Unit) fun found =>
 (lcm rows fun x7 : (List Int) => x7).bind fun handed =>
 aft (tryL (bx (Td.p_shrunk handed tie) (fun found =>
 some (.go (none, (some found)))) fun n_ => Lp.rt (Rx.ex n_) : Option (Lp ((Option (Txt × Bool × Bool)) × (Option (List (List Int)))) (Rx Bool))) fun n15 =>
 (tabS ["Looped", "NoTie"] "NoTie" n15).bind fun b_ => if b_ = true then (tabS ["Looped", "NoTie"] "FloorError" n15).bind fun v22 =>
 (tabS ["Looped", "NoTie"] "Looped" n15).bind fun v23 =>
 lt (((tx [110, 111, 32, 116, 105, 101]), v22, v23) : (Txt × Bool × Bool)) fun word =>
 some (.go ((some word), none))
 else (tabS ["Looped", "NoTie"] "Looped" n15).bind fun b_ => if b_ = true then (tabS ["Looped", "NoTie"] "FloorError" n15).bind fun v28 =>
 (tabS ["Looped", "NoTie"] "NoTie" n15).bind fun v29 =>
 lt (((tx [108, 111, 111, 112, 101, 100]), v28, v29) : (Txt × Bool × Bool)) fun word =>
 some (.go ((some word), none))
 else none) (fun s31 =>
 if (handed ≠ rows) then some (false)
 else if ((tie < 0) ∨ (ties ≤ tie)) then some (decide (s31.1 = (some ((tx [110, 111, 32, 116, 105, 101]), true, false))))
 else (Td.l_seats_2 rows).bind fun seats =>
 (pmul 2 tie).bind fun v39 =>
 (idx seats v39).bind fun v40 =>
 (pmul 2 tie).bind fun v41 =>
 (idx seats (v41 + 1)).bind fun v42 =>
 if (v40 = v42) then some (decide (s31.1 = (some ((tx [108, 111, 111, 112, 101, 100]), true, false))))
 else (pmul 2 tie).bind fun v45 =>
 (idx seats v45).bind fun v46 =>
 (pmul 2 tie).bind fun v47 =>
 (idx seats (v47 + 1)).bind fun v48 =>
 (Td.l_due_6 rows tie v46 v48).bind fun due =>
 if ((s31.1 ≠ none) ∨ (¬((s31.2.isSome && true) = true) ∨ (s31.2 ≠ (some due)))) then some (false)
 else (s31.2).bind fun u52 =>
 (Td.p_holes_of u52).bind fun r55 =>
 (Td.p_holes_of handed).bind fun r58 =>
 (if (r55 ≠ r58) then some true else (s31.2).bind fun u59 =>
 (Td.p_lands_of u59).bind fun r62 =>
 (Td.p_lands_of handed).bind fun r65 =>
 some (decide (((r62.length : Int) ≠ (r65.length : Int))))).bind fun b66 =>
 if b66 = true then some (false)
 else (s31.2).bind fun found_67 =>
 (forW found_67 (() : Unit) fun s69 x70 =>
 (app x70 0).bind fun row =>
 some ((), row)).bind fun s76 =>
 (lcp due (fun x79 : (List Int) => some true) fun x79 => (cat x79 [0]).bind fun v82 =>
 some v82).bind fun ys83 =>
 if (s76.2 ≠ ys83) then some (false)
 else (okX (Td.p_shrunk handed tie)).bind fun kept =>
 (cat handed [([] : (List Int))]).bind fun v95 =>
 (okX (Td.p_shrunk v95 tie)).bind fun wider =>
 if (handed = rows) then (cat due [([] : (List Int))]).bind fun v99 =>
 some (decide ((wider = v99) ∧ (kept = due))) else some false) fun r_ => some r_
end Td

namespace Td
open Ty
def law_k17 (script : (List Int)) : Option Bool :=
 (Td.l_cell script 0).bind fun first =>
 (if ((first % 2) = 0) then (Td.l_cell script 2).bind fun r10 =>
 (Td.l_cell script 1).bind fun r13 =>
 (Td.l_rows r10 ((first / 2) % 10) (1 + (r13 % 8))).bind fun rows =>
 (lcp rows (fun x19 : (List Int) => some true) fun x19 => (Td.l_least x19).bind fun r24 =>
 some r24).bind fun rows =>
 some rows
 else (idx [[([] : (List Int))], [[0, 2, 1, 3]]] ((first / 2) % 2)).bind fun z30 =>
 (Td.l_cell script 2).bind fun r35 =>
 (Td.l_cell script 1).bind fun r38 =>
 (Td.l_grown z30 r35 (r38 % 10)).bind fun r39 =>
 some r39.1 : Option ((List (List Int)))).bind fun j41 =>
 (Td.l_cell script 4).bind fun r46 =>
 (Td.l_draws r46 [16]).bind fun r49 =>
 (idx r49 0).bind fun v50 =>
 (if (v50 = 7) then (Td.l_cell script 2).bind fun r55 =>
 (Td.l_great_4 r55).bind fun r58 =>
 (lcp r58 (fun x59 : (List Int) => some true) fun x59 => (Td.l_least x59).bind fun r64 =>
 some r64).bind fun rows =>
 some rows
 else some j41 : Option ((List (List Int)))).bind fun j66 =>
 (if ((first % 40) = 20) then lt (([] : (List (List Int))) : (List (List Int))) fun rows =>
 some rows
 else some j66 : Option ((List (List Int)))).bind fun j71 =>
 (lcm j71 fun x76 : (List Int) => (x76.length : Int)).bind fun ys79 =>
 lt (ys79.sum / 2 : Int) fun ties =>
 (Td.l_cell script 3).bind fun draw =>
 (pmod draw (ties + 6)).bind fun v87 =>
 lt (v87 - 3 : Int) fun tie =>
 (if (((draw / 35) % 13) = 5) then (pmul 2 ((draw / 455) % 2)).bind fun v90 =>
 (pmul (100000000000000000000000000000000000000000000000000000000000 + (draw % 1009)) (1 - v90)).bind fun tie =>
 some tie
 else some tie : Option (Int)).bind fun j92 =>
 (Td.l_well_11 j71 j92 ties).bind fun r97 =>
 if ¬(r97 = true) then some (false)
 else if (ties = 0) then some true else (pmod (draw / 910) ties).bind fun v98 =>
 (Td.l_well_11 j71 v98 ties).bind fun r101 =>
 some (decide (r101 = true))
end Td

namespace Td
open Ty
variable {m : Nat} {R : List (List Int)} {T : Int}
theorem forO_congr {α σ : Type} {f g : σ → α → Option σ} : ∀ {xs : List α} {s : σ}, (∀ x ∈ xs, ∀ s, f s x = g s x) → forO xs s f = forO xs s g
  | [], _, _ => rfl
  | x :: xs, s, h => by
    rw [forO, forO, h x (List.mem_cons_self ..)]
    cases g s x with
    | none => rfl
    | some s' => rw [bs, bs]; exact forO_congr fun y hy => h y (List.mem_cons_of_mem _ hy)
def skL (T : Int) (R : List (List Int)) (i j : Nat) : List (List Int) := (enu 0 R).flatMap (skg T (pst (rw_ R i) (2 * T) ++ pst (rw_ R j) (2 * T + 1)) (min (i : Int) j) (max (i : Int) j))
end Td

namespace Td
open Ty
def p_check_round_2 (drawing : (List (List Int))) (ends : (List Int)) : Option (Rx Unit) :=
 (Td.p_is_round drawing ends).bind fun r3 =>
 if ¬(r3 = true) then some (Rx.ex "NoRound")
 else some (Rx.ok (()))
end Td

namespace Td
open Ty
def p_cut_along_2 (drawing : (List (List Int))) (turn : (List Int)) : Option (Rx ((List (List Int)) × (List Int) × (List Int))) :=
 bx (Td.p_check_round_2 drawing turn) (fun _ =>
 (Td.p_homes_of drawing).bind fun homes =>
 (Td.p_behind_of drawing).bind fun behind =>
 (rng 0 (turn.length : Int)).bind fun xs17 =>
 (lcp xs17 (fun x18 : Int => some true) fun x18 => (pmul 2 x18).bind fun v21 =>
 some ((behind.length : Int) + v21)).bind fun edge =>
 (lcm drawing fun x25 : (List Int) => x25).bind fun rows =>
 (Td.p_visits_of turn).bind fun r31 =>
 (forO (enu 0 r31) (rows : ((List (List Int)))) fun s33 x32 =>
 (Td.p_between behind x32.2.1 x32.2.2).bind fun r38 =>
 (cat [x32.2.1] r38).bind fun v39 =>
 (cat v39 [x32.2.2]).bind fun v40 =>
 (Td.p_begun_least v40).bind fun r43 =>
 (idx homes x32.2.2).bind fun v44 =>
 (putI s33 v44 r43).bind fun rows =>
 (idx edge x32.1).bind fun v48 =>
 (Td.p_between behind x32.2.2 x32.2.1).bind fun r51 =>
 (cat [v48] r51).bind fun v52 =>
 (idx edge (x32.1 - 1)).bind fun v53 =>
 (cat v52 [v53 + 1]).bind fun v54 =>
 (Td.p_begun_least v54).bind fun r57 =>
 (app rows r57).bind fun rows =>
 some rows).bind fun s61 =>
 some (Rx.ok ((s61, turn, edge)))) fun n_ => Rx.ex n_
end Td

namespace Td
open Ty
def l_round (rows : (List (List Int))) (turn : (List Int)) : Option Bool :=
 (Td.l_seats_3 rows).bind fun seats =>
 aft (forR turn (() : Unit) fun s7 x6 =>
 if ((x6 < 0) ∨ ((seats.length : Int) ≤ x6)) then some (.rt (false))
 else some (.go ())) (fun s10 =>
 aft (forR (enu 0 turn) (() : Unit) fun s14 x13 =>
 (idx turn (x13.1 - 1)).bind fun v17 =>
 (Td.l_mate v17).bind fun r20 =>
 (idx seats r20).bind fun v21 =>
 (idx seats x13.2).bind fun v22 =>
 if (v21 ≠ v22) then some (.rt (false))
 else some (.go ())) (fun s23 =>
 (lcp turn (fun x28 : Int => some true) fun x28 => (idx seats x28).bind fun v31 =>
 some v31).bind fun places =>
 (lcm turn fun x35 : Int => x35 / 2).bind fun ties =>
 if (0 < (turn.length : Int)) then (dist places).bind fun v39 =>
 (if (v39 = (turn.length : Int)) then (dist ties).bind fun v40 =>
 some (decide (v40 = (turn.length : Int))) else some false).bind fun b41 =>
 some b41 else some false) fun r_ => some r_) fun r_ => some r_
end Td

namespace Td
open Ty
variable {m : Nat} {R : List (List Int)}
theorem between_rot (h : Dr (2 * m) R) (hn : 2 * m ≤ 10000) {row : List Int} (hr : row ∈ R) {c g : Int} {A B : List Int} (r : Rot row (c :: (A ++ g :: B))) : p_between (behindL R) c g = some A := by
  have nd := row_nd h hr
  have inr : ∀ x ∈ row, In (2 * m) x := fun x hx => h.in.mp (List.mem_flatten.mpr ⟨row, hr, hx⟩)
  have go : ∀ (A : List Int) (x : Int) (B found : List Int) (n : Nat), Rot row (x :: (A ++ g :: B)) → A.length < n → found.length + A.length ≤ 20000 →
      whO n ((found, nx R x) : List Int × Int) (fun s6 => some (decide ((s6.2 ≠ g)))) (fun s6 => (app s6.1 s6.2).bind fun found => (idx (behindL R) s6.2).bind fun end_ => some (found, end_)) = some (found ++ A, g) := fun A => by
    induction A with
    | nil =>
      intro x B found n r hn' _
      have e : nx R x = g := nx_cyc h hr r
      cases n with
      | zero => simp at hn'
      | succ n => rw [whO, e, bs, if_neg (by simp), List.append_nil]
    | cons y A ih =>
      intro x B found n r hn' hf
      have e : nx R x = y := nx_cyc h hr r
      have nd2 := r.perm.nodup_iff.mp nd
      have yg : y ≠ g := fun z => by subst z; simp at nd2
      have iy := inr y (r.perm.mem_iff.mpr (by simp))
      cases n with
      | zero => simp at hn'
      | succ n =>
        simp only [List.length_cons] at hn' hf
        rw [whO, e, bs, if_pos (by simpa using yg), app_ok (by dsimp only; omega), bs, h.idx iy, bs, bs]
        have r2 : Rot row (y :: (A ++ g :: (B ++ [x]))) := by
          have := r.cons
          simpa using this
        rw [ih y (B ++ [x]) (found ++ [y]) n r2 (by omega) (by simp; omega)]
        simp
  have ic := inr c (r.perm.mem_iff.mpr (List.mem_cons_self ..))
  have la : A.length ≤ 10000 := by
    have := r.perm.length_eq
    have := row_le h hr
    simp at *; omega
  unfold p_between
  rw [lt_eq, h.idx ic, bs, go A c B [] 100000 r (by omega) (by simp; omega), bs]
  rfl
structure Rd (m : Nat) (R : List (List Int)) (w : List Int) : Prop where
  wk : Wk (2 * m) R w
  ne : 0 < w.length
  pl : (once (w.map (hm R))).length = w.length
  ti : (once (w.map fun x => x / 2)).length = w.length
theorem round_ok (h : Dr (2 * m) R) (hn : 2 * m ≤ 10000) (hl : R.length ≤ 10000) (w : List Int) (hw : w.length < 4000) : ∃ b, p_is_round R w = some b ∧ l_round R w = some b ∧ (b = true ↔ Rd m R w) := by
  have one : ∃ b, p_is_round R w = some b ∧ (b = true ↔ Rd m R w) := by
    unfold p_is_round
    by_cases h0 : w = []
    · subst h0
      exact ⟨false, rfl, fun z => (by cases z), fun z => absurd z.ne (by simp)⟩
    · rw [if_neg (fun z => z h0)]
      obtain ⟨b, b1, b2⟩ := p_is_walk_ok h (by omega) (by omega) w (by omega)
      rw [b1, bs, bs]
      cases b with
      | false => exact ⟨false, rfl, fun z => (by cases z), fun z => by have := b2.mpr z.wk; cases this⟩
      | true =>
        have wk := b2.mp rfl
        obtain ⟨r1, e1, l1⟩ := dcp_once (f := fun x12 => (idx (homesL R) x12).bind fun v15 => some (v15, true)) (g := hm R) (xs := w) (by omega) fun x hx => by rw [homes_idx h (wk.1 x hx), bs]
        obtain ⟨r2, e2, l2⟩ := dcp_once (f := fun x21 => some (x21 / 2, true)) (g := fun x => x / 2) (xs := w) (by omega) fun x hx => rfl
        rw [if_neg (by simp), homes_eq h (by omega) (by omega), bs, e1, bs, e2, bs, l1, l2]
        refine ⟨_, rfl, ?_⟩
        rw [decide_eq_true_iff]
        exact ⟨fun q => ⟨wk, List.length_pos_iff.mpr h0, by omega, by omega⟩, fun q => ⟨by have := q.pl; omega, by have := q.ti; omega⟩⟩
  have two : Ok (l_round R w) fun b => b = true ↔ Rd m R w := by
    unfold l_round
    refine Ok.bindE (seats3_eq h (by omega) (by omega)) ?_
    rw [homes_len h]
    refine aft_for (fun pre _ => ∀ x ∈ pre, In (2 * m) x) (fun v : Bool => v = true ↔ Rd m R w) (fun _ h => by cases h) (fun pre x post s e hp => ?_) (fun s hp => ?_) fun v hv => Ok.ret hv
    · refine Ok.ite (fun q => Ok.ret ?_) fun q => Ok.ret ?_
      · refine ⟨fun z => (by cases z), fun z => ?_⟩
        have t := z.wk.1 x (by rw [e]; simp)
        have := t.1; have := t.2
        omega
      · intro y hy
        rcases List.mem_append.mp hy with z | z
        · exact hp y z
        · rw [List.mem_singleton.mp z]
          exact ⟨by omega, by omega⟩
    · refine aft_for (fun pre _ => ∀ k (hk : k < pre.length) (hk' : k < w.length), hm R (mate ((prevs w)[k]'(by simpa using hk'))) = hm R w[k]) (fun v : Bool => v = true ↔ Rd m R w) (fun k hk => by simp at hk) (fun pre x post s e hq => ?_) (fun s hq => ?_) fun v hv => Ok.ret hv
      · have hlen : pre.length < w.length := by
          have := congrArg List.length e
          rw [enu_length] at this
          simp at this; omega
        have hpk : pre.length < (prevs w).length := by simpa using hlen
        have ex : x = ((pre.length : Int), w[pre.length]) := by
          have g := enu_getE (i := 0) (xs := w) (k := pre.length) (by rw [enu_length]; exact hlen)
          have : (enu 0 w)[pre.length]'(by rw [enu_length]; exact hlen) = x := by simp [e]
          rw [this] at g
          rw [g]
          congr 1
          omega
        subst ex
        dsimp only
        have i1 := hp _ ((prevs_perm w).mem_iff.mp (List.getElem_mem hpk))
        have i2 := hp _ (List.getElem_mem hlen)
        rw [prevs_idx hlen, bs, l_mate_eq, bs, homes_idx h (mate_in i1), bs, homes_idx h i2, bs]
        refine Ok.ite (fun q => Ok.ret ⟨fun z => (by cases z), fun z => absurd (z.wk.2 _ hlen) q⟩) fun q => Ok.ret fun k hk hk' => ?_
        rw [List.length_append, List.length_singleton] at hk
        by_cases c : k = pre.length
        · subst c
          exact Classical.not_not.mp q
        · exact hq k (by omega) hk'
      · rw [enu_length] at hq
        have wk : Wk (2 * m) R w := ⟨hp, fun k hk => hq k hk hk⟩
        rw [lcp_all (hm R) (by omega) (fun _ _ => rfl) (fun x hx => by rw [homes_idx h (hp x hx), bs]), bs, lcm_ok (by omega), bs, dist_ok (by simpa using hw)]
        by_cases c : 0 < (w.length : Int)
        · rw [if_pos c, bs, dist_ok (by simpa using hw)]
          by_cases d : ((once (w.map (hm R))).length : Int) = (w.length : Int)
          · rw [if_pos d, bs, bs]
            refine Ok.ret ?_
            rw [decide_eq_true_iff]
            exact ⟨fun q => ⟨wk, by omega, by omega, by omega⟩, fun q => by have := q.ti; omega⟩
          · rw [if_neg d, bs]
            exact Ok.ret ⟨fun z => (by cases z), fun z => absurd (by have := z.pl; omega) d⟩
        · rw [if_neg c]
          exact Ok.ret ⟨fun z => (by cases z), fun z => absurd (by have := z.ne; omega) c⟩
  obtain ⟨b, e1, i1⟩ := one
  obtain ⟨c, e2, i2⟩ := two
  have bc : b = c := by
    rw [Bool.eq_iff_iff, i1, i2]
  exact ⟨b, e1, by rw [e2, bc], i1⟩
theorem once_inj : ∀ {xs : List Int} {i j : Nat} (hi : i < xs.length) (hj : j < xs.length), (once xs).length = xs.length → xs[i] = xs[j] → i = j := fun {xs i j} hi hj e q => by
  have nd : xs.Nodup := by
    have key : ∀ (ys acc : List Int), (ys.foldl (fun l x => if x ∈ l then l else l ++ [x]) acc).length ≤ acc.length + ys.length ∧ ((ys.foldl (fun l x => if x ∈ l then l else l ++ [x]) acc).length = acc.length + ys.length → acc.Nodup → (acc ++ ys).Nodup) := fun ys => by
      induction ys with
      | nil => intro acc; exact ⟨by simp, fun _ h => by simpa using h⟩
      | cons y ys ih =>
        intro acc
        rw [List.foldl_cons]
        by_cases c : y ∈ acc
        · rw [if_pos c]
          have := (ih acc).1
          exact ⟨by simp; omega, fun z => by simp at z; omega⟩
        · rw [if_neg c]
          obtain ⟨i1, i2⟩ := ih (acc ++ [y])
          rw [List.length_append, List.length_singleton] at i1 i2
          refine ⟨by simp; omega, fun z nd => ?_⟩
          have := i2 (by simp at z; omega) (by
            rw [List.nodup_append]
            exact ⟨nd, by simp, fun a ha b hb ab => by rw [List.mem_singleton.mp hb] at ab; exact c (by rw [← ab]; exact ha)⟩)
          simpa using this
    have := (key xs []).2 (by unfold once at e; simpa using e) (by simp)
    simpa using this
  exact (nd_inj nd).mp q
theorem cut_turn (h : Dr (2 * m) R) (hn : 2 * m ≤ 1000) (hl : R.length ≤ 1000) {w : List Int} (hw : w.length < 1000) (d : Rd m R w) {k : Nat} (hk : k < w.length) : ∃ A B : List Int, Rot (rw_ R (hm R w[k])) (mate ((prevs w)[k]'(by simpa using hk)) :: (A ++ w[k] :: B)) ∧ l_begun_2 (rw_ R (hm R w[k])) (mate ((prevs w)[k]'(by simpa using hk))) = some (mate ((prevs w)[k]'(by simpa using hk)) :: (A ++ w[k] :: B)) := by
  have hpk : k < (prevs w).length := by simpa using hk
  generalize ec : (prevs w)[k] = c0
  have ic0 : In (2 * m) c0 := by
    rw [← ec]
    exact d.wk.1 _ ((prevs_perm w).mem_iff.mp (List.getElem_mem hpk))
  have ig : In (2 * m) w[k] := d.wk.1 _ (List.getElem_mem hk)
  have hh := d.wk.2 k hk
  rw [ec] at hh
  have ir := hm_rg h ig
  have cr : mate c0 ∈ rw_ R (hm R w[k]) := (rw_hm h (mate_in ic0) ir).mpr hh.symm
  have gr : w[k] ∈ rw_ R (hm R w[k]) := (rw_hm h ig ir).mpr rfl
  have ne : mate c0 ≠ w[k] := fun e => by
    have t : c0 / 2 = w[k] / 2 := by rw [← e]; unfold mate; omega
    have cm : c0 ∈ w := by rw [← ec]; exact (prevs_perm w).mem_iff.mp (List.getElem_mem hpk)
    obtain ⟨j, hj, ej⟩ := List.getElem_of_mem cm
    have : j = k := once_inj (xs := w.map fun x => x / 2) (by simpa using hj) (by simpa using hk) (by rw [d.ti]; simp) (by rw [List.getElem_map, List.getElem_map, ej]; exact t)
    subst this
    rw [ej] at e
    unfold mate at e
    omega
  have hi := List.idxOf_lt_length_of_mem cr
  have lr := row_le h (rw_mem ir)
  generalize rw_ R (hm R w[k]) = row at cr gr hi lr
  have er : row.drop (row.idxOf (mate c0)) ++ row.take (row.idxOf (mate c0)) = mate c0 :: (row.drop (row.idxOf (mate c0) + 1) ++ row.take (row.idxOf (mate c0))) := by
    rw [List.drop_eq_getElem_cons hi, List.getElem_idxOf hi]; rfl
  have rt : Rot row (mate c0 :: (row.drop (row.idxOf (mate c0) + 1) ++ row.take (row.idxOf (mate c0)))) := by
    rw [← er]
    exact ⟨_, _, (List.take_append_drop ..).symm, rfl⟩
  have gt : w[k] ∈ row.drop (row.idxOf (mate c0) + 1) ++ row.take (row.idxOf (mate c0)) := by
    rcases List.mem_cons.mp (rt.perm.mem_iff.mp gr) with z | z
    · exact absurd z.symm ne
    · exact z
  obtain ⟨A, B, e⟩ := List.append_of_mem gt
  refine ⟨A, B, by rw [← e]; exact rt, ?_⟩
  unfold l_begun_2
  rw [ixOf_ok cr, bs, sl_hi (by omega), sl_lo (by omega), Int.toNat_natCast, cat_ok (by simp; omega), er, e]
theorem cut_ok (h : Dr (2 * m) R) (hn : 2 * m ≤ 1000) (hl : R.length ≤ 1000) {w : List Int} (hw : w.length < 1000) (d : Rd m R w) : ∃ C, l_cut_2 R w = some C ∧ p_cut_along_2 R w = some (.ok (C, w, (span 0 (w.length : Int)).map fun k => ((2 * m : Nat) : Int) + 2 * k)) := by
  obtain ⟨b, r1, r2, r3⟩ := round_ok h (by omega) (by omega) w (by omega)
  have hb := r3.mpr d
  subst hb
  have ck : p_check_round_2 R w = some (.ok ()) := by
    unfold p_check_round_2
    rw [r1, bs, if_neg (by simp)]
  let edge : List Int := (span 0 (w.length : Int)).map fun k => ((2 * m : Nat) : Int) + 2 * k
  have el : edge.length = w.length := by simp [edge]
  have eg : ∀ k (hk : k < w.length), edge[k]'(by rw [el]; exact hk) = ((2 * m : Nat) : Int) + 2 * (k : Int) := fun k hk => by
    show ((span 0 (w.length : Int)).map fun k => ((2 * m : Nat) : Int) + 2 * k)[k]'_ = _
    rw [List.getElem_map, span_getE]; omega
  let step : List (List Int) → Int × Int → Option (List (List Int)) := fun s19 x18 =>
 (idx (homesL R) x18.2).bind fun v24 =>
 (idx R v24).bind fun v25 =>
 (idx w (x18.1 - 1)).bind fun v26 =>
 (Td.l_mate v26).bind fun r29 =>
 (Td.l_begun_2 v25 r29).bind fun ring =>
 (ixOf ring x18.2).bind fun last =>
 (Td.l_least_2 (sl ring none (some (last + 1)))).bind fun r38 =>
 (idx (homesL R) x18.2).bind fun v39 =>
 (putI s19 v39 r38).bind fun told =>
 (pmod (x18.1 - 1) (w.length : Int)).bind fun v45 =>
 (pmul 2 v45).bind fun v46 =>
 Ty.lt ((((2 * m : Nat) : Int) + v46) + 1 : Int) fun copy =>
 (pmul 2 x18.1).bind fun v47 =>
 (cat [((2 * m : Nat) : Int) + v47] (sl ring (some (last + 1)) none)).bind fun v48 =>
 (cat v48 [copy]).bind fun v49 =>
 (Td.l_least_2 v49).bind fun r52 =>
 (app told r52).bind fun told =>
 some told
  have turn : ∀ k (hk : k < w.length), ∃ L1 L2 : List Int, (∀ s, step s ((k : Int), w[k]) = (putI s (hm R w[k]) L1).bind fun t => (app t L2).bind fun t => some t) ∧ ∀ s : List (List Int), ((Td.p_between (behindL R) (mate ((prevs w)[k]'(by simpa using hk))) w[k]).bind fun r38 =>
 (cat [mate ((prevs w)[k]'(by simpa using hk))] r38).bind fun v39 =>
 (cat v39 [w[k]]).bind fun v40 =>
 (Td.p_begun_least v40).bind fun r43 =>
 (idx (homesL R) w[k]).bind fun v44 =>
 (putI s v44 r43).bind fun rows =>
 (idx edge (k : Int)).bind fun v48 =>
 (Td.p_between (behindL R) w[k] (mate ((prevs w)[k]'(by simpa using hk)))).bind fun r51 =>
 (cat [v48] r51).bind fun v52 =>
 (idx edge ((k : Int) - 1)).bind fun v53 =>
 (cat v52 [v53 + 1]).bind fun v54 =>
 (Td.p_begun_least v54).bind fun r57 =>
 (app rows r57).bind fun rows =>
 some rows) = (putI s (hm R w[k]) L1).bind fun t => (app t L2).bind fun t => some t := fun k hk => by
    obtain ⟨A, B, rt, eb⟩ := cut_turn h hn hl hw d hk
    have hpk : k < (prevs w).length := by simpa using hk
    have ig : In (2 * m) w[k] := d.wk.1 _ (List.getElem_mem hk)
    have ir := hm_rg h ig
    have lr := row_le h (rw_mem ir)
    have ll := rt.perm.length_eq
    have nd := rt.perm.nodup_iff.mp (row_nd h (rw_mem ir))
    have e1 : idx R (hm R w[k]) = some (rw_ R (hm R w[k])) := by
      rw [idx_ok ir.1 ir.2]
      unfold rw_
      rw [List.getElem?_eq_getElem (by have := ir.1; have := ir.2; omega)]; rfl
    have b1 := between_rot h (by omega) (rw_mem ir) rt
    have b2 := between_rot h (by omega) (rw_mem ir) (c := w[k]) (g := mate (prevs w)[k]) (A := B) (B := A) (rt.trans ⟨mate (prevs w)[k] :: A, w[k] :: B, by simp, by simp⟩)
    generalize hc : mate (prevs w)[k] = c at rt eb nd b1 b2 ll
    have gin : w[k] ∈ c :: (A ++ w[k] :: B) := by simp
    have eb' := eb
    have ix : (c :: (A ++ w[k] :: B)).idxOf w[k] = A.length + 1 := by
      have n1 : c ≠ w[k] := fun z => by rw [z] at nd; simp at nd
      have n2 : w[k] ∉ A := fun z => by
        have := (List.nodup_cons.mp nd).2
        rw [List.nodup_append] at this
        exact this.2.2 _ z _ (List.mem_cons_self ..) rfl
      rw [List.idxOf_cons, show (c == w[k]) = false by simpa using n1]
      dsimp only [cond_false]
      rw [List.idxOf_append, if_neg n2, List.idxOf_cons_self]
      omega
    have s1 : sl (c :: (A ++ w[k] :: B)) none (some (((A.length + 1 : Nat) : Int) + 1)) = c :: A ++ [w[k]] := by
      rw [sl_lo (by omega), show (((A.length + 1 : Nat) : Int) + 1).toNat = (c :: A).length + 1 by simp; omega]
      rw [show c :: (A ++ w[k] :: B) = (c :: A ++ [w[k]]) ++ B by simp, List.take_left' (by simp)]
    have s2 : sl (c :: (A ++ w[k] :: B)) (some (((A.length + 1 : Nat) : Int) + 1)) none = B := by
      rw [sl_hi (by omega), show (((A.length + 1 : Nat) : Int) + 1).toNat = (c :: A).length + 1 by simp; omega]
      rw [show c :: (A ++ w[k] :: B) = (c :: A ++ [w[k]]) ++ B by simp, List.drop_left' (by simp)]
    simp only [List.length_cons, List.length_append] at ll
    refine ⟨least (c :: A ++ [w[k]]), least ([((2 * m : Nat) : Int) + 2 * (k : Int)] ++ B ++ [((2 * m : Nat) : Int) + 2 * (((k : Int) - 1) % (w.length : Int)) + 1]), fun s => ?_, fun s => ?_⟩
    · have kp := d.ne
      have m0 := Int.emod_nonneg ((k : Int) - 1) (show (w.length : Int) ≠ 0 by omega)
      have m1 := Int.emod_lt_of_pos ((k : Int) - 1) (show 0 < (w.length : Int) by omega)
      show step s ((k : Int), w[k]) = _
      simp only [step]
      rw [homes_idx h ig, bs, e1, bs, prevs_idx hk, bs, l_mate_eq, bs, hc, eb', bs, ixOf_ok gin, bs, ix, s1, s2, least2_eq (by simp; omega), bs, bs]
      congr 1
      funext told
      rw [pmod_ok (by omega), bs, pmul_ok (by decide) (by omega), bs, lt_eq, pmul_ok (by decide) (by omega), bs, cat_ok (by simp; omega), bs, cat_ok (by simp; omega), bs, least2_eq (by simp; omega), bs]
    · have kp := d.ne
      have ek : idx edge (k : Int) = some (((2 * m : Nat) : Int) + 2 * (k : Int)) := by
        rw [idx_nat (by rw [el]; exact hk), eg k hk]
      have ek1 : idx edge ((k : Int) - 1) = some (((2 * m : Nat) : Int) + 2 * (((k : Int) - 1) % (w.length : Int))) := by
        by_cases z : k = 0
        · subst z
          rw [show (((0 : Nat) : Int) - 1) = -1 by omega, idx_neg (by decide) (by rw [el]; omega)]
          have e0 : (-1 + (edge.length : Int)).toNat = w.length - 1 := by rw [el]; omega
          have e9 : ((-1 : Int) % (w.length : Int)) = (w.length : Int) - 1 := by
            rw [show (-1 : Int) = ((w.length : Int) - 1) + (-1) * (w.length : Int) by rw [Int.neg_mul, Int.one_mul]; omega, Int.add_mul_emod_self_right, Int.emod_eq_of_lt (by omega) (by omega)]
          have g := eg (w.length - 1) (by omega)
          simp only [e0]
          rw [g, e9]
          congr 2
          omega
        · rw [show ((k : Int) - 1) = ((k - 1 : Nat) : Int) by omega, idx_nat (by rw [el]; omega), eg (k - 1) (by omega), Int.emod_eq_of_lt (by omega) (by omega)]
      rw [b1, bs, cat_ok (by simp; omega), bs, cat_ok (by simp; omega), bs, begun_eq (by simp; omega), bs, homes_idx h ig, bs]
      congr 1
      funext told
      rw [ek, bs, b2, bs, cat_ok (by simp; omega), bs, ek1, bs, cat_ok (by simp; omega), bs, begun_eq (by simp; omega), bs]
  have vis : p_visits_of w = some ((enu 0 w).map fun x => (mate ((prevs w).getD x.1.toNat 0), x.2)) := by
    unfold p_visits_of
    refine lcp_all _ (by simp; omega) (fun _ _ => rfl) fun x hx => ?_
    obtain ⟨k, hk, rfl⟩ := List.getElem_of_mem hx
    have hk' : k < w.length := by simpa using hk
    rw [enu_getE hk]
    dsimp only
    rw [show ((0 + k : Nat) : Int) = (k : Int) by omega, prevs_idx hk', bs, p_mate_eq, bs, show ((k : Int)).toNat = k by omega, getD_at (by simpa using hk')]
  have evis : enu 0 ((enu 0 w).map fun x => (mate ((prevs w).getD x.1.toNat 0), x.2)) = (enu 0 w).map fun x => (x.1, (mate ((prevs w).getD x.1.toNat 0), x.2)) := by
    apply List.ext_getElem
    · simp
    · intro i h1 h2
      rw [enu_getE h1, List.getElem_map, List.getElem_map]
      have hi : i < (enu 0 w).length := by simpa using h1
      rw [enu_getE hi]
  have main : Ok (forO (enu 0 w) R step) fun C => C.length = R.length + w.length := by
    refine (forO_ok (fun pre s => s.length = R.length + pre.length) rfl fun pre x post s e hs => ?_).mono fun s hs => by rw [hs, enu_length]
    have hx : x ∈ enu 0 w := by rw [e]; simp
    have pl : pre.length ≤ w.length := by
      have := congrArg List.length e
      rw [enu_length] at this
      simp at this; omega
    obtain ⟨k, hk, rfl⟩ := List.getElem_of_mem hx
    have hk' : k < w.length := by simpa using hk
    obtain ⟨L1, L2, t1, _⟩ := turn k hk'
    have ir := hm_rg h (d.wk.1 _ (List.getElem_mem hk'))
    rw [enu_getE hk, show ((0 + k : Nat) : Int) = (k : Int) by omega, t1 s, putI_ok ir.1 (by omega), bs, app_ok (by simp; omega), bs]
    exact Ok.ret (by simp; omega)
  obtain ⟨C, eC, _⟩ := main
  refine ⟨C, ?_, ?_⟩
  · unfold l_cut_2
    rw [lcm_ok (by omega), bs, lt_eq, seats3_eq h (by omega) (by omega), bs, lcm_ok (by omega), bs, List.map_id', sum_flat, h.len]
    show Option.bind (forO (enu 0 w) R step) _ = _
    rw [eC, bs]
  · unfold p_cut_along_2
    rw [ck, bx_ok, homes_eq h (by omega) (by omega), bs, p_behind_eq h (by omega) (by omega), bs, rng_ok (by omega) (by omega) (by omega) (by omega), bs, behind_length, h.len]
    have ee : (lcp (span 0 (w.length : Int)) (fun x18 : Int => some true) fun x18 => (pmul 2 x18).bind fun v21 => some (((2 * m : Nat) : Int) + v21)) = some edge := lcp_all _ (by simp; omega) (fun _ _ => rfl) (fun x hx => by
      have := mem_span.mp hx
      rw [pmul_ok (by decide) (by omega), bs])
    rw [ee, bs, lcm_ok (by omega), bs, List.map_id', vis, bs, evis, forO_map]
    rw [forO_congr (g := step) (fun x hx s => ?_), eC, bs]
    obtain ⟨k, hk, rfl⟩ := List.getElem_of_mem hx
    have hk' : k < w.length := by simpa using hk
    obtain ⟨L1, L2, t1, t2⟩ := turn k hk'
    rw [enu_getE hk, show ((0 + k : Nat) : Int) = (k : Int) by omega, t1 s, ← t2 s]
    dsimp only
    rw [show ((k : Int)).toNat = k by omega, getD_at (by simpa using hk')]
end Td

namespace Td
open Ty
def p_fours_by (rows : Int) (columns : Int) (shift : Int) : Option (List (List Int)) :=
 (Td.p_rights_of rows columns).bind fun r3 =>
 (Td.p_uppers_of rows columns shift).bind fun r6 =>
 Td.p_laid_out [r3, r6] ([0, 3, 1, 2] : List Int)
end Td

namespace Td
open Ty
def p_threes_by_3 (rows : Int) (columns : Int) (shift : Int) : Option (List (List Int)) :=
 (Td.p_rights_of rows columns).bind fun rights =>
 (Td.p_uppers_of rows columns shift).bind fun uppers =>
 (lcp uppers (fun x13 : Int => some true) fun x13 => (idx rights x13).bind fun v16 =>
 some v16).bind fun slants =>
 ((some ()).bind fun a24 => (Td.p_laid_out [rights, uppers, slants] ([0, 3, 5, 1, 2, 4] : List Int)).bind fun r27 => some (a24, r27)).bind fun r29 => some (r29.2)
end Td

namespace Td
open Ty
def fr4 (r c s q : Nat) : List Int := beg [((4 * q + 2 : Nat) : Int), ((4 * q : Nat) : Int), ((4 * uppI r c s q + 3 : Nat) : Int), ((4 * rgtI c q + 1 : Nat) : Int)]
def tr6 (r c s q : Nat) : List Int := beg [((6 * q + 2 : Nat) : Int), ((6 * q + 4 : Nat) : Int), ((6 * q : Nat) : Int), ((6 * uppI r c s q + 3 : Nat) : Int), ((6 * uppI r c s (rgtI c q) + 5 : Nat) : Int), ((6 * rgtI c q + 1 : Nat) : Int)]
def K4 (r c s : Nat) : List (List Int) := (List.range (r * c)).map (fr4 r c s)
def K6 (r c s : Nat) : List (List Int) := (List.range (r * c)).map (tr6 r c s)
variable {r c s : Nat}
theorem K4.kr (hr : 0 < r) (hs : s < c) : KR G4 (K4 r c s) (r * c) (E4 r c s) (plc r c s) := kr4 hr hs rfl
theorem K4.len : (K4 r c s).length = r * c := by simp [K4]
end Td

namespace Td
open Ty
def l_ends (rows : (List (List Int))) (many : Int) : Option Bool :=
 lt (([] : (List Int)) : (List Int)) fun ends =>
 aft (forR rows (ends : ((List Int))) fun s4 x3 =>
 if ((x3.length : Int) ≠ many) then some (.rt (false))
 else (cat s4 x3).bind fun ends =>
 some (.go ends)) (fun s10 =>
 aft (forR s10 (() : Unit) fun s16 x15 =>
 (Td.l_whole x15).bind fun r21 =>
 if ¬(r21 = true) then some (.rt (false))
 else some (.go ())) (fun s22 =>
 (rng 0 (s10.length : Int)).bind fun xs25 =>
 some (decide ((srt s10) = xs25))) fun r_ => some r_) fun r_ => some r_
end Td

namespace Td
open Ty
def p_check_numbers_2 (rows : Int) (columns : Int) (shift : Int) : Option Unit :=
 (Td.p_are_numbers rows columns shift).bind fun r3 =>
 if ¬(r3 = true) then none
 else (pmul rows columns).bind fun v4 =>
 if (40 < v4) then none
 else some (())
end Td

namespace Td
open Ty
def p_fours_2 (rows : Int) (columns : Int) (shift : Int) : Option (List (List Int)) :=
 (Td.p_check_numbers_2 rows columns shift).bind fun r3 =>
 Td.p_fours_by rows columns shift
end Td

namespace Td
open Ty
def p_threes_4 (rows : Int) (columns : Int) (shift : Int) : Option (List (List Int)) :=
 (Td.p_check_numbers_2 rows columns shift).bind fun r3 =>
 Td.p_threes_by_3 rows columns shift
end Td

namespace Td
open Ty
def law_k37 (script : (List Int)) : Option Bool :=
 lt ((script, 0, 0, 0) : ((List Int) × Int × Int × Int)) fun box =>
 (Td.l_take box 2).bind fun r5 =>
 (Td.l_numbers r5.2).bind fun r7 =>
 (Td.p_fours_2 r7.1.1 r7.1.2.1 r7.1.2.2).bind fun r15 =>
 (Td.p_threes_4 r7.1.1 r7.1.2.1 r7.1.2.2).bind fun r18 =>
 (idx [r15, r18] r5.1).bind fun z21 =>
 (idx [4, 6] r5.1).bind fun many =>
 (pmul r7.1.1 r7.1.2.1).bind fun v25 =>
 (if ((z21.length : Int) ≠ v25) then some true else (Td.l_ends z21 many).bind fun r28 =>
 some (decide (¬(r28 = true)))).bind fun b29 =>
 if b29 = true then some (false)
 else (Td.l_lands_3 z21).bind fun lands =>
 aft (forR lands (() : Unit) fun s38 x37 =>
 (idx [4, 3] r5.1).bind fun v41 =>
 if ((x37.length : Int) ≠ v41) then some (.rt (false))
 else some (.go ())) (fun s42 =>
 (Td.l_part_count z21).bind fun r47 =>
 (if (r47 ≠ 1) then some true else (pmul r7.1.1 r7.1.2.1).bind fun v48 =>
 (pmul r7.1.1 r7.1.2.1).bind fun v49 =>
 (pmul v49 many).bind fun v50 =>
 some (decide ((((v48 - (v50 / 2)) + (lands.length : Int)) ≠ 0)))).bind fun b51 =>
 if b51 = true then some (false)
 else (lcm z21 fun x54 : (List Int) => x54).bind fun kept =>
 (Td.p_lands_of z21).bind fun r60 =>
 (Td.l_rows_2 r60 lands).bind fun r63 =>
 (if ¬(r63 = true) then some true else (Td.p_holes_of z21).bind fun r66 =>
 (Td.l_row r66 [1]).bind fun r69 =>
 some (decide (¬(r69 = true)))).bind fun b70 =>
 if b70 = true then some (false)
 else (Td.p_parts_of z21).bind fun r73 =>
 (pmul r7.1.1 r7.1.2.1).bind fun v74 =>
 (rng 0 v74).bind fun xs75 =>
 (Td.l_rows_2 r73 [xs75]).bind fun r78 =>
 some (decide (r78 = true ∧ (z21 = kept)))) fun r_ => some r_
end Td

namespace Td
open Ty
end Td

namespace Td
open Ty
variable {n m : Nat} {one two tre : List (List Int)} {L M : List Int}
noncomputable def autL (n : Nat) (rows : List (List Int)) (e : Int) : List Int := (span 0 (n : Int)).filter fun g => @decide (∃ L, LG n rows rows e g L) (Classical.propDecidable _)
end Td

namespace Td
open Ty
def Lat (r c s : Nat) (x y : Int) : Prop := y % (r : Int) = 0 ∧ (x + s * (y / (r : Int))) % (c : Int) = 0
variable {r c s : Nat}

variable {G : Gd}
def Tk (G : Gd) (r' c' s' r c s ρ : Nat) : Prop := ∀ x y, Lat r' c' s' x y → Lat r c s (G.ax ρ x y) (G.ay ρ x y)
variable {rows rows' : List (List Int)} {N : Nat} {E E' : Nat → Nat → Int} {r' c' s' : Nat}
end Td

namespace Td
open Ty
def l_in (r : Int) (c : Int) (s : Int) (x : Int) (y : Int) : Option Bool :=
 (pmod y r).bind fun v1 =>
 if (v1 = 0) then (pdiv y r).bind fun v2 =>
 (pmul s v2).bind fun v3 =>
 (pmod (x + v3) c).bind fun v4 =>
 some (decide (v4 = 0)) else some false
end Td

namespace Td
open Ty
def l_ways_2 (sort : Txt) (q : Int) : Option ((Int × Int) × (Int × Int)) :=
 (if (sort = (tx [102, 111, 117, 114, 115])) then lt ([(1, 0), (-1, 0), (0, 1), (0, -1)] : (List (Int × Int))) fun ways =>
 lt ([(0, 1), (0, -1), (-1, 0), (1, 0)] : (List (Int × Int))) fun ups =>
 some (ways, ups)
 else lt ([(1, 0), (-1, 0), (0, 1), (0, -1), (1, 1), (-1, -1)] : (List (Int × Int))) fun ways =>
 lt ([(0, 1), (0, -1), (-1, -1), (1, 1), (-1, 0), (1, 0)] : (List (Int × Int))) fun ups =>
 some (ways, ups) : Option ((List (Int × Int)) × (List (Int × Int)))).bind fun j9 =>
 (idx j9.1 q).bind fun v12 =>
 (idx j9.2 q).bind fun v13 =>
 some ((v12, v13))
end Td

namespace Td
open Ty
def l_read_2 (sort : Txt) (r : Int) (c : Int) (s : Int) (q : Int) : Option (Int × Int × Int) :=
 (Td.l_ways_2 sort q).bind fun y4 =>
 lt (1 : Int) fun columns =>
 (whO 100000 (columns : (Int)) (fun s9 => (pmul s9 y4.1.1).bind fun v12 =>
 (pmul s9 y4.1.2).bind fun v13 =>
 (Td.l_in r c s v12 v13).bind fun r16 =>
 some (decide (¬(r16 = true)))) fun s9 =>
 lt (s9 + 1 : Int) fun columns =>
 some columns).bind fun s19 =>
 (pmul r c).bind fun v22 =>
 (rng 1 (v22 + 1)).bind fun xs23 =>
 aft (forR xs23 (() : Unit) fun s25 x24 =>
 (rng 0 s19).bind fun xs28 =>
 aft (forR xs28 (() : Unit) fun s30 x29 =>
 (pmul x24 y4.2.1).bind fun v35 =>
 (pmul x29 y4.1.1).bind fun v36 =>
 lt (v35 - v36 : Int) fun x =>
 (pmul x24 y4.2.2).bind fun v37 =>
 (pmul x29 y4.1.2).bind fun v38 =>
 (Td.l_in r c s x (v37 - v38)).bind fun r41 =>
 if r41 = true then some (.rt ((x24, s19, x29)))
 else some (.go ())) (fun s42 =>
 some (.go ())) fun r_ => some (Lp.rt r_)) (fun s45 =>
 some ((0, 0, 0))) fun r_ => some r_
end Td

namespace Td
open Ty
variable {G : Gd} {rows : List (List Int)} {N r c s : Nat} {E : Nat → Nat → Int}
noncomputable def dT (p : Prop) : Bool := @decide p (Classical.propDecidable p)

end Td

namespace Td
open Ty
def l_fours_2 (r : Int) (c : Int) (s : Int) : Option (List (List Int)) :=
 lt (([] : (List (List Int))) : (List (List Int))) fun told =>
 (rng 0 r).bind fun xs3 =>
 (forO xs3 (told : ((List (List Int)))) fun s5 x4 =>
 (rng 0 c).bind fun xs8 =>
 (forO xs8 (s5 : ((List (List Int)))) fun s10 x9 =>
 (pmul x4 c).bind fun v15 =>
 lt (v15 + x9 : Int) fun p =>
 (pmul x4 c).bind fun v18 =>
 (pmod (x9 - 1) c).bind fun v19 =>
 lt (v18 + v19 : Int) fun left =>
 lt (p - c : Int) fun down =>
 (if (x4 = 0) then (pmul (r - 1) c).bind fun v24 =>
 (pmod (x9 - s) c).bind fun v25 =>
 lt (v24 + v25 : Int) fun down =>
 some down
 else some down : Option (Int)).bind fun j26 =>
 (pmul 4 p).bind fun v29 =>
 (pmul 4 p).bind fun v30 =>
 (pmul 4 j26).bind fun v31 =>
 (pmul 4 left).bind fun v32 =>
 (Td.l_least_2 [v29 + 2, v30, v31 + 3, v32 + 1]).bind fun r35 =>
 (app s10 r35).bind fun told =>
 some told).bind fun s39 =>
 some s39).bind fun s42 =>
 some (s42)
end Td

namespace Td
open Ty
def l_kind_2 (sort : Txt) (r : Int) (c : Int) (s : Int) : Option (List (List Int)) :=
 if (sort = (tx [102, 111, 117, 114, 115])) then Td.l_fours_2 r c s
 else Td.l_threes r c s
end Td

namespace Td
open Ty

def w4 : Txt := tx [102, 111, 117, 114, 115]
def w6 : Txt := tx [116, 104, 114, 101, 101, 115]
def dir4 (q : Nat) : Nat := match q with | 0 => 0 | 1 => 2 | 2 => 3 | _ => 1
def dir6 (q : Nat) : Nat := match q with | 0 => 0 | 1 => 3 | 2 => 4 | 3 => 1 | 4 => 5 | _ => 2
end Td

namespace Td
open Ty
variable {G : Gd} {r c s : Nat}
end Td

namespace Td
open Ty
def p_ring_from (behind : (List Int)) (end_ : Int) : Option (List Int) :=
 lt ([end_] : (List Int)) fun ring =>
 (whO 100000 (ring : ((List Int))) (fun s3 => (idx s3 (-1)).bind fun v6 =>
 (idx behind v6).bind fun v7 =>
 some (decide ((v7 ≠ end_)))) fun s3 =>
 (idx s3 (-1)).bind fun v8 =>
 (idx behind v8).bind fun v9 =>
 (app s3 v9).bind fun ring =>
 some ring).bind fun s13 =>
 some (s13)
end Td

namespace Td
open Ty
def p_lay_by (behind : (List Int)) (rights : (List Int)) (clock : (List Int)) : Option (List Int) :=
 (rep [0] (behind.length : Int)).bind fun lay =>
 (forO (enu 0 rights) (lay : ((List Int))) fun s5 x4 =>
 (Td.p_ring_from behind x4.2).bind fun r10 =>
 (forO (List.zip clock r10) (s5 : ((List Int))) fun s12 x11 =>
 (if ((x11.1 % 2) = 0) then (pmul (clock.length : Int) x4.1).bind fun v17 =>
 lt (v17 + x11.1 : Int) fun even =>
 (putI s12 even x11.2).bind fun lay =>
 (Td.p_mate_of x11.2).bind fun r23 =>
 (putI lay (even + 1) r23).bind fun lay =>
 some lay
 else some s12 : Option ((List Int))).bind fun j27 =>
 some j27).bind fun s30 =>
 some s30).bind fun s33 =>
 some (s33)
end Td

namespace Td
open Ty
def p_all_are (numbers : (List Int)) (wanted : Int) : Option Bool :=
 (lcm numbers fun x1 : Int => decide (x1 = wanted)).bind fun ys4 =>
 some (ys4.all id)
end Td

namespace Td
open Ty
def p_sort_of (drawing : (List (List Int))) : Option Txt :=
 (Td.p_parts_of drawing).bind fun r3 =>
 if ((r3.length : Int) = 1) then (lcm drawing fun x6 : (List Int) => (x6.length : Int)).bind fun at_places =>
 (Td.p_lands_of drawing).bind fun r14 =>
 (lcm r14 fun x15 : (List Int) => (x15.length : Int)).bind fun at_lands =>
 (Td.p_all_are at_places 4).bind fun r21 =>
 (if r21 = true then (Td.p_all_are at_lands 4).bind fun r24 =>
 some (decide (r24 = true)) else some false).bind fun b25 =>
 if b25 = true then some ((tx [102, 111, 117, 114, 115]))
 else (Td.p_all_are at_places 6).bind fun r28 =>
 (if r28 = true then (Td.p_all_are at_lands 3).bind fun r31 =>
 some (decide (r31 = true)) else some false).bind fun b32 =>
 if b32 = true then some ((tx [116, 104, 114, 101, 101, 115]))
 else none
 else none
end Td

namespace Td
open Ty
def p_straight_line (behind : (List Int)) (first : Int) (size : Int) : Option (List Int) :=
 lt ([first] : (List Int)) fun line =>
 (Td.p_mate_of first).bind fun r7 =>
 (Td.p_ring_from behind r7).bind fun r10 =>
 (idx r10 (size / 2)).bind fun end_ =>
 (whO 100000 ((line, end_) : ((List Int) × Int)) (fun s12 => some (decide ((s12.2 ≠ first)))) fun s12 =>
 (app s12.1 s12.2).bind fun line =>
 (Td.p_mate_of s12.2).bind fun r22 =>
 (Td.p_ring_from behind r22).bind fun r25 =>
 (idx r25 (size / 2)).bind fun end_ =>
 some (line, end_)).bind fun s27 =>
 some (s27.1)
end Td

namespace Td
open Ty
def p_upper_right (behind : (List Int)) (right : Int) (clock : (List Int)) : Option Int :=
 (Td.p_ring_from behind right).bind fun r5 =>
 (ixOf clock 2).bind fun v6 =>
 (idx r5 v6).bind fun up =>
 (Td.p_mate_of up).bind fun r10 =>
 (Td.p_ring_from behind r10).bind fun r13 =>
 idx r13 (-1)
end Td

namespace Td
open Ty
def p_read_kind (drawing : (List (List Int))) (end_ : Int) : Option (Txt × Int × Int × Int × (List Int)) :=
 (Td.p_check_end drawing end_).bind fun r3 =>
 (Td.p_sort_of drawing).bind fun sort =>
 (Td.p_behind_of drawing).bind fun behind =>
 lt (if (sort = (tx [102, 111, 117, 114, 115])) then ([0, 3, 1, 2] : List Int) else ([0, 3, 5, 1, 2, 4] : List Int) : (List Int)) fun clock =>
 (Td.p_straight_line behind end_ (clock.length : Int)).bind fun line =>
 lt (([] : (List Int)) : (List Int)) fun rights =>
 lt (end_ : Int) fun first =>
 (whO 100000 ((rights, first) : ((List Int) × Int)) (fun s27 => some (decide (((s27.1.length : Int) < (drawing.length : Int))))) fun s27 =>
 (Td.p_straight_line behind s27.2 (clock.length : Int)).bind fun r32 =>
 (extO s27.1 r32).bind fun rights =>
 (Td.p_upper_right behind s27.2 clock).bind fun first =>
 some (rights, first)).bind fun s41 =>
 (ixOf line s41.2).bind fun shift =>
 (pdiv (drawing.length : Int) (line.length : Int)).bind fun v47 =>
 (Td.p_lay_by behind s41.1 clock).bind fun r50 =>
 some ((sort, v47, (line.length : Int), shift, r50))
end Td

namespace Td
open Ty

structure KV (G : Gd) (rows : List (List Int)) (N : Nat) (E : Nat → Nat → Int) (pl : Int → Int → Nat) : Prop where
  pos : 0 < N
  dr : Dr (G.z * N) rows
  pll : ∀ x y, pl x y < N
  onto : ∀ q < N, ∃ x y, pl x y = q
  ein : ∀ q < N, ∀ d < G.z, In (G.z * N) (E q d)
  all : ∀ e, In (G.z * N) e → ∃ q d, q < N ∧ d < G.z ∧ E q d = e
  inj : ∀ q < N, ∀ d < G.z, ∀ p < N, ∀ f < G.z, E q d = E p f → q = p ∧ d = f
  nxt : ∀ q < N, ∀ d < G.z, nx rows (E q d) = E q ((d + 1) % G.z)
  mat : ∀ x y, ∀ d < G.z, mate (E (pl x y) d) = E (pl (x + G.X d) (y + G.Y d)) ((d + G.z / 2) % G.z)
variable {G : Gd} {rows rows' : List (List Int)} {N : Nat} {E : Nat → Nat → Int} {pl : Int → Int → Nat}
theorem KR.kv (k : KR G rows N E pl) : KV G rows N E pl := ⟨k.pos, k.dr, k.pll, k.onto, k.ein, k.all, k.inj, k.nxt, k.mat⟩
def layT (z : Nat) (dir : Nat → Nat) (E : Nat → Nat → Int) (pq : Nat → Nat) (e : Nat) : Int := if e % z % 2 = 0 then E (pq (e / z)) (dir (e % z)) else mate (E (pq (e / z)) (dir (e % z - 1)))
end Td

namespace Td
open Ty
variable {m : Nat} {R C s : List (List Int)} {w : List Int} {As Bs : Nat → List Int}
def gg (w : List Int) (k : Nat) : Int := w.getD k 0
def cc (w : List Int) (k : Nat) : Int := mate ((prevs w).getD k 0)
def El (m L : Nat) : List Int := (span 0 (L : Int)).map fun k => ((2 * m : Nat) : Int) + 2 * k
theorem gg_at {k : Nat} (hk : k < w.length) : gg w k = w[k] := getD_at hk
theorem gg_mem {k : Nat} (hk : k < w.length) : gg w k ∈ w := by rw [gg_at hk]; exact List.getElem_mem hk
theorem El_len {m L : Nat} : (El m L).length = L := by unfold El; simp
theorem pv_mem {k : Nat} (hk : k < w.length) : (prevs w).getD k 0 ∈ w := by
  rw [getD_at (by simpa using hk)]
  exact (prevs_perm w).mem_iff.mp (List.getElem_mem _)
theorem El_mem {m L : Nat} {x : Int} : x ∈ El m L ↔ ∃ k : Nat, k < L ∧ x = ((2 * m : Nat) : Int) + 2 * (k : Int) := by
  unfold El
  rw [List.mem_map]
  constructor
  · rintro ⟨y, hy, rfl⟩
    have := mem_span.mp hy
    exact ⟨y.toNat, by omega, by omega⟩
  · rintro ⟨k, hk, rfl⟩
    exact ⟨(k : Int), mem_span.mpr ⟨by omega, by omega⟩, rfl⟩
theorem El_cc {m L k : Nat} (hk : k < L) : ∃ j : Nat, j < L ∧ (prevs (El m L)).getD k 0 = ((2 * m : Nat) : Int) + 2 * (j : Int) ∧ cc (El m L) k = ((2 * m : Nat) : Int) + 2 * (j : Int) + 1 := by
  obtain ⟨j, hj, e⟩ := El_mem.mp (pv_mem (w := El m L) (by rw [El_len]; exact hk))
  refine ⟨j, hj, e, ?_⟩
  unfold cc mate
  rw [e]; omega
def vsL (w : List Int) : List (Int × Int) := (List.range w.length).map fun k => (cc w k, gg w k)
theorem vsL_len {w : List Int} : (vsL w).length = w.length := by unfold vsL; simp
theorem visits_ok {w : List Int} (hw : w.length ≤ 1000000) : p_visits_of w = some (vsL w) := by
  unfold p_visits_of
  refine (lcp_all (fun x : Int × Int => (mate ((prevs w).getD x.1.toNat 0), x.2)) (by simp; omega) (fun _ _ => rfl) fun x hx => ?_).trans ?_
  · obtain ⟨k, hk, rfl⟩ := List.getElem_of_mem hx
    have hk' : k < w.length := by simpa using hk
    rw [enu_getE hk]
    dsimp only
    rw [show ((0 + k : Nat) : Int) = (k : Int) by omega, prevs_idx hk', bs, p_mate_eq, bs, show ((k : Int)).toNat = k by omega, getD_at (by simpa using hk')]
  · congr 1
    unfold vsL
    apply List.ext_getElem
    · simp
    · intro k h1 h2
      have hk' : k < w.length := by simpa using h2
      rw [List.getElem_map, List.getElem_map, List.getElem_range, enu_getE]
      dsimp only
      rw [show ((0 + k : Nat) : Int).toNat = k by omega, gg_at hk']
      rfl
theorem vis_at {k : Nat} (hk : k < w.length) : (enu 0 (vsL w))[k]? = some ((k : Int), (cc w k, gg w k)) := by
  rw [enu_get]
  unfold vsL
  rw [List.getElem?_map, List.getElem?_range hk, Option.map_some, Option.map_some, Nat.zero_add]
structure Cp (m : Nat) (R : List (List Int)) (w : List Int) (As Bs : Nat → List Int) (j : Nat) (C : List (List Int)) : Prop where
  len : C.length = R.length + j
  old : ∀ p : Nat, p < R.length → (∀ k, k < j → hm R (gg w k) ≠ (p : Int)) → C[p]? = R[p]?
  one : ∀ k, k < j → C[(hm R (gg w k)).toNat]? = some (least (cc w k :: (As k ++ [gg w k])))
  two : ∀ k, k < j → C[R.length + k]? = some (least (gg (El m w.length) k :: (Bs k ++ [cc (El m w.length) k])))
  flat : C.flatten.Perm (span 0 ((2 * m : Nat) : Int) ++ (List.range j).flatMap fun i => [gg (El m w.length) i, cc (El m w.length) i])
def Rt (R : List (List Int)) (w : List Int) (As Bs : Nat → List Int) : Prop := ∀ k, k < w.length → Rot (rw_ R (hm R (gg w k))) (cc w k :: (As k ++ gg w k :: Bs k))
theorem set_flat {p : Nat} {r L1 L2 Z : List Int} (h : s[p]? = some r) (e : (L1 ++ L2).Perm (r ++ Z)) : (s.set p L1 ++ [L2]).flatten.Perm (s.flatten ++ Z) := by
  obtain ⟨hp, e1⟩ := List.getElem?_eq_some_iff.mp h
  have e2 : s = s.take p ++ (r :: s.drop (p + 1)) := by
    rw [← e1, ← List.drop_eq_getElem_cons hp, List.take_append_drop]
  have e3 : s.flatten = (s.take p).flatten ++ (r ++ (s.drop (p + 1)).flatten) := by
    have := congrArg List.flatten e2
    rw [List.flatten_append, List.flatten_cons] at this
    exact this
  have e4 := List.set_eq_take_append_cons_drop (l := s) (i := p) (a := L1)
  rw [if_pos hp] at e4
  rw [e4, e3, List.flatten_append, List.flatten_append, List.flatten_cons]
  refine List.perm_iff_count.mpr fun a => ?_
  have := e.count_eq a
  simp only [List.count_append, List.flatten_cons, List.flatten_nil, List.append_nil] at this ⊢
  omega
theorem hm_inj (d : Rd m R w) {i j : Nat} (hi : i < w.length) (hj : j < w.length) (e : hm R (gg w i) = hm R (gg w j)) : i = j := by
  rw [gg_at hi, gg_at hj] at e
  exact once_inj (xs := w.map (hm R)) (by simpa using hi) (by simpa using hj) (by rw [d.pl]; simp) (by rw [List.getElem_map, List.getElem_map]; exact e)
theorem cp_step (h : Dr (2 * m) R) (d : Rd m R w) (rt : Rt R w As Bs) {j : Nat} (hj : j < w.length) (c : Cp m R w As Bs j s) :
    Cp m R w As Bs (j + 1) (s.set (hm R (gg w j)).toNat (least (cc w j :: (As j ++ [gg w j]))) ++ [least (gg (El m w.length) j :: (Bs j ++ [cc (El m w.length) j]))]) := by
  have ig : ∀ k, k < w.length → In (2 * m) (gg w k) := fun k hk => d.wk.1 _ (gg_mem hk)
  have ir : ∀ k, k < w.length → In R.length (hm R (gg w k)) := fun k hk => hm_rg h (ig k hk)
  have hl := c.len
  have i0 := (ir j hj).1
  have i1 := (ir j hj).2
  have ap : ∀ (q : Nat) (x y : List Int), q < s.length → (s.set (hm R (gg w j)).toNat x ++ [y])[q]? = (s.set (hm R (gg w j)).toNat x)[q]? := fun q x y hq => by
    rw [List.getElem?_append_left (by rw [List.length_set]; exact hq)]
  have so : s[(hm R (gg w j)).toNat]? = some (rw_ R (hm R (gg w j))) := by
    rw [c.old _ (by omega) fun k hk e => by
      have := hm_inj d (by omega) hj (by rw [e]; omega : hm R (gg w k) = hm R (gg w j))
      omega]
    unfold rw_
    rw [List.getElem?_eq_getElem (by omega)]; rfl
  refine ⟨by rw [List.length_append, List.length_set, hl]; simp; omega, fun p hp hk => ?_, fun k hk => ?_, fun k hk => ?_, ?_⟩
  · have := hk j (by omega)
    rw [ap _ _ _ (by omega), List.getElem?_set_ne (by omega)]
    exact c.old p hp fun k hk2 => hk k (by omega)
  · have := (ir k (by omega)).1
    have := (ir k (by omega)).2
    rw [ap _ _ _ (by omega)]
    by_cases q : k = j
    · subst q
      rw [List.getElem?_set_self (by omega)]
    · rw [List.getElem?_set_ne (fun e => q (hm_inj d (by omega) hj (by omega)))]
      exact c.one k (by omega)
  · by_cases q : k = j
    · subst q
      rw [List.getElem?_append_right (by rw [List.length_set]; omega), List.length_set, hl, Nat.sub_self]; rfl
    · rw [ap _ _ _ (by omega), List.getElem?_set_ne (by omega)]
      exact c.two k (by omega)
  · rw [List.range_succ, List.flatMap_append, ← List.append_assoc]
    refine (set_flat (Z := [gg (El m w.length) j, cc (El m w.length) j]) so ?_).trans ?_
    · have rp := (rt j hj).perm
      refine List.perm_iff_count.mpr fun a => ?_
      have q1 := rp.count_eq a
      have q2 := (least_perm (cc w j :: (As j ++ [gg w j]))).count_eq a
      have q3 := (least_perm (gg (El m w.length) j :: (Bs j ++ [cc (El m w.length) j]))).count_eq a
      simp only [List.count_append, List.count_cons, List.count_nil] at q1 q2 q3 ⊢
      omega
    · refine (c.flat.append_right _).trans (.of_eq ?_)
      simp
theorem new_perm (m L : Nat) : (span 0 ((2 * m : Nat) : Int) ++ (List.range L).flatMap fun i => [gg (El m L) i, cc (El m L) i]).Perm (span 0 ((2 * (m + L) : Nat) : Int)) := by
  have e1 : ((List.range L).flatMap fun i => [gg (El m L) i, cc (El m L) i]).Perm (El m L ++ (prevs (El m L)).map fun x => x + 1) := by
    have a1 : El m L = (List.range L).map (gg (El m L)) := by
      apply List.ext_getElem
      · rw [El_len]; simp
      · intro i h1 h2
        rw [List.getElem_map, List.getElem_range, gg_at h1]
    have a2 : ((prevs (El m L)).map fun x => x + 1) = (List.range L).map (cc (El m L)) := by
      apply List.ext_getElem
      · rw [List.length_map, prevs_length, El_len]; simp
      · intro i h1 h2
        have hi : i < L := by simpa using h2
        obtain ⟨j, hj, f1, f2⟩ := El_cc (m := m) hi
        rw [List.getElem_map, List.getElem_map, List.getElem_range, f2, ← f1, getD_at (by rw [prevs_length, El_len]; exact hi)]
    have a3 : ∀ (l : List Nat) (f g : Nat → Int), (l.flatMap fun i => [f i, g i]).Perm (l.map f ++ l.map g) := fun l f g => by
      induction l with
      | nil => exact .refl _
      | cons x l ih =>
        rw [List.flatMap_cons, List.map_cons, List.map_cons]
        refine List.perm_iff_count.mpr fun a => ?_
        have := ih.count_eq a
        simp only [List.count_append, List.count_cons, List.count_nil, List.cons_append] at this ⊢
        omega
    have := a3 (List.range L) (gg (El m L)) (cc (El m L))
    rw [← a1, ← a2] at this
    exact this
  have e2 : (El m L ++ (prevs (El m L)).map fun x => x + 1).Perm (El m L ++ (El m L).map fun x => x + 1) := ((prevs_perm _).map _).append_left _
  have e3 : (El m L ++ (El m L).map fun x => x + 1).Perm (span ((2 * m : Nat) : Int) ((2 * (m + L) : Nat) : Int)) := by
    have nd1 : (El m L).Nodup := by
      unfold El
      exact List.pairwise_map.mpr ((span_nodup _ _).imp fun {a b} hab e => hab (by omega))
    refine (List.perm_ext_iff_of_nodup ?_ (span_nodup _ _)).mpr fun x => ?_
    · rw [List.nodup_append]
      refine ⟨nd1, List.pairwise_map.mpr (nd1.imp fun {a b} hab e => hab (by omega)), fun a ha b hb e => ?_⟩
      obtain ⟨y, hy, rfl⟩ := List.mem_map.mp hb
      obtain ⟨i, _, e1⟩ := El_mem.mp ha
      obtain ⟨j, _, e2⟩ := El_mem.mp hy
      omega
    · rw [List.mem_append, mem_span]
      constructor
      · rintro (q | q)
        · obtain ⟨i, hi, rfl⟩ := El_mem.mp q
          omega
        · obtain ⟨y, hy, rfl⟩ := List.mem_map.mp q
          obtain ⟨i, hi, rfl⟩ := El_mem.mp hy
          omega
      · rintro ⟨q1, q2⟩
        by_cases q : x % 2 = 0
        · exact .inl (El_mem.mpr ⟨((x - ((2 * m : Nat) : Int)) / 2).toNat, by omega, by omega⟩)
        · exact .inr (List.mem_map.mpr ⟨x - 1, El_mem.mpr ⟨((x - 1 - ((2 * m : Nat) : Int)) / 2).toNat, by omega, by omega⟩, by omega⟩)
  rw [span_app (a := 0) (b := ((2 * m : Nat) : Int)) (c := ((2 * (m + L) : Nat) : Int)) (by omega) (by omega)]
  exact ((e1.trans e2).trans e3).append_left _
theorem rt_ex (h : Dr (2 * m) R) (hn : 2 * m ≤ 1000) (hl : R.length ≤ 1000) (hw : w.length < 1000) (d : Rd m R w) : ∃ As Bs, Rt R w As Bs := by
  have : ∀ k, ∃ p : List Int × List Int, k < w.length → Rot (rw_ R (hm R (gg w k))) (cc w k :: (p.1 ++ gg w k :: p.2)) := fun k => by
    by_cases hk : k < w.length
    · obtain ⟨A, B, r, _⟩ := cut_turn h hn hl hw d hk
      refine ⟨(A, B), fun _ => ?_⟩
      rw [gg_at hk]
      unfold cc
      rw [getD_at (by simpa using hk)]
      exact r
    · exact ⟨([], []), fun z => absurd z hk⟩
  obtain ⟨f, hf⟩ := Classical.skolem.mp this
  exact ⟨fun k => (f k).1, fun k => (f k).2, hf⟩
theorem cutA_ok (h : Dr (2 * m) R) (hn : 2 * m ≤ 1000) (hl : R.length ≤ 1000) (hw : w.length < 1000) (d : Rd m R w) (rt : Rt R w As Bs) : Ok (p_cut_along R w) fun r => r.2 = (w, El m w.length) ∧ Cp m R w As Bs w.length r.1 := by
  obtain ⟨b, r1, r2, r3⟩ := round_ok h (by omega) (by omega) w (by omega)
  have hb := r3.mpr d
  subst hb
  have ck : p_check_round R w = some () := by
    unfold p_check_round
    rw [r1, bs, if_neg (by simp)]
  unfold p_cut_along
  rw [ck, bs, homes_eq h (by omega) (by omega), bs, p_behind_eq h (by omega) (by omega), bs, rng_ok (by omega) (by omega) (by omega) (by omega), bs, behind_length, h.len]
  have ee : (lcp (span 0 (w.length : Int)) (fun x18 : Int => some true) fun x18 => (pmul 2 x18).bind fun v21 => some (((2 * m : Nat) : Int) + v21)) = some (El m w.length) := lcp_all _ (by simp; omega) (fun _ _ => rfl) (fun x hx => by
    have := mem_span.mp hx
    rw [pmul_ok (by decide) (by omega), bs])
  rw [ee, bs, lcm_ok (by omega), bs, List.map_id', visits_ok (by omega), bs]
  have vl : (vsL w).length = w.length := vsL_len
  refine Ok.bind (forO_ok (fun pre s => Cp m R w As Bs pre.length s) ⟨rfl, fun _ _ _ => rfl, fun k hk => by simp at hk, fun k hk => by simp at hk, by show R.flatten.Perm (_ ++ []); rw [List.append_nil]; exact h⟩ fun pre x post s e c => ?_) fun s hs => Ok.ret ⟨rfl, ?_⟩
  · have pl : pre.length < w.length := by
      have := congrArg List.length e
      rw [enu_length, vl] at this
      simp at this; omega
    have hx : x = ((pre.length : Int), (cc w pre.length, gg w pre.length)) := by
      have := vis_at (w := w) pl
      rw [e] at this
      rw [List.getElem?_append_right (by omega), Nat.sub_self] at this
      exact Option.some.inj this
    subst hx
    refine Ok.mono (Q := fun s' => Cp m R w As Bs (pre.length + 1) s') ?_ fun s' hs' => by rw [List.length_append, List.length_singleton]; exact hs'
    generalize pre.length = k at *
    have ig : In (2 * m) (gg w k) := d.wk.1 _ (gg_mem pl)
    have ir := hm_rg h ig
    have rk := rt k pl
    have lr := row_le h (rw_mem ir)
    have ll := rk.perm.length_eq
    have b1 := between_rot h (by omega) (rw_mem ir) rk
    have b2 := between_rot h (by omega) (rw_mem ir) (c := gg w k) (g := cc w k) (A := Bs k) (B := As k) (rk.trans ⟨cc w k :: As k, gg w k :: Bs k, by simp, by simp⟩)
    simp only [List.length_cons, List.length_append] at ll
    have ek : idx (El m w.length) (k : Int) = some (gg (El m w.length) k) := by
      rw [idx_nat (by rw [El_len]; exact pl), gg_at (by rw [El_len]; exact pl)]
    have ek1 : idx (El m w.length) ((k : Int) - 1) = some ((prevs (El m w.length)).getD k 0) := by
      rw [prevs_idx (by rw [El_len]; exact pl), getD_at (by rw [prevs_length, El_len]; exact pl)]
    obtain ⟨j, hj, f1, f2⟩ := El_cc (m := m) pl
    rw [b1, bs, cat_ok (by simp; omega), bs, cat_ok (by simp; omega), bs, begun_eq (by simp; omega), bs, homes_idx h ig, bs, putI_ok ir.1 (by rw [c.len]; omega), bs, ek, bs, b2, bs, cat_ok (by simp; omega), bs, ek1, bs, f1, cat_ok (by simp; omega), bs, begun_eq (by simp; omega), bs, app_ok (by rw [List.length_set, c.len]; omega), bs]
    refine Ok.ret ?_
    have := cp_step h d rt pl c
    rw [f2] at this
    simpa using this
  · rw [enu_length, vl] at hs
    exact hs
theorem Cp.dr (h : Dr (2 * m) R) (c : Cp m R w As Bs w.length C) : Dr (2 * (m + w.length)) C := c.flat.trans (new_perm m w.length)
end Td

namespace Td
open Ty
def p_check_seam_2 (drawing : (List (List Int))) (ones : (List Int)) (others : (List Int)) : Option Unit :=
 (Td.p_homes_of drawing).bind fun homes =>
 (Td.p_behind_of drawing).bind fun behind =>
 if ((ones.length : Int) ≠ (others.length : Int)) then none
 else (dcp ones (fun x13 : Int => some true) fun x13 => (idx homes x13).bind fun v16 => some (v16, true)).bind fun places =>
 (lcp others (fun x20 : Int => some true) fun x20 => (idx homes x20).bind fun v23 =>
 some (decide (dhas places v23 = true))).bind fun ys24 =>
 if ys24.any id = true then none
 else (Td.p_visits_of others).bind fun r27 =>
 (lcp r27 (fun x28 : (Int × Int) => some true) fun x28 => (idx behind x28.1).bind fun v31 =>
 some (decide (v31 ≠ x28.2))).bind fun ys32 =>
 if ys32.any id = true then none
 else (Td.p_visits_of ones).bind fun r35 =>
 (lcp r35 (fun x36 : (Int × Int) => some true) fun x36 => (idx behind x36.2).bind fun v39 =>
 some (decide (v39 ≠ x36.1))).bind fun ys40 =>
 if ys40.any id = true then none
 else some (())
end Td

namespace Td
open Ty
def p_names_without (many : Int) (gone : (List (Int × Bool))) : Option (List (Int × Int)) :=
 lt (([] : (List (Int × Int))) : (List (Int × Int))) fun names =>
 (rng 0 many).bind fun xs3 =>
 (forO xs3 (names : ((List (Int × Int)))) fun s5 x4 =>
 (if ¬dhas gone x4 = true then lt ((s5.length : Int) : Int) fun even =>
 (pmul 2 x4).bind fun v10 =>
 (dputO s5 v10 even).bind fun names =>
 (pmul 2 x4).bind fun v13 =>
 (dputO names (v13 + 1) (even + 1)).bind fun names =>
 some names
 else some s5 : Option ((List (Int × Int)))).bind fun j16 =>
 some j16).bind fun s19 =>
 some (s19)
end Td

namespace Td
open Ty
def p_glued_2 (drawing : (List (List Int))) (ones : (List Int)) (others : (List Int)) : Option ((List (List Int)) × (List Int)) :=
 (Td.p_check_round drawing ones).bind fun r3 =>
 (Td.p_check_round drawing others).bind fun r8 =>
 (Td.p_check_seam_2 drawing ones others).bind fun r13 =>
 (Td.p_homes_of drawing).bind fun homes =>
 (Td.p_behind_of drawing).bind fun behind =>
 (lcm drawing fun x28 : (List Int) => x28).bind fun rows =>
 (Td.p_visits_of ones).bind fun r34 =>
 (Td.p_visits_of others).bind fun r37 =>
 (forO (List.zip r34 r37) (rows : ((List (List Int)))) fun s39 x38 =>
 (Td.p_ring_from behind x38.1.1).bind fun r44 =>
 (Td.p_between behind x38.2.2 x38.2.1).bind fun r47 =>
 (cat r44 r47).bind fun v48 =>
 (idx homes x38.1.2).bind fun v49 =>
 (putI s39 v49 v48).bind fun rows =>
 some rows).bind fun s53 =>
 (dcp others (fun x58 : Int => some true) fun x58 => (idx homes x58).bind fun v61 => some (v61, true)).bind fun gone =>
 (dcp others (fun x67 : Int => some true) fun x67 => some (x67 / 2, true)).bind fun m72 =>
 (Td.p_names_without ((homes.length : Int) / 2) m72).bind fun names =>
 (lcp (enu 0 s53) (fun x80 : (Int × (List Int)) => some (decide (¬dhas gone x80.1 = true))) fun x80 => some x80.2).bind fun left =>
 (lcp left (fun x84 : (List Int) => some true) fun x84 => (lcp x84 (fun x87 : Int => some true) fun x87 => (dget names x87).bind fun v90 =>
 some v90).bind fun ys91 =>
 (Td.p_begun_least ys91).bind fun r94 =>
 some r94).bind fun ys95 =>
 (lcp ones (fun x96 : Int => some true) fun x96 => (dget names x96).bind fun v99 =>
 some v99).bind fun ys100 =>
 some ((ys95, ys100))
end Td

namespace Td
open Ty

section
variable {w : List Int}
theorem pv_gg {k : Nat} (hk : k < w.length) : (prevs w).getD k 0 = gg w ((k + (w.length - 1)) % w.length) := by
  have hm_ : (k + (w.length - 1)) % w.length < w.length := Nat.mod_lt _ (by omega)
  have e := prevs_idx hk
  rw [getD_at (by simpa using hk), gg_at hm_]
  apply Option.some.inj
  rw [← e]
  by_cases z : k = 0
  · subst z
    rw [show (((0 : Nat) : Int) - 1) = -1 by omega, idx_neg (by decide) (by omega)]
    congr 2
    rw [Nat.zero_add, Nat.mod_eq_of_lt (by omega)]; omega
  · rw [show ((k : Int) - 1) = ((k - 1 : Nat) : Int) by omega, idx_nat (by omega)]
    congr 2
    rw [show k + (w.length - 1) = (k - 1) + w.length by omega, Nat.add_mod_right, Nat.mod_eq_of_lt (by omega)]
end
theorem once_nd {xs : List Int} (h : xs.Nodup) : (once xs).length = xs.length := by
  have key : ∀ (xs l : List Int), (l ++ xs).Nodup → xs.foldl (fun l x => if x ∈ l then l else l ++ [x]) l = l ++ xs := fun xs => by
    induction xs with
    | nil => intro l _; simp
    | cons x xs ih =>
      intro l nd
      rw [List.foldl_cons, if_neg (fun z => (List.nodup_append.mp nd).2.2 x z x (List.mem_cons_self ..) rfl), ih (l ++ [x]) (by simpa using nd)]
      simp
  unfold once
  rw [key xs [] (by simpa using h)]; simp
theorem rd_of {n : Nat} {rows : List (List Int)} {u : List Int} (f : Nat → Int) (h0 : 0 < u.length) (h1 : ∀ k, k < u.length → In (2 * n) (gg u k)) (h2 : ∀ k, k < u.length → hm rows (gg u k) = f k) (h3 : ∀ k, k < u.length → hm rows (cc u k) = f k) (h4 : ∀ i j, i < u.length → j < u.length → f i = f j → i = j) (h5 : ∀ i j, i < u.length → j < u.length → gg u i / 2 = gg u j / 2 → i = j) : Rd n rows u := by
  have nd : ∀ g : Int → Int, (∀ i j, i < u.length → j < u.length → g (gg u i) = g (gg u j) → i = j) → (u.map g).Nodup := fun g hg => by
    refine List.pairwise_iff_getElem.mpr fun i j hi hj hij e => ?_
    rw [List.length_map] at hi hj
    rw [List.getElem_map, List.getElem_map] at e
    have := hg i j hi hj (by rw [gg_at hj, gg_at hi]; exact e)
    omega
  refine ⟨⟨fun x hx => ?_, fun k hk => ?_⟩, h0, ?_, ?_⟩
  · obtain ⟨k, hk, rfl⟩ := List.getElem_of_mem hx
    rw [← gg_at hk]
    exact h1 k hk
  · have a := h3 k hk
    have b := h2 k hk
    unfold cc at a
    rw [getD_at (by simpa using hk)] at a
    rw [gg_at hk] at b
    rw [a, b]
  · rw [once_nd (nd _ fun i j hi hj e => h4 i j hi hj (by rw [← h2 i hi, ← h2 j hj]; exact e))]; simp
  · rw [once_nd (nd (fun x => x / 2) h5)]; simp
end Td

set_option maxHeartbeats 2000000
namespace Td
open Ty
variable {m : Nat} {R C : List (List Int)} {w : List Int} {As Bs : Nat → List Int}
structure Cf (m : Nat) (R : List (List Int)) (w : List Int) (As Bs : Nat → List Int) (C : List (List Int)) : Prop where
  dr : Dr (2 * (m + w.length)) C
  in1 : ∀ k, k < w.length → In R.length (hm R (gg w k))
  hg : ∀ k, k < w.length → hm C (gg w k) = hm R (gg w k)
  hc : ∀ k, k < w.length → hm C (cc w k) = hm R (gg w k)
  eg : ∀ k, k < w.length → hm C (gg (El m w.length) k) = ((R.length + k : Nat) : Int)
  ec : ∀ k, k < w.length → hm C (cc (El m w.length) k) = ((R.length + k : Nat) : Int)
  nw : ∀ k, k < w.length → nx C (gg w k) = cc w k
  ne : ∀ k, k < w.length → nx C (cc (El m w.length) k) = gg (El m w.length) k
  rg : ∀ k, k < w.length → p_ring_from (behindL C) (cc w k) = some (cc w k :: (As k ++ [gg w k]))
  bt : ∀ k, k < w.length → p_between (behindL C) (gg (El m w.length) k) (cc (El m w.length) k) = some (Bs k)
end Td

namespace Td
open Ty
theorem named3_eq (b : List Int × Int × Int × Int) (rows : List (List Int)) : l_named_3 b rows = l_named b rows := rfl
theorem flat_perm {a b : List (List Int)} (h : a.Perm b) : a.flatten.Perm b.flatten := by
  induction h with
  | nil => exact .refl _
  | cons x _ ih => exact ih.append_left x
  | swap x y l => simp only [List.flatten_cons, ← List.append_assoc]; exact List.Perm.append_right _ List.perm_append_comm
  | trans _ _ h1 h2 => exact h1.trans h2
def rd0 (k : Nat) : List (List Int) := [0, 2 * (k : Int) - 1] :: (span 1 (k : Int)).map fun i => [2 * i - 1, 2 * i]
theorem rd0_len {k : Nat} (h : 0 < k) : (rd0 k).length = k := by unfold rd0; simp; omega
theorem rd0_flat : ∀ k : Nat, ((span 1 ((k + 1 : Nat) : Int)).map fun i => [2 * i - 1, 2 * i]).flatten = span 1 (((2 * k + 1 : Nat)) : Int)
  | 0 => by simp [span]
  | k + 1 => by
    rw [show (((k + 1 + 1 : Nat)) : Int) = ((k + 1 : Nat) : Int) + 1 by omega, span_succ (by omega), List.map_append, List.flatten_append, rd0_flat k]
    rw [show (((2 * (k + 1) + 1 : Nat)) : Int) = ((2 * k + 1 : Nat) : Int) + 1 + 1 by omega, span_succ (by omega), span_succ (by omega), List.append_assoc]
    congr 1
    simp
    omega
theorem rd0_dr {k : Nat} (h : 0 < k) : Dr (2 * k) (rd0 k) := by
  obtain ⟨k, rfl⟩ : ∃ j, k = j + 1 := ⟨k - 1, by omega⟩
  unfold Dr rd0
  rw [List.flatten_cons, rd0_flat]
  have e : span 0 ((2 * (k + 1) : Nat) : Int) = [0] ++ (span 1 ((2 * k + 1 : Nat) : Int) ++ [((2 * k + 1 : Nat) : Int)]) := by
    rw [← span_succ (by omega)]
    have := span_succ (a := 0) (b := 0) (by omega)
    rw [show ((2 * (k + 1) : Nat) : Int) = ((2 * k + 1 : Nat) : Int) + 1 by omega]
    unfold span
    rw [show ((((2 * k + 1 : Nat) : Int) + 1 - 0)).toNat = (((2 * k + 1 : Nat) : Int) + 1 - 1).toNat + 1 by omega, List.range_succ_eq_map, List.map_cons, List.map_map]
    simp
    intro a _; omega
  rw [e, show 2 * ((k + 1 : Nat) : Int) - 1 = ((2 * k + 1 : Nat) : Int) by omega]
  show List.Perm (0 :: (((2 * k + 1 : Nat) : Int) :: span 1 ((2 * k + 1 : Nat) : Int))) (0 :: _)
  exact (List.perm_append_singleton _ _).symm.cons _
theorem rd0_ok {k : Nat} (h : 0 < k) (hk : k ≤ 1000) {α : Type} {f : List (List Int) → Option α} : ((rng 0 (k : Int)).bind fun xs3 =>
 (lcp xs3 (fun x4 : Int => some true) fun x4 => (pmul 2 x4).bind fun v7 =>
 (pmul 2 x4).bind fun v8 =>
 some [v7 - 1, v8]).bind fun rows =>
 (pmul 2 (k : Int)).bind fun v10 =>
 (putI rows 0 [0, v10 - 1]).bind f) = f (rd0 k) := by
  rw [rng_ok (by omega) (by omega) (by omega) (by omega), bs, lcp_all (fun i => [2 * i - 1, 2 * i]) (by simp; omega) (fun _ _ => rfl) (fun i hi => by
    have := mem_span.mp hi
    rw [pmul_ok (by omega) (by omega), bs, bs]), bs, pmul_ok (by omega) (by omega), bs]
  have e : span 0 (k : Int) = 0 :: span 1 (k : Int) := by
    unfold span
    rw [show ((k : Int) - 0).toNat = ((k : Int) - 1).toNat + 1 by omega, List.range_succ_eq_map, List.map_cons, List.map_map]
    simp
    intro a _; omega
  rw [e, List.map_cons, putI_ok (by omega) (by simp <;> omega), bs]
  rfl
theorem dr_bare {n : Nat} {rows : List (List Int)} (h : Dr n rows) (xs : List Int) : Dr n (rows ++ xs.map fun _ => []) := by
  unfold Dr
  rw [List.flatten_append]
  have : (xs.map fun _ => ([] : List Int)).flatten = [] := by
    induction xs with
    | nil => rfl
    | cons x xs ih => rw [List.map_cons, List.flatten_cons, ih]; rfl
  rw [this, List.append_nil]
  exact h
end Td

namespace Td
open Ty
def l_named_4 (box : ((List Int) × Int × Int × Int)) (rows : (List (List Int))) : Option (((List (List Int)) × (List Int)) × ((List Int) × Int × Int × Int)) :=
 lt (([] : (List Int)) : (List Int)) fun names =>
 (lcm rows fun x3 : (List Int) => (x3.length : Int)).bind fun ys6 =>
 (Td.l_shuffled box (ys6.sum / 2)).bind fun r7 =>
 (forO r7.1 ((r7.2, names) : (((List Int) × Int × Int × Int) × (List Int))) fun s12 x11 =>
 (Td.l_take s12.1 2).bind fun r17 =>
 (pmul 2 x11).bind fun v19 =>
 (app s12.2 (v19 + r17.1)).bind fun names =>
 (pmul 2 x11).bind fun v23 =>
 (app names ((v23 + 1) - r17.1)).bind fun names =>
 some (r17.2, names)).bind fun s27 =>
 (Td.l_shuffled s27.1 (rows.length : Int)).bind fun r32 =>
 (lcm rows fun x36 : (List Int) => ([] : (List Int))).bind fun told =>
 (forO (enu 0 rows) (told : ((List (List Int)))) fun s41 x40 =>
 (lcp x40.2 (fun x44 : Int => some true) fun x44 => (idx s27.2 x44).bind fun v47 =>
 some v47).bind fun ys48 =>
 (Td.l_least_2 ys48).bind fun r51 =>
 (idx r32.1 x40.1).bind fun v52 =>
 (putI s41 v52 r51).bind fun told =>
 some told).bind fun s56 =>
 some ((s56, s27.2), r32.2)
end Td

namespace Td
open Ty
def l_two (told : ((List (List Int)) × (List Int))) (due : ((List (List Int)) × (List Int))) : Option Bool :=
 if ((2 : Int) ≠ 2) then some (false)
 else (Td.l_rows_2 told.1 due.1).bind fun r3 =>
 if r3 = true then (Td.l_row told.2 due.2).bind fun r6 =>
 some (decide (r6 = true)) else some false
end Td

namespace Td
open Ty
def law_k44 (script : (List Int)) : Option Bool :=
 lt ((script, 0, 0, 0) : ((List Int) × Int × Int × Int)) fun box =>
 (Td.l_take box 6).bind fun r5 =>
 ((Td.l_take r5.2 8).bind fun r7 => (if r7.1 = 0 then (Td.l_take r7.2 60).bind fun r15 =>
 some (r15.2, (1 + r5.1) + r15.1)
 else some (r7.2, 1 + r5.1) : Option (((List Int) × Int × Int × Int) × Int))).bind fun j17 =>
 (Td.l_take j17.1 5).bind fun r22 =>
 (((Td.l_take r22.2 7).bind fun r24 => Td.l_ringed r24.2 j17.2 r22.1 r24.1).bind fun r28 => Td.l_named_4 r28.2 r28.1).bind fun r32 =>
 (Td.l_turn_5 r32.2 r32.1.2 j17.2).bind fun r38 =>
 (Td.l_take r38.2 j17.2).bind fun r42 =>
 (lcm r32.1.1 fun x44 : (List Int) => x44).bind fun ys47 =>
 (Td.p_cut_along ys47 r38.1).bind fun y51 =>
 (lcm y51.1 fun x56 : (List Int) => x56).bind fun ys59 =>
 lt ((ys59, y51.2.1, y51.2.2) : ((List (List Int)) × (List Int) × (List Int))) fun kept =>
 (Td.p_glued_2 y51.1 y51.2.1 y51.2.2).bind fun r72 =>
 (Td.l_two r72 (r32.1.1, r38.1)).bind fun r75 =>
 if (¬(r75 = true) ∨ ((y51.1, y51.2.1, y51.2.2) ≠ kept)) then some (false)
 else (cat (sl y51.2.1 (some r42.1) none) (sl y51.2.1 none (some r42.1))).bind fun v78 =>
 (cat (sl y51.2.2 (some r42.1) none) (sl y51.2.2 none (some r42.1))).bind fun v79 =>
 (Td.p_glued_2 y51.1 v78 v79).bind fun told =>
 (cat (sl r38.1 (some r42.1) none) (sl r38.1 none (some r42.1))).bind fun v83 =>
 (Td.l_two told (r32.1.1, v83)).bind fun r86 =>
 some (decide (r86 = true ∧ ((y51.1, y51.2.1, y51.2.2) = kept)))
end Td

set_option maxHeartbeats 2000000
namespace Td
open Ty

def Sr (rows : List (List Int)) (x y : Int) : Prop := ∃ r ∈ rows, x ∈ r ∧ y ∈ r
theorem sr_hm {n : Nat} {rows : List (List Int)} (h : Dr n rows) {x y : Int} (hx : In n x) (hy : In n y) : Sr rows x y ↔ hm rows x = hm rows y := by
  constructor
  · rintro ⟨r, hr, h1, h2⟩
    obtain ⟨i, hi, rfl⟩ := List.getElem_of_mem hr
    rw [hm_row h hi h1, hm_row h hi h2]
  · intro e
    obtain ⟨i, hi, e1, m1⟩ := hm_in h hx
    obtain ⟨j, hj, e2, m2⟩ := hm_in h hy
    have : i = j := by omega
    subst this
    exact ⟨_, List.getElem_mem hi, m1, m2⟩
theorem sr_ins {rows rows' : List (List Int)} {e x y : Int} (h : Ins rows rows' e) (hx : x ≠ e) (hy : y ≠ e) : Sr rows' x y ↔ Sr rows x y := by
  obtain ⟨pre, r, post, r', rfl, rfl, p⟩ := h
  have m1 : ∀ z, z ≠ e → (z ∈ r' ↔ z ∈ r) := fun z hz => by
    rw [p.mem_iff, List.mem_cons]
    exact ⟨fun q => q.resolve_left hz, .inr⟩
  unfold Sr
  constructor
  · rintro ⟨q, hq, a, b⟩
    rcases List.mem_append.mp hq with z | z
    · exact ⟨q, List.mem_append_left _ z, a, b⟩
    · rcases List.mem_cons.mp z with z | z
      · subst z
        exact ⟨r, by simp, (m1 x hx).mp a, (m1 y hy).mp b⟩
      · exact ⟨q, List.mem_append_right _ (List.mem_cons_of_mem _ z), a, b⟩
  · rintro ⟨q, hq, a, b⟩
    rcases List.mem_append.mp hq with z | z
    · exact ⟨q, List.mem_append_left _ z, a, b⟩
    · rcases List.mem_cons.mp z with z | z
      · subst z
        exact ⟨r', by simp, (m1 x hx).mpr a, (m1 y hy).mpr b⟩
      · exact ⟨q, List.mem_append_right _ (List.mem_cons_of_mem _ z), a, b⟩
theorem sr_told {m : Nat} {rows rows' : List (List Int)} {names : List Int} (h : Dr (2 * m) rows) (n : Nms m names) (p : rows'.Perm (told (nm names) rows)) {x y : Int} (hx : In (2 * m) x) (hy : In (2 * m) y) : Sr rows' (nm names x) (nm names y) ↔ Sr rows x y := by
  have inr : ∀ r ∈ rows, ∀ z ∈ r, In (2 * m) z := fun r hr z hz => h.in.mp (List.mem_flatten.mpr ⟨r, hr, hz⟩)
  constructor
  · rintro ⟨q, hq, a, b⟩
    have hq := p.mem_iff.mp hq
    unfold told at hq
    obtain ⟨r, hr, rfl⟩ := List.mem_map.mp hq
    have a := (least_perm _).mem_iff.mp a
    have b := (least_perm _).mem_iff.mp b
    obtain ⟨x', hx', e1⟩ := List.mem_map.mp a
    obtain ⟨y', hy', e2⟩ := List.mem_map.mp b
    rw [n.inj (inr r hr _ hx') hx e1] at hx'
    rw [n.inj (inr r hr _ hy') hy e2] at hy'
    exact ⟨r, hr, hx', hy'⟩
  · rintro ⟨r, hr, a, b⟩
    refine ⟨least (r.map (nm names)), p.mem_iff.mpr (List.mem_map.mpr ⟨r, hr, rfl⟩), (least_perm _).mem_iff.mpr (List.mem_map.mpr ⟨x, a, rfl⟩), (least_perm _).mem_iff.mpr (List.mem_map.mpr ⟨y, b, rfl⟩)⟩
structure Rg (k : Nat) (rows : List (List Int)) : Prop where
  nb : ∀ i, i < k → Sr rows ((2 * i : Nat) : Int) ((2 * ((i + (k - 1)) % k) + 1 : Nat) : Int)
  ap : ∀ i j, i < k → j < k → Sr rows ((2 * i : Nat) : Int) ((2 * j : Nat) : Int) → i = j
theorem rg0 {k : Nat} (hk : 0 < k) (xs : List Int) : Rg k (rd0 k ++ xs.map fun _ => []) := by
  refine ⟨fun i hi => ?_, fun i j hi hj h => ?_⟩
  · by_cases z : i = 0
    · subst z
      refine ⟨[0, 2 * (k : Int) - 1], List.mem_append_left _ (List.mem_cons_self ..), by simp, ?_⟩
      rw [Nat.zero_add, Nat.mod_eq_of_lt (by omega)]
      simp; omega
    · refine ⟨[2 * (i : Int) - 1, 2 * (i : Int)], List.mem_append_left _ (List.mem_cons_of_mem _ (List.mem_map.mpr ⟨(i : Int), mem_span.mpr ⟨by omega, by omega⟩, rfl⟩)), by simp, ?_⟩
      rw [show i + (k - 1) = (i - 1) + k by omega, Nat.add_mod_right, Nat.mod_eq_of_lt (by omega)]
      simp; omega
  · obtain ⟨r, hr, a, b⟩ := h
    rcases List.mem_append.mp hr with z | z
    · unfold rd0 at z
      rcases List.mem_cons.mp z with z | z
      · subst z
        simp at a b
        omega
      · obtain ⟨c, hc, rfl⟩ := List.mem_map.mp z
        simp at a b
        omega
    · obtain ⟨_, _, rfl⟩ := List.mem_map.mp z
      cases a
theorem lay_endsS {n : Int} {b : List Int × Int × Int × Int} {rows : List (List Int)} {k m : Nat} (h : Bx n b) (hn : n ≤ 10000000) (hr : rows ≠ []) (hd : Dr k rows) (hl : rows.length ≤ 10000) (hm : m ≤ 10000) (hkm : k ≤ m) :
    Ok (l_lay_ends b rows (k : Int) (m : Int)) fun r => Bx (n + (m - k)) r.2.1 ∧ r.1 = r.2.2 ∧ Dr m r.1 ∧ r.1.length = rows.length ∧ ∀ x y : Int, x < k → y < k → (Sr r.1 x y ↔ Sr rows x y) := by
  unfold l_lay_ends
  have hp := List.length_pos_iff.mpr hr
  rw [rng_ok (by omega) (by omega) (by omega) (by omega), bs]
  refine (forO_span (fun i s => ∃ j : Nat, i = (j : Int) ∧ k ≤ j ∧ Bx (n + (j - k)) s.1 ∧ Dr j s.2 ∧ s.2.length = rows.length ∧ ∀ x y : Int, x < k → y < k → (Sr s.2 x y ↔ Sr rows x y)) (by omega) ⟨k, rfl, Nat.le_refl _, h.mono (by omega), hd, rfl, fun _ _ _ _ => .rfl⟩ fun i s h0 h1 ⟨j, hj, hkj, g1, g2, g3, g4⟩ => ?_).bind fun s ⟨j, hj, hkj, g1, g2, g3, g4⟩ => Ok.ret ?_
  · have : j = m := by omega
    subst this
    exact ⟨g1, rfl, g2, g3, g4⟩
  · subst hj
    have hjm : j < m := by omega
    have ms := max_sum s.2
    have fl := g2.len
    rw [lcm_ok (by omega), bs]
    refine Ok.bind (Q := fun r16 => Bx (n + (j - k) + 1) r16.1.2 ∧ Ins s.2 r16.2.2 (j : Int)) ((take_ok g1 (by omega) (by omega) (by omega)).bind fun r10 ⟨a0, a1, a2⟩ => ?_) fun r16 ⟨b1, b2⟩ => Ok.ret ⟨j + 1, by omega, by omega, b1.mono (by omega), span_snoc_perm b2.flat g2, by rw [b2.len]; exact g3, fun x y hx hy => (sr_ins b2 (by omega) (by omega)).trans (g4 x y hx hy)⟩
    obtain ⟨rows', e1, e2⟩ := l_putJ_ok (e := (j : Int)) a0 a1 (by omega) (by omega)
    rw [e1, bs]
    exact Ok.ret ⟨a2, e2⟩
theorem ringedS {n : Int} {b : List Int × Int × Int × Int} {k : Nat} {p t : Int} (h : Bx n b) (hn : n ≤ 1000) (hk : 0 < k) (hk2 : k ≤ 500) (p0 : 0 ≤ p) (p1 : p ≤ 100) (t0 : 0 ≤ t) (t1 : t ≤ 500) :
    Ok (l_ringed b (k : Int) p t) fun r => Bx (n + 2 * t) r.2 ∧ Dr (2 * (k + t.toNat)) r.1 ∧ r.1.length = k + p.toNat ∧ Rg k r.1 := by
  unfold l_ringed
  rw [rd0_ok hk (by omega), rng_ok (by omega) (by omega) (by omega) (by omega), bs, lcm_ok (by simp; omega), bs, cat_ok (by rw [rd0_len hk]; simp; omega), bs, pmul_ok (by omega) (by omega), bs, bs, pmul_ok (by omega) (by omega), bs]
  have d := dr_bare (rd0_dr hk) (span 0 p)
  have L := lay_endsS (k := 2 * k) (m := 2 * (k + t.toNat)) h (by omega) (by simp [rd0]) d (by rw [List.length_append, rd0_len hk]; simp; omega) (by omega) (by omega)
  rw [show 2 * (k : Int) + 2 * t = ((2 * (k + t.toNat) : Nat) : Int) by omega, show 2 * (k : Int) = ((2 * k : Nat) : Int) by omega]
  refine L.bind fun r ⟨g1, g2, g3, g4, g5⟩ => Ok.ret ⟨g1.mono (by omega), g3, ?_, ?_⟩
  · dsimp only
    rw [g4, List.length_append, rd0_len hk]
    simp
  · have r0 := rg0 hk (span 0 p)
    refine ⟨fun i hi => (g5 _ _ (by omega) ?_).mpr (r0.nb i hi), fun i j hi hj q => r0.ap i j hi hj ((g5 _ _ (by omega) (by omega)).mp q)⟩
    have := Nat.mod_lt (i + (k - 1)) hk
    omega
theorem Rd.rev {m : Nat} {R : List (List Int)} {w : List Int} (h : Dr (2 * m) R) (d : Rd m R w) : Rd m R (w.reverse.map mate) := by
  have L0 := d.ne
  have ul : (w.reverse.map mate).length = w.length := by simp
  have g : ∀ x, x < w.length → gg (w.reverse.map mate) x = mate (gg w (w.length - 1 - x)) := fun x hx => by
    rw [gg_at (by omega), List.getElem_map, List.getElem_reverse, gg_at (by omega)]
  have wkC : ∀ k, k < w.length → hm R (cc w k) = hm R (gg w k) := fun k hk => by
    have := d.wk.2 k hk
    unfold cc
    rw [getD_at (by simpa using hk), gg_at hk]
    exact this
  have c : ∀ x, x < w.length → cc (w.reverse.map mate) x = gg w ((w.length - x) % w.length) := fun x hx => by
    have hm_ : (x + (w.length - 1)) % w.length < w.length := Nat.mod_lt _ L0
    unfold cc
    rw [pv_gg (by omega), ul, g _ hm_, mate_mate]
    congr 1
    by_cases z : x = 0
    · subst z
      rw [Nat.zero_add, Nat.mod_eq_of_lt (by omega), Nat.sub_self, Nat.sub_zero, Nat.mod_self]
    · rw [show x + (w.length - 1) = (x - 1) + w.length by omega, Nat.add_mod_right, Nat.mod_eq_of_lt (by omega), Nat.mod_eq_of_lt (by omega)]; omega
  have lt2 : ∀ x, (w.length - x) % w.length < w.length := fun x => Nat.mod_lt _ L0
  refine rd_of (fun x => hm R (gg w ((w.length - x) % w.length))) (by omega) (fun x hx => ?_) (fun x hx => ?_) (fun x hx => by rw [c x (by omega)]) (fun i j hi hj e => ?_) (fun i j hi hj e => ?_)
  · rw [g x (by omega)]
    exact mate_in (d.wk.1 _ (gg_mem (by omega)))
  · rw [g x (by omega), ← wkC _ (lt2 x)]
    unfold cc
    rw [pv_gg (lt2 x)]
    congr 3
    by_cases z : x = 0
    · subst z
      have e0 : (w.length - 0) % w.length = 0 := by rw [Nat.sub_zero, Nat.mod_self]
      rw [e0, Nat.zero_add, Nat.mod_eq_of_lt (by omega)]; omega
    · rw [Nat.mod_eq_of_lt (by omega : w.length - x < w.length), show w.length - x + (w.length - 1) = (w.length - 1 - x) + w.length by omega, Nat.add_mod_right, Nat.mod_eq_of_lt (by omega)]
  · have e := hm_inj d (lt2 i) (lt2 j) e
    rw [ul] at hi hj
    have key : ∀ x, x < w.length → (w.length - x) % w.length = if x = 0 then 0 else w.length - x := fun x hx => by
      split
      · rename_i q; subst q; rw [Nat.sub_zero, Nat.mod_self]
      · exact Nat.mod_eq_of_lt (by omega)
    rw [key i hi, key j hj] at e
    split at e <;> split at e <;> omega
  · rw [ul] at hi hj
    rw [g i hi, g j hj] at e
    have e2 : gg w (w.length - 1 - i) / 2 = gg w (w.length - 1 - j) / 2 := by unfold mate at e; omega
    rw [gg_at (by omega), gg_at (by omega)] at e2
    have := once_inj (xs := w.map fun x => x / 2) (i := w.length - 1 - i) (j := w.length - 1 - j) (by simp; omega) (by simp; omega) (by rw [d.ti]; simp) (by rw [List.getElem_map, List.getElem_map]; exact e2)
    omega
theorem turn5_rd {n : Int} {b : List Int × Int × Int × Int} {k m : Nat} {D R : List (List Int)} {names : List Int} (h : Bx n b) (hn : n ≤ 50000) (hk : 0 < k) (hk2 : k ≤ 500) (hkm : k ≤ m) (hD : Dr (2 * m) D) (hR : Dr (2 * m) R) (rg : Rg k D) (nms : Nms m names) (p : R.Perm (told (nm names) D)) :
    Ok (l_turn_5 b names (k : Int)) fun r => Bx (n + 2) r.2 ∧ r.1.length = k ∧ Rd m R r.1 := by
  have nl := nms.length
  have inn : ∀ i : Nat, i < k → In (2 * m) ((2 * i : Nat) : Int) := fun i hi => ⟨by omega, by omega⟩
  have inn1 : ∀ i : Nat, i < k → In (2 * m) ((2 * i + 1 : Nat) : Int) := fun i hi => ⟨by omega, by omega⟩
  have F1 : ∀ i, i < k → hm R (mate (nm names ((2 * ((i + (k - 1)) % k) : Nat) : Int))) = hm R (nm names ((2 * i : Nat) : Int)) := fun i hi => by
    have hb := Nat.mod_lt (i + (k - 1)) hk
    have := (sr_hm hR (nms.in (inn i hi)) (nms.in (inn1 _ hb))).mp ((sr_told hD nms p (inn i hi) (inn1 _ hb)).mpr (rg.nb i hi))
    rw [this, ← nms.mate _ (inn _ hb)]
    congr 2
    unfold mate; omega
  have F2 : ∀ i j, i < k → j < k → hm R (nm names ((2 * i : Nat) : Int)) = hm R (nm names ((2 * j : Nat) : Int)) → i = j := fun i j hi hj e =>
    rg.ap i j hi hj ((sr_told hD nms p (inn i hi) (inn j hj)).mp ((sr_hm hR (nms.in (inn i hi)) (nms.in (inn j hj))).mpr e))
  have F3 : ∀ i j, i < k → j < k → nm names ((2 * i : Nat) : Int) / 2 = nm names ((2 * j : Nat) : Int) / 2 → i = j := fun i j hi hj e => by
    have : nm names ((2 * i : Nat) : Int) = nm names ((2 * j : Nat) : Int) ∨ nm names ((2 * i : Nat) : Int) = mate (nm names ((2 * j : Nat) : Int)) := by unfold mate; omega
    rcases this with q | q
    · have := nms.inj (inn i hi) (inn j hj) q
      omega
    · rw [← nms.mate _ (inn j hj)] at q
      have := nms.inj (inn i hi) (mate_in (inn j hj)) q
      unfold mate at this
      omega
  unfold l_turn_5
  refine (take_ok h (by omega) (by omega) (by omega)).bind fun r3 ⟨a0, a1, a2⟩ => ?_
  obtain ⟨t, ht⟩ := Int.eq_ofNat_of_zero_le a0
  rw [ht] at a1 ⊢
  have htk : t < k := by omega
  rw [rng_ok (by omega) (by omega) (by omega) (by omega), bs, lcp_all (fun x => nm names ((2 * ((t + x.toNat) % k) : Nat) : Int)) (by simp; omega) (fun _ _ => rfl) (fun x hx => by
    have h0 := mem_span.mp hx
    have hb := Nat.mod_lt (t + x.toNat) hk
    rw [pmod_ok (by omega), bs, show ((t : Int) + x) % (k : Int) = (((t + x.toNat) % k : Nat) : Int) by rw [Int.natCast_emod]; congr 1; omega, pmul_ok (by omega) (by omega), bs, show 2 * (((t + x.toNat) % k : Nat) : Int) = ((2 * ((t + x.toNat) % k) : Nat) : Int) by omega, nm_idx nms (inn _ hb), bs]), bs]
  let w : List Int := (span 0 (k : Int)).map fun x => nm names ((2 * ((t + x.toNat) % k) : Nat) : Int)
  have wl : w.length = k := by simp [w]
  have wg : ∀ x, x < k → gg w x = nm names ((2 * ((t + x) % k) : Nat) : Int) := fun x hx => by
    rw [gg_at (by omega)]
    show ((span 0 (k : Int)).map fun x => nm names ((2 * ((t + x.toNat) % k) : Nat) : Int))[x]'_ = _
    rw [List.getElem_map, span_getE, show (0 + (x : Int)).toNat = x by omega]
  have inj : ∀ i j, i < k → j < k → (t + i) % k = (t + j) % k → i = j := fun i j hi hj e => by
    have key : ∀ x, x < k → (t + x) % k = if t + x < k then t + x else t + x - k := fun x hx => by
      split
      · exact Nat.mod_eq_of_lt ‹_›
      · rw [Nat.mod_eq_sub_mod (by omega), Nat.mod_eq_of_lt (by omega)]
    rw [key i hi, key j hj] at e
    split at e <;> split at e <;> omega
  have rd : Rd m R w := by
    refine rd_of (fun x => hm R (nm names ((2 * ((t + x) % k) : Nat) : Int))) (by omega) (fun x hx => ?_) (fun x hx => by rw [wg x (by omega)]) (fun x hx => ?_) (fun i j hi hj e => ?_) (fun i j hi hj e => ?_)
    · rw [wg x (by omega)]
      exact nms.in (inn _ (Nat.mod_lt _ hk))
    · have hb := Nat.mod_lt (x + (k - 1)) hk
      unfold cc
      rw [pv_gg hx, wl, wg _ hb, ← F1 _ (Nat.mod_lt (t + x) hk), Nat.add_mod_mod, Nat.mod_add_mod]
      congr 6; omega
    · exact inj i j (by omega) (by omega) (F2 _ _ (Nat.mod_lt _ hk) (Nat.mod_lt _ hk) e)
    · rw [wg i (by omega), wg j (by omega)] at e
      exact inj i j (by omega) (by omega) (F3 _ _ (Nat.mod_lt _ hk) (Nat.mod_lt _ hk) e)
  show Ok (Option.bind ((l_take r3.2 2).bind fun r15 => (if r15.1 = 1 then (slS w none none (-1)).bind fun ys23 =>
    (lcp ys23 (fun x24 : Int => some true) fun x24 => (Td.l_mate x24).bind fun r29 => some r29).bind fun turn => some (r15.2, turn)
    else some (r15.2, w) : Option (((List Int) × Int × Int × Int) × (List Int)))) _) _
  refine Ok.bind (Q := fun j => Bx (n + 2) j.1 ∧ j.2.length = k ∧ Rd m R j.2) ((take_ok a2 (by omega) (by omega) (by omega)).bind fun r15 ⟨c0, c1, c2⟩ => ?_) fun j ⟨e1, e2, e3⟩ => Ok.ret ⟨e1, e2, e3⟩
  refine Ok.ite (fun _ => ?_) fun _ => Ok.ret ⟨c2.mono (by omega), wl, rd⟩
  rw [slS_rev, bs, lcp_all mate (by simp; omega) (fun _ _ => rfl) (fun x _ => by rw [l_mate_eq, bs]), bs]
  exact Ok.ret ⟨c2.mono (by omega), by simp [wl], rd.rev hR⟩
theorem forR_same {α σ ρ : Type} {f : σ → α → Option (Lp σ ρ)} : ∀ {xs : List α} {s : σ}, (∀ x ∈ xs, f s x = some (.go s)) → forR xs s f = some (.go s)
  | [], s, _ => rfl
  | x :: xs, s, h => by
    rw [forR, h x (List.mem_cons_self ..), bs]
    exact forR_same fun y hy => h y (List.mem_cons_of_mem _ hy)
theorem row_same (r : List Int) : l_row r r = some true := by
  unfold l_row aft
  rw [if_neg (by simp), forR_same (fun x hx => ?_), bs]
  obtain ⟨k, hk, rfl⟩ := List.getElem_of_mem hx
  have hk' : k < r.length := by simpa using hk
  rw [enu_getE hk]
  dsimp only
  rw [show ((0 + k : Nat) : Int) = (k : Int) by omega, idx_nat hk', bs, show l_whole r[k] = some true from rfl, bs, if_neg (by simp), bs, bs]
  simp
theorem rows_same (rs : List (List Int)) : l_rows_2 rs rs = some true := by
  unfold l_rows_2 aft
  rw [if_neg (by simp), forR_same (fun x hx => ?_), bs]
  obtain ⟨k, hk, rfl⟩ := List.getElem_of_mem hx
  have hk' : k < rs.length := by simpa using hk
  rw [enu_getE hk]
  dsimp only
  rw [show ((0 + k : Nat) : Int) = (k : Int) by omega, idx_nat hk', bs, row_same, bs]
  simp
end Td

namespace Td
open Ty
variable {G : Gd} {rows rows' : List (List Int)} {N : Nat} {E : Nat → Nat → Int} {pl : Int → Int → Nat}
def layStep (z : Int) (n : Int) (s12 : List Int) (x11 : Int × Int) : Option (List Int) :=
 (if ((x11.1 % 2) = 0) then (pmul z n).bind fun v17 =>
 lt (v17 + x11.1 : Int) fun even =>
 (putI s12 even x11.2).bind fun lay =>
 (Td.p_mate_of x11.2).bind fun r23 =>
 (putI lay (even + 1) r23).bind fun lay =>
 some lay
 else some s12 : Option ((List Int))).bind fun j27 =>
 some j27
structure Ck (G : Gd) (clock : List Int) (dir : Nat → Nat) : Prop where
  len : clock.length = G.z
  up : ixOf clock 2 = some (G.up : Int)
  dn : (G.up + G.z / 2) % G.z = 1
  dl : ∀ q < G.z, dir q < G.z
  lay : ∀ {M n : Nat} {g u : Nat → Int}, n ≤ 10000 → G.z * n + G.z ≤ M → forO (List.zip clock ((List.range G.z).map u)) ((List.range M).map g) (layStep (G.z : Int) (n : Int)) = some ((List.range M).map fun e => if e / G.z = n then (if e % G.z % 2 = 0 then u (dir (e % G.z)) else mate (u (dir (e % G.z - 1)))) else g e)
def ln (G : Gd) : Nat := if G.z = 4 then 4 else 3
end Td

namespace Td
open Ty
variable {G : Gd} {rows rows' : List (List Int)} {N : Nat} {E : Nat → Nat → Int} {pl : Int → Int → Nat}
structure KG (G : Gd) (w : Txt) (clock : List Int) (dir : Nat → Nat) : Prop where
  ok : G.Ok
  ck : Ck G clock dir
  sort : ∀ {rows : List (List Int)} {N : Nat} {E : Nat → Nat → Int} {pl : Int → Int → Nat}, KR G rows N E pl → G.z * N ≤ 10000 → rows.length = N → (∀ x ∈ rows, x.length = G.z) → p_sort_of rows = some w
  cl : (if (w = tx [102, 111, 117, 114, 115]) then ([0, 3, 1, 2] : List Int) else ([0, 3, 5, 1, 2, 4] : List Int)) = clock
def pqK (pl : Int → Int → Nat) (K p : Nat) : Nat := pl ((p % K : Nat) : Int) ((p / K : Nat) : Int)
end Td

namespace Td
open Ty
def l_bare_2 (box : ((List Int) × Int × Int × Int)) (way : Int) (rows : (List (List Int))) (lay : (List Int)) : Option (((List (List Int)) × (List Int)) × ((List Int) × Int × Int × Int)) :=
 ((Td.l_take box ((lay.length : Int) / 2)).bind fun r3 => (pmul 2 r3.1).bind fun w6 => some (r3, w6)).bind fun r5 =>
 (((Td.l_take r5.1.2 4).bind fun r9 => (idx [0, 1, 2, 10000000000000000000000000000000000000000] r9.1).bind fun z12 => some (r9, z12)).bind fun r11 => (pmul 2 r11.2).bind fun w14 => some (r11, w14)).bind fun r13 =>
 ((Td.l_take r13.1.1.2 2).bind fun r17 => (idx [(lay.length : Int) + r13.2, (0 - r13.2) - 2] r17.1).bind fun z20 => some (r17, z20)).bind fun r19 =>
 (if ((way = 21) ∨ (way = 22)) then lt (([] : (List Int)) : (List Int)) fun lay =>
 some lay
 else some lay : Option ((List Int))).bind fun j23 =>
 (if (way = 22) then ((some ()).bind fun a29 => (Td.l_take r19.1.2 3).bind fun r32 => (idx [([] : (List (List Int))), [([] : (List Int))], [[0, 1]]] r32.1).bind fun z35 => some ((a29, r32), z35)).bind fun r34 =>
 some (r34.1.2.2, r34.2)
 else some (r19.1.2, rows) : Option (((List Int) × Int × Int × Int) × (List (List Int)))).bind fun j36 =>
 (if (way = 23) then (cat (sl j23 none (some r5.2)) [r19.2, r19.2 + 1]).bind fun v41 =>
 (cat v41 (sl j23 (some (r5.2 + 2)) none)).bind fun lay =>
 some lay
 else some j23 : Option ((List Int))).bind fun j43 =>
 some ((j36.2, j43), j36.1)
end Td

namespace Td
open Ty
def l_bent_2 (box : ((List Int) × Int × Int × Int)) (way : Int) (lay : (List Int)) : Option ((List Int) × ((List Int) × Int × Int × Int)) :=
 (Td.l_take box (lay.length : Int)).bind fun r3 =>
 (Td.l_take r3.2 (lay.length : Int)).bind fun r7 =>
 if (way = 14) then (((some ()).bind fun a9 => (Td.l_take r7.2 ((lay.length : Int) + 2)).bind fun r12 => (cat (sl lay none (some r3.1)) [r12.1 - 1]).bind fun z19 => some ((a9, r12), z19)).bind fun r18 => (some ()).bind fun a22 => (cat r18.2 (sl lay (some (r3.1 + 1)) none)).bind fun z24 => some ((r18, a22), z24)).bind fun r23 => some (r23.2, r23.1.1.1.2.2)
 else if (way = 15) then (cat (sl lay none (some r3.1)) (sl lay (some (r3.1 + 1)) none)).bind fun v27 =>
 some (v27, r7.2)
 else if (way = 16) then (cat lay (sl lay (some r3.1) (some (r3.1 + 1)))).bind fun v28 =>
 some (v28, r7.2)
 else if (way = 17) then lt (lay : (List Int)) fun moved =>
 (idx lay r7.1).bind fun v31 =>
 (putI moved r3.1 v31).bind fun moved =>
 (idx lay r3.1).bind fun v35 =>
 (putI moved r7.1 v35).bind fun moved =>
 some (moved, r7.2)
 else some (lay, r7.2)
end Td

namespace Td
open Ty
def l_due_5 (rows : (List (List Int))) (sort : Txt) (numbers : (Int × Int × Int)) (lay : (List Int)) : Option Bool :=
 lt (numbers : (Int × Int × Int)) fun y1 =>
 (if (y1.1 < 1) then some true else (if (y1.2.1 < 1) then some true else (if (y1.2.2 < 0) then some true else (if (y1.2.1 ≤ y1.2.2) then some true else (pmul y1.1 y1.2.1).bind fun v4 =>
 (if (v4 ≠ (rows.length : Int)) then some true else (Td.l_part_count rows).bind fun r7 =>
 some (decide ((r7 ≠ 1)))).bind fun b8 =>
 some (decide (b8 = true))).bind fun b9 =>
 some (decide (b9 = true))).bind fun b10 =>
 some (decide (b10 = true))).bind fun b11 =>
 some (decide (b11 = true))).bind fun b12 =>
 if b12 = true then some (false)
 else if ((sort ≠ (tx [102, 111, 117, 114, 115])) ∧ (sort ≠ (tx [116, 104, 114, 101, 101, 115]))) then some (false)
 else (Td.l_kind_2 sort y1.1 y1.2.1 y1.2.2).bind fun r15 =>
 Td.l_lays r15 rows lay
end Td

namespace Td
open Ty
def l_other_word (box : ((List Int) × Int × Int × Int)) (way : Int) (sort : Txt) (numbers : (Int × Int × Int)) : Option ((Txt × Int × Int × Int) × ((List Int) × Int × Int × Int)) :=
 lt (numbers : (Int × Int × Int)) fun y1 =>
 (if (way = 8) then ((Td.l_take box 4).bind fun r6 => (idx [(tx [102, 111, 117, 114, 115]), (tx [116, 104, 114, 101, 101, 115]), (tx [102, 111, 117, 114]), (tx [])] r6.1).bind fun z9 => some (r6, z9)).bind fun r8 =>
 some (r8.1.2, r8.2)
 else some (box, sort) : Option (((List Int) × Int × Int × Int) × Txt)).bind fun j10 =>
 (if (way = 9) then ((Td.l_take j10.1 2).bind fun r15 => (pmul 2 r15.1).bind fun w18 => some (r15, w18)).bind fun r17 =>
 some (r17.1.2, (y1.1 + r17.2) - 1)
 else some (j10.1, y1.1) : Option (((List Int) × Int × Int × Int) × Int)).bind fun j21 =>
 (if (way = 10) then ((Td.l_take j21.1 2).bind fun r26 => (pmul 2 r26.1).bind fun w29 => some (r26, w29)).bind fun r28 =>
 some (r28.1.2, (y1.2.1 + r28.2) - 1)
 else some (j21.1, y1.2.1) : Option (((List Int) × Int × Int × Int) × Int)).bind fun j32 =>
 (if (way = 11) then lt ((j32.2, j21.2) : (Int × Int)) fun y35 =>
 some (y35.1, y35.2)
 else some (j21.2, j32.2) : Option (Int × Int)).bind fun j38 =>
 (if (way = 12) then ((Td.l_take j32.1 4).bind fun r43 => (idx [1, -1, j38.2, -j38.2] r43.1).bind fun z46 => some (r43, z46)).bind fun r45 =>
 some (r45.1.2, y1.2.2 + r45.2)
 else some (j32.1, y1.2.2) : Option (((List Int) × Int × Int × Int) × Int)).bind fun j47 =>
 (if (way = 13) then lt ([0, 0, 0] : (List Int)) fun great =>
 (((Td.l_take j47.1 2).bind fun r52 => (pmul 2 r52.1).bind fun w55 => some (r52, w55)).bind fun r54 => (pmul (r54.2 - 1) 10000000000000000000000000000000000000000).bind fun w61 => some (r54, w61)).bind fun r60 => (Td.l_take r60.1.1.2 3).bind fun r64 => (putI great r64.1 r60.2).bind fun great =>
 (idx great 0).bind fun v70 =>
 lt (j38.1 + v70 : Int) fun r =>
 (idx great 1).bind fun v73 =>
 lt (j38.2 + v73 : Int) fun c =>
 (idx great 2).bind fun v76 =>
 lt (j47.2 + v76 : Int) fun s =>
 some (r64.2, r, c, s)
 else some (j47.1, j38.1, j38.2, j47.2) : Option (((List Int) × Int × Int × Int) × Int × Int × Int)).bind fun j77 =>
 some ((j10.2, j77.2.1, j77.2.2.1, j77.2.2.2), j77.1)
end Td

namespace Td
open Ty
def p_is_kind (drawing : (List (List Int))) (sort : Txt) (rows : Int) (columns : Int) (shift : Int) (lay : (List Int)) : Option Bool :=
 (Td.p_are_numbers rows columns shift).bind fun r3 =>
 (if ¬(r3 = true) then some true else (pmul rows columns).bind fun v4 =>
 some (decide ((v4 ≠ (drawing.length : Int))))).bind fun b5 =>
 if b5 = true then some (false)
 else if (sort = (tx [102, 111, 117, 114, 115])) then (Td.p_fours_by rows columns shift).bind fun r8 =>
 Td.p_is_laying r8 drawing lay
 else if (sort = (tx [116, 104, 114, 101, 101, 115])) then (Td.p_threes_by_3 rows columns shift).bind fun r14 =>
 Td.p_is_laying r14 drawing lay
 else some (false)
end Td

namespace Td
open Ty
def law_k84_2 (script : (List Int)) : Option Bool :=
 lt ((script, 0, 0, 0) : ((List Int) × Int × Int × Int)) fun box =>
 (Td.l_take box 24).bind fun r5 =>
 ((Td.l_take r5.2 2).bind fun r9 => (idx [(tx [102, 111, 117, 114, 115]), (tx [116, 104, 114, 101, 101, 115])] r9.1).bind fun z12 => some (r9, z12)).bind fun r11 =>
 lt (4 : Int) fun many =>
 (if (r11.2 = (tx [116, 104, 114, 101, 101, 115])) then lt (6 : Int) fun many =>
 some many
 else some many : Option (Int)).bind fun j17 =>
 (Td.l_take r11.1.2 6).bind fun r22 =>
 (pdiv 12 (1 + r22.1)).bind fun v26 =>
 (Td.l_take r22.2 v26).bind fun r27 =>
 (Td.l_take r27.2 (1 + r27.1)).bind fun r31 =>
 (Td.l_kind_2 r11.2 (1 + r22.1) (1 + r27.1) r31.1).bind fun r35 =>
 (Td.l_named r31.2 r35).bind fun r36 =>
 (Td.l_take r36.2 (r36.1.2.length : Int)).bind fun r42 =>
 (pmod r42.1 j17).bind fun v44 =>
 (Td.l_read_2 r11.2 (1 + r22.1) (1 + r27.1) r31.1 v44).bind fun y48 =>
 (Td.l_kind_2 r11.2 y48.1 y48.2.1 y48.2.2).bind fun r55 =>
 (idx r36.1.2 r42.1).bind fun v56 =>
 (Td.l_forced r55 r36.1.1 0 v56).bind fun lay =>
 if (lay = none) then some (false)
 else (lay).bind fun lay_60 =>
 (Td.l_other_word r42.2 r5.1 r11.2 (y48.1, y48.2.1, y48.2.2)).bind fun r62 =>
 (Td.l_bent_2 r62.2 r5.1 lay_60).bind fun r70 =>
 (if (r5.1 = 18) then ((some [([] : (List Int))]).bind fun ys76 => cat r36.1.1 ys76).bind fun z77 =>
 some z77
 else some r36.1.1 : Option ((List (List Int)))).bind fun j78 =>
 (if (r5.1 = 19) then (lcp j78 (fun x87 : (List Int) => some true) fun x87 => (lcm x87 fun x90 : Int => x90 + (r36.1.2.length : Int)).bind fun ys93 =>
 some ys93).bind fun ys94 =>
 (cat j78 ys94).bind fun rows =>
 some rows
 else some j78 : Option ((List (List Int)))).bind fun j96 =>
 (if (r5.1 = 20) then (((Td.l_take r70.2 (r36.1.2.length : Int)).bind fun r101 => (Td.l_take r101.2 (r36.1.2.length : Int)).bind fun r105 => some (r101, r105)).bind fun r109 => (Td.l_exchanged j96 r109.1.1 r109.2.1).bind fun r110 => some (r109, r110)).bind fun r112 =>
 some (r112.1.2.2, r112.2)
 else some (r70.2, j96) : Option (((List Int) × Int × Int × Int) × (List (List Int)))).bind fun j113 =>
 (if (20 < r5.1) then (Td.l_bare_2 j113.1 r5.1 j113.2 r70.1).bind fun r116 =>
 some (r116.1.1, r116.1.2)
 else some (j113.2, r70.1) : Option ((List (List Int)) × (List Int))).bind fun j120 =>
 (if (r5.1 = 22) then lt ((1, 1, 0) : (Int × Int × Int)) fun y123 =>
 some (y123.1, y123.2.1, y123.2.2)
 else some (r62.1.2.1, r62.1.2.2.1, r62.1.2.2.2) : Option (Int × Int × Int)).bind fun j126 =>
 (lcm j120.1 fun x131 : (List Int) => x131).bind fun ys134 =>
 lt ((ys134, j120.2) : ((List (List Int)) × (List Int))) fun kept =>
 (Td.l_due_5 j120.1 r62.1.1 (j126.1, j126.2.1, j126.2.2) j120.2).bind fun due =>
 (Td.p_is_kind j120.1 r62.1.1 j126.1 j126.2.1 j126.2.2 j120.2).bind fun told =>
 some (decide (True ∧ ((told = due) ∧ ((j120.1, j120.2) = kept))))
end Td

namespace Td
open Ty
structure Kn (sort : Txt) (G : Gd) (sl : Nat → Nat) : Prop where
  ok : G.Ok
  one : ∀ d < G.z, (G.X d).natAbs ≤ 1 ∧ (G.Y d).natAbs ≤ 1
  way : ∀ d < G.z, sl d < G.z ∧ l_ways_2 sort ((sl d : Nat) : Int) = some ((G.X d, G.Y d), (G.X ((G.up + d) % G.z), G.Y ((G.up + d) % G.z)))
  make : ∀ r c s : Nat, 0 < r → s < c → r * c ≤ 40 → ∃ K E, l_kind_2 sort (r : Int) (c : Int) (s : Int) = some K ∧ KR G K (r * c) E (plc r c s) ∧ K.length = r * c ∧ (∀ x ∈ K, x.length = G.z) ∧ (sort = w4 → p_fours_by (r : Int) (c : Int) (s : Int) = some K) ∧ (sort = w6 → p_threes_by_3 (r : Int) (c : Int) (s : Int) = some K) ∧ ∀ p d, d < G.z → E p d % (G.z : Int) = ((sl d : Nat) : Int)
end Td

namespace Td
open Ty
variable {G : Gd} {rows rows' : List (List Int)} {N : Nat} {E : Nat → Nat → Int} {pl : Int → Int → Nat}
structure KM (G : Gd) (w : Txt) (clock : List Int) (dir : Nat → Nat) (Mk : Nat → Nat → Nat → List (List Int)) (Em : Nat → Nat → Nat → Nat → Nat → Int) : Prop where
  g : KG G w clock dir
  kr : ∀ a K b, 0 < a → b < K → KR G (Mk a K b) (a * K) (Em a K b) (plc a K b)
  len : ∀ a K b, (Mk a K b).length = a * K
  full : ∀ a K b, ∀ x ∈ Mk a K b, x.length = G.z
  at_ : ∀ {rows : List (List Int)} {N : Nat} {E : Nat → Nat → Int} {pl : Int → Int → Nat} {a K b : Nat}, KV G rows N E pl → 0 < a → b < K → (∀ x y x' y', pl x y = pl x' y' ↔ Lat a K b (x - x') (y - y')) → ∀ x y, ∀ d < G.z, layT G.z dir E (pqK pl K) (Em a K b (plc a K b x y) d).toNat = E (pl x y) d
end Td

namespace Td
open Ty
def l_fours_3 (r : Int) (c : Int) (s : Int) : Option (List (List Int)) :=
 lt (([] : (List (List Int))) : (List (List Int))) fun told =>
 (rng 0 r).bind fun xs3 =>
 (forO xs3 (told : ((List (List Int)))) fun s5 x4 =>
 (rng 0 c).bind fun xs8 =>
 (forO xs8 (s5 : ((List (List Int)))) fun s10 x9 =>
 (pmul x4 c).bind fun v15 =>
 lt (v15 + x9 : Int) fun p =>
 (pmul x4 c).bind fun v18 =>
 (pmod (x9 - 1) c).bind fun v19 =>
 lt (v18 + v19 : Int) fun left =>
 lt (p - c : Int) fun down =>
 (if (x4 = 0) then (pmul (r - 1) c).bind fun v24 =>
 (pmod (x9 - s) c).bind fun v25 =>
 lt (v24 + v25 : Int) fun down =>
 some down
 else some down : Option (Int)).bind fun j26 =>
 (pmul 4 p).bind fun v29 =>
 (pmul 4 p).bind fun v30 =>
 (pmul 4 j26).bind fun v31 =>
 (pmul 4 left).bind fun v32 =>
 (Td.l_least_2 [v29 + 2, v30, v31 + 3, v32 + 1]).bind fun r35 =>
 (app s10 r35).bind fun told =>
 some told).bind fun s39 =>
 some s39).bind fun s42 =>
 some (s42)
end Td

namespace Td
open Ty
def l_threes_2 (r : Int) (c : Int) (s : Int) : Option (List (List Int)) :=
 lt (([] : (List (List Int))) : (List (List Int))) fun told =>
 (pmul r c).bind fun v3 =>
 (rng 0 v3).bind fun xs4 =>
 (forO xs4 (told : ((List (List Int)))) fun s6 x5 =>
 (pmod x5 c).bind fun v11 =>
 (pmod x5 c).bind fun v12 =>
 (pmod (v12 - 1) c).bind fun v13 =>
 lt ((x5 - v11) + v13 : Int) fun left =>
 (Td.l_down r c s x5).bind fun down =>
 (Td.l_down r c s left).bind fun back =>
 (pmul 6 x5).bind fun v26 =>
 (pmul 6 x5).bind fun v27 =>
 (pmul 6 x5).bind fun v28 =>
 (pmul 6 down).bind fun v29 =>
 (pmul 6 back).bind fun v30 =>
 (pmul 6 left).bind fun v31 =>
 lt ([v26 + 2, v27 + 4, v28, v29 + 3, v30 + 5, v31 + 1] : (List Int)) fun row =>
 (Td.l_least_2 row).bind fun r34 =>
 (app s6 r34).bind fun told =>
 some told).bind fun s38 =>
 some (s38)
end Td

namespace Td
open Ty
def l_kind_3 (sort : Txt) (r : Int) (c : Int) (s : Int) : Option (List (List Int)) :=
 if (sort = (tx [102, 111, 117, 114, 115])) then Td.l_fours_3 r c s
 else Td.l_threes_2 r c s
end Td

namespace Td
open Ty
def l_lay (r : Int) (c : Int) (s : Int) (place : Int) (many : Int) : Option (List Int) :=
 lt (([] : (List Int)) : (List Int)) fun lay =>
 (rng 0 r).bind fun xs3 =>
 (forO xs3 (lay : ((List Int))) fun s5 x4 =>
 (pmul x4 c).bind fun v10 =>
 lt (place + v10 : Int) fun at_ =>
 (pmod at_ c).bind fun first =>
 (pmul r c).bind fun v14 =>
 (if (v14 ≤ at_) then (pmul r c).bind fun v17 =>
 lt (at_ - v17 : Int) fun at_ =>
 (pmod at_ c).bind fun v20 =>
 lt (v20 + s : Int) fun first =>
 some (at_, first)
 else some (at_, first) : Option (Int × Int)).bind fun j21 =>
 (rng 0 c).bind fun xs24 =>
 (forO xs24 (s5 : ((List Int))) fun s26 x25 =>
 (pdiv j21.1 c).bind fun v31 =>
 (pmul v31 c).bind fun v32 =>
 (pmod (j21.2 + x25) c).bind fun v33 =>
 lt (v32 + v33 : Int) fun here =>
 (rng 0 many).bind fun xs36 =>
 (lcp xs36 (fun x37 : Int => some true) fun x37 => (pmul many here).bind fun v40 =>
 some (v40 + x37)).bind fun ys41 =>
 (cat s26 ys41).bind fun lay =>
 some lay).bind fun s43 =>
 some s43).bind fun s46 =>
 some (s46)
end Td

namespace Td
open Ty
def l_told_3 (told : (Txt × Int × Int × Int × (List Int))) (sort : Txt) (numbers : (Int × Int × Int)) : Option Bool :=
 if ((5 : Int) ≠ 5) then some (false)
 else if (told.1 ≠ sort) then some (false)
 else aft (forR (enu 0 [numbers.1, numbers.2.1, numbers.2.2]) (() : Unit) fun s2 x1 =>
 ((idx ([none, some told.2.1, some told.2.2.1, some told.2.2.2.1, none] : List (Option Int)) (x1.1 + 1)).bind fun o_ => o_).bind fun v5 =>
 (Td.l_whole v5).bind fun r8 =>
 (if ¬(r8 = true) then some true else ((idx ([none, some told.2.1, some told.2.2.1, some told.2.2.2.1, none] : List (Option Int)) (x1.1 + 1)).bind fun o_ => o_).bind fun v9 =>
 some (decide ((v9 ≠ x1.2)))).bind fun b10 =>
 if b10 = true then some (.rt (false))
 else some (.go ())) (fun s11 =>
 some (true)) fun r_ => some r_
end Td

namespace Td
open Ty
def law_k38_2 (script : (List Int)) : Option Bool :=
 lt ((script, 0, 0, 0) : ((List Int) × Int × Int × Int)) fun box =>
 ((Td.l_take box 2).bind fun r5 => (idx [(tx [102, 111, 117, 114, 115]), (tx [116, 104, 114, 101, 101, 115])] r5.1).bind fun z8 => some (r5, z8)).bind fun r7 =>
 lt (4 : Int) fun many =>
 (if (r7.2 = (tx [116, 104, 114, 101, 101, 115])) then lt (6 : Int) fun many =>
 some many
 else some many : Option (Int)).bind fun j13 =>
 (Td.l_numbers r7.1.2).bind fun r16 =>
 (pmul r16.1.1 r16.1.2.1).bind fun v22 =>
 (Td.l_take r16.2 v22).bind fun r23 =>
 (Td.p_fours_2 r16.1.1 r16.1.2.1 r16.1.2.2).bind fun rows =>
 (if (r7.2 = (tx [116, 104, 114, 101, 101, 115])) then (Td.p_threes_4 r16.1.1 r16.1.2.1 r16.1.2.2).bind fun rows =>
 some rows
 else some rows : Option ((List (List Int)))).bind fun j35 =>
 (Td.p_read_kind j35 0).bind fun told =>
 (Td.l_told_3 told r7.2 (r16.1.1, r16.1.2.1, r16.1.2.2)).bind fun r45 =>
 (if ¬(r45 = true) then some true else (pmul j13 r16.1.1).bind fun v46 =>
 (pmul v46 r16.1.2.1).bind fun v47 =>
 (rng 0 v47).bind fun xs48 =>
 (Td.l_row told.2.2.2.2 xs48).bind fun r51 =>
 some (decide (¬(r51 = true)))).bind fun b52 =>
 if b52 = true then some (false)
 else (Td.l_kind_3 r7.2 r16.1.1 r16.1.2.1 r16.1.2.2).bind fun r55 =>
 (Td.l_rows_2 j35 r55).bind fun r58 =>
 if ¬(r58 = true) then some (false)
 else (pmul j13 r23.1).bind fun v61 =>
 (Td.p_read_kind j35 v61).bind fun told =>
 (Td.l_told_3 told r7.2 (r16.1.1, r16.1.2.1, r16.1.2.2)).bind fun r67 =>
 if ¬(r67 = true) then some (false)
 else (Td.l_lay r16.1.1 r16.1.2.1 r16.1.2.2 r23.1 j13).bind fun r70 =>
 Td.l_row told.2.2.2.2 r70
end Td

namespace Td
open Ty
def lay0 (z r c s : Nat) (x0 y0 : Int) : List Int := (List.range (z * (r * c))).map fun e => ((z * plc r c s (x0 + ((e / z % c : Nat) : Int)) (y0 + ((e / z / c : Nat) : Int)) + e % z : Nat) : Int)
end Td

namespace Td
open Ty
def l_large (box : ((List Int) × Int × Int × Int)) (most : Int) : Option ((Int × Int × Int) × ((List Int) × Int × Int × Int)) :=
 ((Td.l_take box 4).bind fun r1 => (if r1.1 = 0 then ((Td.l_take r1.2 4).bind fun r9 => (idx [1, 2, most / 2, most] r9.1).bind fun z12 => some (r9, z12)).bind fun r11 =>
 (pdiv most r11.2).bind fun c =>
 some (r11.1.2, r11.2, c)
 else (((Td.l_take r1.2 4).bind fun r18 => (idx [4, 15, 40, 90] r18.1).bind fun z21 => some (r18, z21)).bind fun r20 => Td.l_take r20.1.2 r20.2).bind fun r24 =>
 (pdiv (-41) (1 + r24.1)).bind fun v28 =>
 lt (-v28 : Int) fun least =>
 (pdiv most (1 + r24.1)).bind fun v31 =>
 (Td.l_take r24.2 (max 1 ((v31 - least) + 1))).bind fun r32 =>
 some (r32.2, 1 + r24.1, least + r32.1) : Option (((List Int) × Int × Int × Int) × Int × Int))).bind fun j34 =>
 (pmul j34.2.1 j34.2.2).bind fun v37 =>
 (if (most < v37) then lt (most : Int) fun r =>
 lt (1 : Int) fun c =>
 some (r, c)
 else some (j34.2.1, j34.2.2) : Option (Int × Int)).bind fun j42 =>
 ((Td.l_take j34.1 2).bind fun r45 => (if r45.1 = 1 then lt ((j42.2, j42.1) : (Int × Int)) fun y51 =>
 some (r45.2, y51.1, y51.2)
 else some (r45.2, j42.1, j42.2) : Option (((List Int) × Int × Int × Int) × Int × Int))).bind fun j54 =>
 (Td.l_take j54.1 j54.2.2).bind fun r57 => some ((j54.2.1, j54.2.2, r57.1), r57.2)
end Td

namespace Td
open Ty
def l_behind_4 (rows : (List (List Int))) : Option (List Int) :=
 (lcm rows fun x3 : (List Int) => (x3.length : Int)).bind fun ys6 =>
 (rep [0] ys6.sum).bind fun told =>
 (forO rows (told : ((List Int))) fun s9 x8 =>
 (forO (enu 0 x8) (s9 : ((List Int))) fun s13 x12 =>
 (pmod (x12.1 + 1) (x8.length : Int)).bind fun v16 =>
 (idx x8 v16).bind fun v17 =>
 (putI s13 x12.2 v17).bind fun told =>
 some told).bind fun s21 =>
 some s21).bind fun s24 =>
 some (s24)
end Td

namespace Td
open Ty
def l_lays_3 (ones : (List (List Int))) (others : (List (List Int))) (lay : (List Int)) : Option Bool :=
 (Td.l_behind_4 ones).bind fun one =>
 (Td.l_behind_4 others).bind fun other =>
 (if ((one.length : Int) ≠ (other.length : Int)) then some true else (Td.l_hits lay (one.length : Int)).bind fun r13 =>
 some (decide (¬(r13 = true)))).bind fun b14 =>
 if b14 = true then some (false)
 else (rng 0 (one.length : Int)).bind fun xs15 =>
 aft (forR xs15 (() : Unit) fun s17 x16 =>
 (Td.l_mate x16).bind fun r22 =>
 (idx lay r22).bind fun v23 =>
 (idx lay x16).bind fun v24 =>
 (Td.l_mate v24).bind fun r27 =>
 (if (v23 ≠ r27) then some true else (idx one x16).bind fun v28 =>
 (idx lay v28).bind fun v29 =>
 (idx lay x16).bind fun v30 =>
 (idx other v30).bind fun v31 =>
 some (decide ((v29 ≠ v31)))).bind fun b32 =>
 if b32 = true then some (.rt (false))
 else some (.go ())) (fun s33 =>
 some (true)) fun r_ => some r_
end Td

namespace Td
open Ty
def l_looked (rows : (List (List Int))) (sort : Txt) (numbers : (Int × Int × Int)) (lay : (List Int)) : Option Bool :=
 lt (numbers : (Int × Int × Int)) fun y1 =>
 (if (0 ≤ y1.2.2 ∧ y1.2.2 < y1.2.1) then (pmul y1.1 y1.2.1).bind fun v6 =>
 (if (v6 = (rows.length : Int)) then (Td.l_kind_3 sort y1.1 y1.2.1 y1.2.2).bind fun r9 =>
 (Td.l_lays_3 r9 rows lay).bind fun r12 =>
 some (decide (r12 = true)) else some false).bind fun b13 =>
 some b13 else some false).bind fun due =>
 (lcm rows fun x17 : (List Int) => x17).bind fun ys20 =>
 (Td.p_is_kind ys20 sort y1.1 y1.2.1 y1.2.2 lay).bind fun told =>
 some (decide (True ∧ (told = due)))
end Td

namespace Td
open Ty
def l_told_4 (told : (Txt × Int × Int × Int × (List Int))) (sort : Txt) (numbers : (Int × Int × Int)) : Option Bool :=
 if ((5 : Int) ≠ 5) then some (false)
 else if (told.1 ≠ sort) then some (false)
 else aft (forR (enu 0 [numbers.1, numbers.2.1, numbers.2.2]) (() : Unit) fun s2 x1 =>
 ((idx ([none, some told.2.1, some told.2.2.1, some told.2.2.2.1, none] : List (Option Int)) (x1.1 + 1)).bind fun o_ => o_).bind fun v5 =>
 (Td.l_whole v5).bind fun r8 =>
 (if ¬(r8 = true) then some true else ((idx ([none, some told.2.1, some told.2.2.1, some told.2.2.2.1, none] : List (Option Int)) (x1.1 + 1)).bind fun o_ => o_).bind fun v9 =>
 some (decide ((v9 ≠ x1.2)))).bind fun b10 =>
 if b10 = true then some (.rt (false))
 else some (.go ())) (fun s11 =>
 some (true)) fun r_ => some r_
end Td

namespace Td
open Ty
def law_k41_3 (script : (List Int)) : Option Bool :=
 lt ((script, 0, 0, 0) : ((List Int) × Int × Int × Int)) fun box =>
 ((Td.l_take box 2).bind fun r5 => (idx [(tx [102, 111, 117, 114, 115]), (tx [116, 104, 114, 101, 101, 115])] r5.1).bind fun z8 => some (r5, z8)).bind fun r7 =>
 lt (4 : Int) fun many =>
 lt (250 : Int) fun most =>
 (if (r7.2 = (tx [116, 104, 114, 101, 101, 115])) then lt (6 : Int) fun many =>
 lt (166 : Int) fun most =>
 some (many, most)
 else some (many, most) : Option (Int × Int)).bind fun j17 =>
 (Td.l_large r7.1.2 j17.2).bind fun r20 =>
 (pmul r20.1.1 r20.1.2.1).bind fun v26 =>
 ((Td.l_take r20.2 v26).bind fun r27 => (pmul j17.1 r27.1).bind fun w30 => some (r27, w30)).bind fun r29 =>
 (Td.l_kind_3 r7.2 r20.1.1 r20.1.2.1 r20.1.2.2).bind fun rows =>
 (lcm rows fun x38 : (List Int) => x38).bind fun ys41 =>
 (Td.p_read_kind ys41 r29.2).bind fun told =>
 (Td.l_told_4 told r7.2 (r20.1.1, r20.1.2.1, r20.1.2.2)).bind fun r47 =>
 if ¬(r47 = true) then some (false)
 else (Td.l_lays_3 rows rows told.2.2.2.2).bind fun r50 =>
 (if ¬(r50 = true) then some true else (idx told.2.2.2.2 0).bind fun v51 =>
 some (decide ((v51 ≠ r29.2)))).bind fun b52 =>
 if b52 = true then some (false)
 else lt (told.2.2.2.2 : (List Int)) fun lay =>
 (Td.p_is_kind rows r7.2 r20.1.1 r20.1.2.1 r20.1.2.2 lay).bind fun r57 =>
 if (r57 ≠ true) then some (false)
 else (Td.l_take r29.1.2 (lay.length : Int)).bind fun r60 =>
 (Td.l_take r60.2 (lay.length : Int)).bind fun r64 =>
 lt (lay : (List Int)) fun moved =>
 (idx lay r64.1).bind fun v68 =>
 (putI moved r60.1 v68).bind fun moved =>
 (idx lay r60.1).bind fun v72 =>
 (putI moved r64.1 v72).bind fun moved =>
 (Td.l_looked rows r7.2 (r20.1.1, r20.1.2.1, r20.1.2.2) moved).bind fun r78 =>
 if ¬(r78 = true) then some (false)
 else (((Td.l_take r64.2 r20.1.2.1).bind fun r79 => (pmod ((r20.1.2.2 + 1) + r79.1) r20.1.2.1).bind fun w84 => some (r79, w84)).bind fun r83 => (Td.l_looked rows r7.2 (r20.1.1, r20.1.2.1, r83.2) lay).bind fun r89 => some (r83, r89)).bind fun r91 => if (!r91.2) = true then some (false)
 else (((Td.l_take r91.1.1.2 2).bind fun r94 => (pmul 2 r94.1).bind fun w97 => some (r94, w97)).bind fun r96 => (Td.l_looked rows r7.2 ((r20.1.1 + r96.2) - 1, r20.1.2.1, r20.1.2.2) lay).bind fun r104 => some (r96, r104)).bind fun r106 => some (r106.2)
end Td

namespace Td
open Ty
theorem lK4b {r c s : Nat} (hr : 0 < r) (hs : s < c) (hl : r * c ≤ 300) : l_fours_2 (r : Int) (c : Int) (s : Int) = some (K4 r c s) := by
  have h1 : r ≤ 300 := Nat.le_trans (Nat.le_mul_of_pos_right r (by omega)) hl
  have h2 : c ≤ 300 := Nat.le_trans (Nat.le_mul_of_pos_left c hr) hl
  unfold l_fours_2
  rw [lt_eq, rng_ok (by omega) (by omega) (by omega) (by omega), bs]
  refine Ok.eqs ?_
  refine Ok.bind (forO_span (fun i t => ∃ k : Nat, i = (k : Int) ∧ t = (List.range (k * c)).map (fr4 r c s)) (by omega) ⟨0, rfl, by simp⟩ fun x t hx0 hx1 ⟨i, hi, ht⟩ => ?_) fun t ⟨k, hk, ht⟩ => Ok.ret (by rw [ht, show k = r by omega]; rfl)
  subst hi ht
  have hi : i < r := by omega
  have hm : (i + 1) * c ≤ r * c := Nat.mul_le_mul_right c hi
  rw [Nat.add_mul, Nat.one_mul] at hm
  rw [rng_ok (by omega) (by omega) (by omega) (by omega), bs]
  refine Ok.bind (forO_span (fun y t => ∃ k : Nat, y = (k : Int) ∧ t = (List.range (i * c + k)).map (fr4 r c s)) (by omega) ⟨0, rfl, by simp⟩ fun y t hy0 hy1 ⟨j, hj, ht⟩ => ?_) fun t ⟨k, hk, ht⟩ => Ok.ret ⟨i + 1, by omega, by rw [ht, show k = c by omega, Nat.add_mul, Nat.one_mul]⟩
  subst hj ht
  have hj : j < c := by omega
  have m1 : (i : Int) * (c : Int) = ((i * c : Nat) : Int) := rfl
  have l1 : ((j : Int) - 1) % (c : Int) = (((j + (c - 1)) % c : Nat) : Int) := imod (by omega) (by omega)
  rw [pmul_ok (by omega) (by omega), bs, lt_eq, bs, pmod_ok (by omega), bs, lt_eq, lt_eq, m1, l1]
  have dn : (if (i : Int) = 0 then (pmul ((r : Int) - 1) (c : Int)).bind fun v24 => (pmod ((j : Int) - (s : Int)) (c : Int)).bind fun v25 => Ty.lt (v24 + v25 : Int) fun down => some down else some (((i * c : Nat) : Int) + (j : Int) - (c : Int)) : Option Int) = some ((uppI r c s (i * c + j) : Nat) : Int) := by
    unfold uppI
    by_cases z : i = 0
    · subst z
      rw [if_pos (show ((0 : Nat) : Int) = 0 from rfl), Nat.zero_mul, Nat.zero_add, if_pos hj, pmul_ok (by omega) (by omega), bs, pmod_ok (by omega), bs, lt_eq, imod (a := j + (c - s)) (by omega) (by omega)]
      congr 1
      rw [Int.natCast_add, Int.natCast_mul, Int.natCast_sub (by omega)]; rfl
    · have : 1 * c ≤ i * c := Nat.mul_le_mul_right c (by omega)
      rw [if_neg (by omega), if_neg (by omega)]
      congr 1
      omega
  rw [dn, bs]
  have u := (upp_lt hr hs (show i * c + j < r * c by omega)).2.1
  have w : (j + (c - 1)) % c < c := Nat.mod_lt _ (by omega)
  rw [pmul_ok (by decide) (by omega), bs, bs, pmul_ok (by decide) (by omega), bs, pmul_ok (by decide) (by omega), bs, least2_ok (by simp), bs, app_ok (by simp; omega), bs]
  refine Ok.ret ⟨j + 1, by omega, ?_⟩
  rw [show i * c + (j + 1) = i * c + j + 1 by omega, List.range_succ, List.map_append]
  congr 1
  show [beg _] = [fr4 r c s (i * c + j)]
  unfold fr4 rgtI
  rw [(dm hj).1, (dm hj).2]
  congr 2
structure Mp (w : Txt) (z : Nat) (Mk : Nat → Nat → Nat → List (List Int)) : Prop where
  dr : ∀ a K b, 0 < a → b < K → a * K ≤ 300 → ∃ m, z * (a * K) = 2 * m ∧ Dr (2 * m) (Mk a K b) ∧ m ≤ 900 ∧ OP (2 * m) (Mk a K b)
  len : ∀ a K b, (Mk a K b).length = a * K
  law : ∀ a K b : Nat, 0 < a → b < K → a * K ≤ 300 → l_kind_3 w (a : Int) (K : Int) (b : Int) = some (Mk a K b)
  prog : ∀ a K b : Nat, 0 < a → b < K → a * K ≤ 300 → ∀ (D : List (List Int)) (lay : List Int), D.length = a * K → p_is_kind D w (a : Int) (K : Int) (b : Int) lay = p_is_laying (Mk a K b) D lay
end Td

set_option maxHeartbeats 2000000
namespace Td
open Ty
theorem rdN {k m : Nat} {D R : List (List Int)} {names : List Int} {e : Nat → Int} (hk : 0 < k) (hD : Dr (2 * m) D) (hR : Dr (2 * m) R) (nms : Nms m names) (p : R.Perm (told (nm names) D)) (ein : ∀ i, i < k → In (2 * m) (e i)) (ev : ∀ i, i < k → e i % 2 = 0)
    (nb : ∀ i, i < k → Sr D (e i) (mate (e ((i + (k - 1)) % k)))) (ap : ∀ i j, i < k → j < k → Sr D (e i) (e j) → i = j) : Rd m R ((span 0 (k : Int)).map fun x => nm names (e x.toNat)) := by
  let w : List Int := (span 0 (k : Int)).map fun x => nm names (e x.toNat)
  have wl : w.length = k := by simp [w]
  have wg : ∀ x, x < k → gg w x = nm names (e x) := fun x hx => by
    rw [gg_at (by omega)]
    show ((span 0 (k : Int)).map fun x => nm names (e x.toNat))[x]'_ = _
    rw [List.getElem_map, span_getE, show (0 + (x : Int)).toNat = x by omega]
  have lt2 : ∀ x, (x + (k - 1)) % k < k := fun x => Nat.mod_lt _ hk
  have same : ∀ i j, i < k → j < k → nm names (e i) = nm names (e j) → i = j := fun i j hi hj q => by
    have q := nms.inj (ein i hi) (ein j hj) q
    refine ap i j hi hj ?_
    have ⟨r, hr, a, b⟩ := nb i hi
    exact ⟨r, hr, a, by rw [← q]; exact a⟩
  show Rd m R w
  refine rd_of (fun x => hm R (nm names (e x))) (by omega) (fun x hx => ?_) (fun x hx => by rw [wg x (by omega)]) (fun x hx => ?_) (fun i j hi hj q => ?_) (fun i j hi hj q => ?_)
  · rw [wg x (by omega)]
    exact nms.in (ein x (by omega))
  · unfold cc
    rw [pv_gg hx, wl, wg _ (lt2 x), ← nms.mate _ (ein _ (lt2 x))]
    exact ((sr_hm hR (nms.in (ein x (by omega))) (nms.in (mate_in (ein _ (lt2 x))))).mp ((sr_told hD nms p (ein x (by omega)) (mate_in (ein _ (lt2 x)))).mpr (nb x (by omega)))).symm
  · exact ap i j (by omega) (by omega) ((sr_told hD nms p (ein i (by omega)) (ein j (by omega))).mp ((sr_hm hR (nms.in (ein i (by omega))) (nms.in (ein j (by omega)))).mpr q))
  · rw [wg i (by omega), wg j (by omega)] at q
    have hi : i < k := by omega
    have hj : j < k := by omega
    have : nm names (e i) = nm names (e j) ∨ nm names (e i) = mate (nm names (e j)) := by unfold mate; omega
    rcases this with z | z
    · exact same i j hi hj z
    · rw [← nms.mate _ (ein j hj)] at z
      have z := nms.inj (ein i hi) (mate_in (ein j hj)) z
      have := ev i hi
      have := ev j hj
      unfold mate at z
      omega
theorem four_line {r c s l : Nat} (hr : 0 < r) (hs : s < c) (hl : l < r) : (∀ i, i < c → Sr (K4 r c s) ((4 * (l * c + i) : Nat) : Int) (mate ((4 * (l * c + (i + (c - 1)) % c) : Nat) : Int))) ∧ ∀ i j, i < c → j < c → Sr (K4 r c s) ((4 * (l * c + i) : Nat) : Int) ((4 * (l * c + j) : Nat) : Int) → i = j := by
  have hm : (l + 1) * c ≤ r * c := Nat.mul_le_mul_right c hl
  rw [Nat.add_mul, Nat.one_mul] at hm
  have bp : ∀ xs : List Int, (beg xs).Perm xs := fun xs => by rw [beg_least]; exact least_perm xs
  refine ⟨fun i hi => ?_, fun i j hi hj h => ?_⟩
  · refine ⟨fr4 r c s (l * c + i), List.mem_map.mpr ⟨_, List.mem_range.mpr (by omega), rfl⟩, (bp _).mem_iff.mpr (by simp), (bp _).mem_iff.mpr ?_⟩
    have e : rgtI c (l * c + i) = l * c + (i + (c - 1)) % c := by
      unfold rgtI
      rw [show l * c + i = i + c * l by rw [Nat.mul_comm]; omega, Nat.add_mul_div_left _ _ (by omega), Nat.add_mul_mod_self_left, Nat.div_eq_of_lt hi, Nat.mod_eq_of_lt hi, Nat.zero_add]
    rw [e]
    have : mate ((4 * (l * c + (i + (c - 1)) % c) : Nat) : Int) = ((4 * (l * c + (i + (c - 1)) % c) + 1 : Nat) : Int) := by unfold mate; omega
    rw [this]
    simp
  · obtain ⟨q, hq, a, b⟩ := h
    obtain ⟨n, _, rfl⟩ := List.mem_map.mp hq
    have a := (bp _).mem_iff.mp a
    have b := (bp _).mem_iff.mp b
    simp only [List.mem_cons, List.not_mem_nil, or_false] at a b
    omega
theorem cutB_ok {m : Nat} {R : List (List Int)} {w : List Int} (h : Dr (2 * m) R) (hn : 2 * m ≤ 1000) (hl : R.length ≤ 1000) (hw : w.length < 1000) (d : Rd m R w) : ∃ C, l_cut_2 R w = some C ∧ p_cut_along R w = some (C, w, El m w.length) ∧ C.length = R.length + w.length ∧ Dr (2 * (m + w.length)) C := by
  obtain ⟨As, Bs, rt⟩ := rt_ex h hn hl hw d
  obtain ⟨C, c1, c2⟩ := cut_ok h hn hl hw d
  obtain ⟨x, x1, x2, x3⟩ := cutA_ok h hn hl hw d rt
  obtain ⟨C2, w2, E2⟩ := x
  cases x2
  obtain ⟨b, r1, r2, r3⟩ := round_ok h (by omega) (by omega) w (by omega)
  have hb := r3.mpr d
  subst hb
  have ck : p_check_round R w = some () := by unfold p_check_round; rw [r1, bs, if_neg (by simp)]
  have ck2 : p_check_round_2 R w = some (.ok ()) := by unfold p_check_round_2; rw [r1, bs, if_neg (by simp)]
  have ee : (lcp (span 0 (w.length : Int)) (fun x18 : Int => some true) fun x18 => (pmul 2 x18).bind fun v21 => some (((2 * m : Nat) : Int) + v21)) = some (El m w.length) := lcp_all _ (by simp; omega) (fun _ _ => rfl) (fun x hx => by
    have := mem_span.mp hx
    rw [pmul_ok (by decide) (by omega), bs])
  have e : C = C2 := by
    have y1 := x1
    unfold p_cut_along at y1
    unfold p_cut_along_2 at c2
    rw [ck, bs, homes_eq h (by omega) (by omega), bs, p_behind_eq h (by omega) (by omega), bs, rng_ok (by omega) (by omega) (by omega) (by omega), bs, behind_length, h.len, ee, bs, lcm_ok (by omega), bs, List.map_id', visits_ok (by omega), bs] at y1
    rw [ck2, bx_ok, homes_eq h (by omega) (by omega), bs, p_behind_eq h (by omega) (by omega), bs, rng_ok (by omega) (by omega) (by omega) (by omega), bs, behind_length, h.len, ee, bs, lcm_ok (by omega), bs, List.map_id', visits_ok (by omega), bs] at c2
    obtain ⟨s1, g1, g2⟩ := Option.bind_eq_some_iff.mp y1
    rw [g1, bs] at c2
    have q1 := Option.some.inj g2
    have q2 := Option.some.inj c2
    injection q1 with q1 _
    injection q2 with q2
    injection q2 with q2 _
    rw [← q1, ← q2]
  subst e
  exact ⟨C, c1, x1, x3.len, x3.dr h⟩
theorem three_same (x : List (List Int) × List Int × List Int) : l_three_2 x x = some true := by
  unfold l_three_2
  rw [if_neg (by simp), rows_same, bs, if_neg (by simp), row_same, bs, if_pos rfl, row_same, bs]; simp
theorem fours_same (r c s : Int) : l_fours r c s = l_fours_2 r c s := rfl
theorem great6_ok {n : Int} {b : List Int × Int × Int × Int} (h : Bx n b) (hn : n ≤ 40000) : Ok (l_great_6 b) fun r => ∃ m : Nat, m ≤ 400 ∧ r.1.2.1.length = 2 * m ∧ Dr (2 * m) r.1.1 ∧ r.1.1.length ≤ 200 ∧ Rd m r.1.1 r.1.2.2 ∧ r.1.2.2.length ≤ 80 := by
  unfold l_great_6
  refine (take_ok h (by omega) (by decide) (by decide)).bind fun r3 ⟨a0, a1, x1⟩ => ?_
  obtain ⟨r0, hr0⟩ := Int.eq_ofNat_of_zero_le a0
  rw [hr0] at a1 ⊢
  have hr : 0 < r0 + 2 := by omega
  rw [pdiv_ok (by omega) (by omega), bs, lt_eq]
  obtain ⟨c, hc⟩ : ∃ c : Nat, -((-125 : Int) / (2 + (r0 : Int))) = (c : Int) := ⟨(-((-125 : Int) / (2 + (r0 : Int)))).toNat, by
    have : (-125 : Int) / (2 + (r0 : Int)) ≤ 0 := Int.ediv_nonpos_of_nonpos_of_neg (by omega) (by omega)
    omega⟩
  have hcb : (r0 + 2) * c ≤ 149 ∧ 0 < c ∧ c ≤ 74 := by
    have d1 := Int.mul_ediv_self_le (x := -125) (k := 2 + (r0 : Int)) (by omega)
    have d2 := Int.lt_mul_ediv_self_add (x := -125) (k := 2 + (r0 : Int)) (by omega)
    have e1 : (2 + (r0 : Int)) * ((-125 : Int) / (2 + (r0 : Int))) = -(((r0 + 2) * c : Nat) : Int) := by
      rw [show (-125 : Int) / (2 + (r0 : Int)) = -(c : Int) by omega, Int.mul_neg, show (2 + (r0 : Int)) = ((r0 + 2 : Nat) : Int) by omega]; rfl
    rw [e1] at d1 d2
    have c0 : 0 < c := by
      rcases Nat.eq_zero_or_pos c with z | z
      · rw [z, Nat.mul_zero] at d1; omega
      · exact z
    refine ⟨by omega, c0, ?_⟩
    have := Nat.mul_le_mul_right c (show 2 ≤ r0 + 2 by omega)
    omega
  obtain ⟨hc1, hc2, hc3⟩ := hcb
  rw [hc]
  refine Ok.bind (Q := fun r14 => Bx (n + 2) r14.1.2 ∧ ∃ l : Nat, l < r0 + 2 ∧ r14.2 = ((l * c : Nat) : Int)) ?_ fun r14 ⟨x2, l, hl, e14⟩ => ?_
  · refine (take_ok x1 (by omega) (by omega) (by omega)).bind fun r10 ⟨b0, b1, b2⟩ => ?_
    rw [pmul_ok (by omega) (by omega), bs]
    exact Ok.ret ⟨b2.mono (by omega), r10.1.toNat, by omega, by
      dsimp only
      obtain ⟨q, hq⟩ := Int.eq_ofNat_of_zero_le b0
      rw [hq]; rfl⟩
  · rw [e14]
    have hlc : (l + 1) * c ≤ (r0 + 2) * c := Nat.mul_le_mul_right c hl
    rw [Nat.add_mul, Nat.one_mul] at hlc
    refine Ok.bind (Q := fun r25 => ∃ s : Nat, s < c ∧ Nms (2 * ((r0 + 2) * c)) r25.1.2 ∧ r25.1.1.Perm (told (nm r25.1.2) (K4 (r0 + 2) c s)) ∧ Dr (2 * (2 * ((r0 + 2) * c))) (K4 (r0 + 2) c s)) ?_ fun r25 ⟨s, hs, nms, p, hD⟩ => ?_
    · refine Ok.bind (Q := fun r22 => Bx (n + 3) r22.1.2 ∧ ∃ s : Nat, s < c ∧ r22.2 = K4 (r0 + 2) c s) ?_ fun r22 ⟨y1, s, hs, e22⟩ => ?_
      · refine (take_ok x2 (by omega) (by omega) (by omega)).bind fun r16 ⟨c0, c1, c2⟩ => ?_
        obtain ⟨s, hs⟩ := Int.eq_ofNat_of_zero_le c0
        rw [hs] at c1 ⊢
        rw [fours_same, show (2 + (r0 : Int)) = ((r0 + 2 : Nat) : Int) by omega, lK4b hr (by omega : s < c) (by omega), bs]
        exact Ok.ret ⟨c2.mono (by omega), s, by omega, rfl⟩
      · have hD : Dr (2 * (2 * ((r0 + 2) * c))) (K4 (r0 + 2) c s) := by
          have := (K4.kr hr hs).kv.dr
          rw [show G4.z * ((r0 + 2) * c) = 2 * (2 * ((r0 + 2) * c)) by show 4 * _ = _; omega] at this
          exact this
        rw [e22, named3_eq]
        refine (named_ok y1 (by omega) hD (by omega) (by rw [K4.len]; omega)).mono fun r ⟨n1, n2, n3⟩ => ⟨s, hs, n2, n3, hD⟩
    · have inn : ∀ i : Nat, i < c → In (2 * (2 * ((r0 + 2) * c))) ((4 * (l * c + i) : Nat) : Int) := fun i hi => ⟨by omega, by omega⟩
      have hR : Dr (2 * (2 * ((r0 + 2) * c))) r25.1.1 := (flat_perm p).trans (Td.Dr.told hD (fun x hx => nms.in hx) fun x y hx hy e => nms.inj hx hy e)
      rw [rng_ok (by omega) (by omega) (by omega) (by omega), bs, lcp_all (fun x => nm r25.1.2 ((4 * (l * c + x.toNat) : Nat) : Int)) (by simp; omega) (fun _ _ => rfl) (fun x hx => by
        have h0 := mem_span.mp hx
        rw [pmul_ok (by decide) (by omega), bs, show 4 * (((l * c : Nat) : Int) + x) = ((4 * (l * c + x.toNat) : Nat) : Int) by omega, nm_idx nms (inn _ (by omega)), bs]), bs]
      obtain ⟨q1, q2⟩ := four_line (s := s) hr hs hl
      refine Ok.ret ⟨2 * ((r0 + 2) * c), by omega, nms.length, hR, ?_, rdN (e := fun i => ((4 * (l * c + i) : Nat) : Int)) hc2 hD hR nms p inn (fun i hi => by omega) q1 q2, by simp; omega⟩
      dsimp only
      rw [p.length_eq, told_length, K4.len]; omega
theorem law_k42_ok (ns : List Int) : law_k42_2 ns = some true := by
  refine Ok.eqs ?_
  unfold law_k42_2
  rw [lt_eq]
  refine (take_ok (Bx.start (ns := ns)) (by decide) (by decide) (by decide)).bind fun r5 ⟨a0, a1, x1⟩ => ?_
  refine Ok.bind (Q := fun j => Bx 3 j.1 ∧ ∃ k : Nat, j.2 = (k : Int) ∧ 0 < k ∧ k ≤ 65) ?_ fun j17 ⟨x3, k, hk, k0, k1⟩ => ?_
  · refine (take_ok x1 (by decide) (by decide) (by decide)).bind fun r7 ⟨b0, b1, x2⟩ => ?_
    refine Ok.ite (fun _ => (take_ok x2 (by decide) (by decide) (by decide)).bind fun r15 ⟨c0, c1, x3⟩ => Ok.ret ⟨x3, ((1 + r5.1) + r15.1).toNat, by dsimp only; omega, by omega, by omega⟩) fun _ => Ok.ret ⟨x2.mono (by omega), (1 + r5.1).toNat, by dsimp only; omega, by omega, by omega⟩
  · rw [hk]
    refine (take_ok x3 (by decide) (by decide) (by decide)).bind fun r22 ⟨d0, d1, x4⟩ => ?_
    refine Ok.bind (Q := fun r32 => ∃ m : Nat, ∃ D : List (List Int), Bx 1000 r32.2 ∧ m ≤ 71 ∧ k ≤ m ∧ r32.1.1.length ≤ 69 ∧ Dr (2 * m) D ∧ Dr (2 * m) r32.1.1 ∧ Rg k D ∧ Nms m r32.1.2 ∧ r32.1.1.Perm (told (nm r32.1.2) D)) ?_ fun r32 ⟨m, D, x5, m1, m2, m3, hD, hR, rg, nms, p⟩ => ?_
    · refine Ok.bind (Q := fun r28 => ∃ m : Nat, Bx 20 r28.2 ∧ m ≤ 71 ∧ k ≤ m ∧ r28.1.length ≤ 69 ∧ Dr (2 * m) r28.1 ∧ Rg k r28.1) ?_ fun r28 ⟨m, y0, y1, y2, y3, y4, y5⟩ => ?_
      · refine (take_ok x4 (by decide) (by decide) (by decide)).bind fun r24 ⟨e0, e1, x5⟩ => ?_
        refine (ringedS x5 (by omega) k0 (by omega) d0 (by omega) e0 (by omega)).mono fun r ⟨f0, f1, f2, f3⟩ => ⟨k + r24.1.toNat, f0.mono (by omega), by omega, by omega, by omega, f1, f3⟩
      · rw [named3_eq]
        refine (named_ok y0 (by omega) y4 (by omega) (by omega)).mono fun r ⟨n1, n2, n3⟩ => ?_
        have e : r.1.1.length = r28.1.length := by rw [n3.length_eq, told_length]
        exact ⟨m, r28.1, n1.mono (by omega), y1, y2, by omega, y4, (flat_perm n3).trans (Td.Dr.told y4 (fun x hx => n2.in hx) fun x y hx hy e => n2.inj hx hy e), y5, n2, n3⟩
    · refine (turn5_rd x5 (by omega) k0 (by omega) m2 hD hR rg nms p).bind fun r38 ⟨x6, wl, rd⟩ => ?_
      refine Ok.bind (Q := fun j => ∃ m : Nat, m ≤ 400 ∧ j.2.1.length = 2 * m ∧ Dr (2 * m) j.1 ∧ j.1.length ≤ 200 ∧ Rd m j.1 j.2.2 ∧ j.2.2.length ≤ 80) ?_ fun j52 ⟨m, m1, nl, hR, rl, rd, wl⟩ => ?_
      · refine (take_ok x6 (by omega) (by decide) (by decide)).bind fun r42 ⟨g0, g1, x7⟩ => ?_
        refine Ok.ite (fun _ => (great6_ok x7 (by omega)).bind fun r48 ⟨m, q⟩ => Ok.ret ⟨m, q⟩) fun _ => Ok.ret ⟨m, by omega, nms.length, hR, by dsimp only; omega, rd, by dsimp only; omega⟩
      · obtain ⟨C, c1, c2, c3, c4⟩ := cutB_ok hR (by omega) (by omega) (by omega) rd
        have ee : (lcp (span 0 (j52.2.2.length : Int)) (fun x69 : Int => some true) fun x69 => (pmul 2 x69).bind fun v72 => some ((j52.2.1.length : Int) + v72)) = some (El m j52.2.2.length) := lcp_all _ (by simp; omega) (fun _ _ => rfl) (fun x hx => by
          have := mem_span.mp hx
          rw [pmul_ok (by decide) (by omega), bs, nl])
        have rle : ∀ r ∈ C, r.length ≤ 2 * (m + j52.2.2.length) := fun r hr => row_le c4 hr
        have hc : (lcp C (fun x94 : List Int => some true) fun x94 => (cat x94 [0]).bind fun v97 => some v97) = some (C.map fun r => r ++ [0]) := lcp_all (fun r => r ++ [0]) (by omega) (fun _ _ => rfl) fun r hr => by
          have := rle r hr
          rw [cat_ok (by simp; omega), bs]
        rw [lcm_ok (by omega), bs, List.map_id', lt_eq, c1, bs, rng_ok (by omega) (by omega) (by omega) (by omega), bs, ee, bs, lt_eq, c2, bs, three_same, bs, if_neg (by simp)]
        dsimp only
        rw [forW_map (g := fun r => r ++ [0]) (fun s x hx => by
          have := rle x hx
          rw [app_ok (by omega), bs]), bs, hc, bs, if_neg (by simp), app_ok (by omega), bs, app_ok (by rw [El_len]; omega), bs, if_neg (by simp), bs, three_same, bs]
        exact Ok.ret (by simp)
end Td

set_option maxHeartbeats 8000000
namespace Lw
open PySem L2 Ow
theorem law_true (ns : List Int) (h : ns.length ≤ 63) (hb : ∀ z ∈ ns, PySem.Builtin.Int.intBits z ≤ 1048576) : ff_law [scriptD ns] = some (.s (.bl true)) := ty_law_0 ns true (Td.law_k42_ok ns)
end Lw

set_option maxHeartbeats 8000000
namespace Lw
open PySem L2 Ow
theorem all_mk {l : PySem.W.OpenLaw} {w : World} {K : PySem.W.Frag} {h : Heap} {mg : PySem.Str → Option Value} {fa a0 a1 a2 a3 a4 a5 a6 a7 a8 a9 a10 a11 a12 a13 a14 a15 a16 a17 a18 a19 a20 a21 a22 a23 a24 a25 a26 a27 a28 a29 a30 : Addr} (X : K.In h) (G : h.Ns mainGlobals mg) (hfa : mg "law" = some (.ref fa))
    {od0 an0 od1 an1 od2 an2 od3 an3 od4 an4 od5 an5 od6 an6 od7 an7 od8 an8 od9 an9 od10 an10 od11 an11 od12 an12 od13 an13 od14 an14 od15 an15 od16 an16 od17 an17 od18 an18 od19 an19 od20 an20 od21 an21 od22 an22 od23 an23 od24 an24 od25 an25 od26 an26 od27 an27 od28 an28 od29 an29 od30 an30 : Option Addr} {sl0 sl1 sl2 sl3 sl4 sl5 sl6 sl7 sl8 sl9 sl10 sl11 sl12 sl13 sl14 sl15 sl16 sl17 sl18 sl19 sl20 sl21 sl22 sl23 sl24 sl25 sl26 sl27 sl28 sl29 sl30 : Array (Option Value)} {oc0 kV0 dc0 pm0 cd0 ct0 oc1 kV1 dc1 pm1 cd1 ct1 oc2 kV2 dc2 pm2 cd2 ct2 oc3 kV3 dc3 pm3 cd3 ct3 oc4 kV4 dc4 pm4 cd4 ct4 oc5 kV5 dc5 pm5 cd5 ct5 oc6 kV6 dc6 pm6 cd6 ct6 oc7 kV7 dc7 pm7 cd7 ct7 oc8 kV8 dc8 pm8 cd8 ct8 oc9 kV9 dc9 pm9 cd9 ct9 oc10 kV10 dc10 pm10 cd10 ct10 oc11 kV11 dc11 pm11 cd11 ct11 oc12 kV12 dc12 pm12 cd12 ct12 oc13 kV13 dc13 pm13 cd13 ct13 oc14 kV14 dc14 pm14 cd14 ct14 oc15 kV15 dc15 pm15 cd15 ct15 oc16 kV16 dc16 pm16 cd16 ct16 oc17 kV17 dc17 pm17 cd17 ct17 oc18 kV18 dc18 pm18 cd18 ct18 oc19 kV19 dc19 pm19 cd19 ct19 oc20 kV20 dc20 pm20 cd20 ct20 oc21 kV21 dc21 pm21 cd21 ct21 oc22 kV22 dc22 pm22 cd22 ct22 oc23 kV23 dc23 pm23 cd23 ct23 oc24 kV24 dc24 pm24 cd24 ct24 oc25 kV25 dc25 pm25 cd25 ct25 oc26 kV26 dc26 pm26 cd26 ct26 oc27 kV27 dc27 pm27 cd27 ct27 oc28 kV28 dc28 pm28 cd28 ct28 oc29 kV29 dc29 pm29 cd29 ct29 oc30 kV30 dc30 pm30 cd30 ct30 : Value}
    (q0 : PySem.W.nsIn K mainGlobals "mate_of" = some (some (.ref a0))) (l0 : K.lookup a0 = some ⟨oc0, od0, .func (PySem.W.fnOf "mate_of" "mate_of" (defArgs (topS 4)) (defBody (topS 4)) (defScope (topS 4)) .none kV0 dc0 pm0 an0 cd0 ct0), sl0⟩) (c0 : PySem.W.codeIn K cd0 "mate_of" = true) (k0 : PySem.W.keepIn K (.ref a0) = true)
    (q1 : PySem.W.nsIn K mainGlobals "count_ends" = some (some (.ref a1))) (l1 : K.lookup a1 = some ⟨oc1, od1, .func (PySem.W.fnOf "count_ends" "count_ends" (defArgs (topS 5)) (defBody (topS 5)) (defScope (topS 5)) .none kV1 dc1 pm1 an1 cd1 ct1), sl1⟩) (c1 : PySem.W.codeIn K cd1 "count_ends" = true) (k1 : PySem.W.keepIn K (.ref a1) = true)
    (q2 : PySem.W.nsIn K mainGlobals "homes_of" = some (some (.ref a2))) (l2 : K.lookup a2 = some ⟨oc2, od2, .func (PySem.W.fnOf "homes_of" "homes_of" (defArgs (topS 6)) (defBody (topS 6)) (defScope (topS 6)) .none kV2 dc2 pm2 an2 cd2 ct2), sl2⟩) (c2 : PySem.W.codeIn K cd2 "homes_of" = true) (k2 : PySem.W.keepIn K (.ref a2) = true)
    (q3 : PySem.W.nsIn K mainGlobals "behind_of" = some (some (.ref a3))) (l3 : K.lookup a3 = some ⟨oc3, od3, .func (PySem.W.fnOf "behind_of" "behind_of" (defArgs (topS 7)) (defBody (topS 7)) (defScope (topS 7)) .none kV3 dc3 pm3 an3 cd3 ct3), sl3⟩) (c3 : PySem.W.codeIn K cd3 "behind_of" = true) (k3 : PySem.W.keepIn K (.ref a3) = true)
    (q4 : PySem.W.nsIn K mainGlobals "begun_least" = some (some (.ref a4))) (l4 : K.lookup a4 = some ⟨oc4, od4, .func (PySem.W.fnOf "begun_least" "begun_least" (defArgs (topS 8)) (defBody (topS 8)) (defScope (topS 8)) .none kV4 dc4 pm4 an4 cd4 ct4), sl4⟩) (c4 : PySem.W.codeIn K cd4 "begun_least" = true) (k4 : PySem.W.keepIn K (.ref a4) = true)
    (q5 : PySem.W.nsIn K mainGlobals "is_walk" = some (some (.ref a5))) (l5 : K.lookup a5 = some ⟨oc5, od5, .func (PySem.W.fnOf "is_walk" "is_walk" (defArgs (topS 10)) (defBody (topS 10)) (defScope (topS 10)) .none kV5 dc5 pm5 an5 cd5 ct5), sl5⟩) (c5 : PySem.W.codeIn K cd5 "is_walk" = true) (k5 : PySem.W.keepIn K (.ref a5) = true)
    (q6 : PySem.W.nsIn K mainGlobals "is_round" = some (some (.ref a6))) (l6 : K.lookup a6 = some ⟨oc6, od6, .func (PySem.W.fnOf "is_round" "is_round" (defArgs (topS 11)) (defBody (topS 11)) (defScope (topS 11)) .none kV6 dc6 pm6 an6 cd6 ct6), sl6⟩) (c6 : PySem.W.codeIn K cd6 "is_round" = true) (k6 : PySem.W.keepIn K (.ref a6) = true)
    (q7 : PySem.W.nsIn K mainGlobals "check_round" = some (some (.ref a7))) (l7 : K.lookup a7 = some ⟨oc7, od7, .func (PySem.W.fnOf "check_round" "check_round" (defArgs (topS 12)) (defBody (topS 12)) (defScope (topS 12)) .none kV7 dc7 pm7 an7 cd7 ct7), sl7⟩) (c7 : PySem.W.codeIn K cd7 "check_round" = true) (k7 : PySem.W.keepIn K (.ref a7) = true)
    (q8 : PySem.W.nsIn K mainGlobals "visits_of" = some (some (.ref a8))) (l8 : K.lookup a8 = some ⟨oc8, od8, .func (PySem.W.fnOf "visits_of" "visits_of" (defArgs (topS 13)) (defBody (topS 13)) (defScope (topS 13)) .none kV8 dc8 pm8 an8 cd8 ct8), sl8⟩) (c8 : PySem.W.codeIn K cd8 "visits_of" = true) (k8 : PySem.W.keepIn K (.ref a8) = true)
    (q9 : PySem.W.nsIn K mainGlobals "between" = some (some (.ref a9))) (l9 : K.lookup a9 = some ⟨oc9, od9, .func (PySem.W.fnOf "between" "between" (defArgs (topS 14)) (defBody (topS 14)) (defScope (topS 14)) .none kV9 dc9 pm9 an9 cd9 ct9), sl9⟩) (c9 : PySem.W.codeIn K cd9 "between" = true) (k9 : PySem.W.keepIn K (.ref a9) = true)
    (q10 : PySem.W.nsIn K mainGlobals "cut_along" = some (some (.ref a10))) (l10 : K.lookup a10 = some ⟨oc10, od10, .func (PySem.W.fnOf "cut_along" "cut_along" (defArgs (topS 16)) (defBody (topS 16)) (defScope (topS 16)) .none kV10 dc10 pm10 an10 cd10 ct10), sl10⟩) (c10 : PySem.W.codeIn K cd10 "cut_along" = true) (k10 : PySem.W.keepIn K (.ref a10) = true)
    (q11 : PySem.W.nsIn K mainGlobals "_law_mixed" = some (some (.ref a11))) (l11 : K.lookup a11 = some ⟨oc11, od11, .func (PySem.W.fnOf "_law_mixed" "_law_mixed" (defArgs (topS 18)) (defBody (topS 18)) (defScope (topS 18)) .none kV11 dc11 pm11 an11 cd11 ct11), sl11⟩) (c11 : PySem.W.codeIn K cd11 "_law_mixed" = true) (k11 : PySem.W.keepIn K (.ref a11) = true)
    (q12 : PySem.W.nsIn K mainGlobals "_law_take" = some (some (.ref a12))) (l12 : K.lookup a12 = some ⟨oc12, od12, .func (PySem.W.fnOf "_law_take" "_law_take" (defArgs (topS 19)) (defBody (topS 19)) (defScope (topS 19)) .none kV12 dc12 pm12 an12 cd12 ct12), sl12⟩) (c12 : PySem.W.codeIn K cd12 "_law_take" = true) (k12 : PySem.W.keepIn K (.ref a12) = true)
    (q13 : PySem.W.nsIn K mainGlobals "_law_whole" = some (some (.ref a13))) (l13 : K.lookup a13 = some ⟨oc13, od13, .func (PySem.W.fnOf "_law_whole" "_law_whole" (defArgs (topS 20)) (defBody (topS 20)) (defScope (topS 20)) .none kV13 dc13 pm13 an13 cd13 ct13), sl13⟩) (c13 : PySem.W.codeIn K cd13 "_law_whole" = true) (k13 : PySem.W.keepIn K (.ref a13) = true)
    (q14 : PySem.W.nsIn K mainGlobals "_law_row" = some (some (.ref a14))) (l14 : K.lookup a14 = some ⟨oc14, od14, .func (PySem.W.fnOf "_law_row" "_law_row" (defArgs (topS 21)) (defBody (topS 21)) (defScope (topS 21)) .none kV14 dc14 pm14 an14 cd14 ct14), sl14⟩) (c14 : PySem.W.codeIn K cd14 "_law_row" = true) (k14 : PySem.W.keepIn K (.ref a14) = true)
    (q15 : PySem.W.nsIn K mainGlobals "_law_rows" = some (some (.ref a15))) (l15 : K.lookup a15 = some ⟨oc15, od15, .func (PySem.W.fnOf "_law_rows" "_law_rows" (defArgs (topS 22)) (defBody (topS 22)) (defScope (topS 22)) .none kV15 dc15 pm15 an15 cd15 ct15), sl15⟩) (c15 : PySem.W.codeIn K cd15 "_law_rows" = true) (k15 : PySem.W.keepIn K (.ref a15) = true)
    (q16 : PySem.W.nsIn K mainGlobals "_law_least" = some (some (.ref a16))) (l16 : K.lookup a16 = some ⟨oc16, od16, .func (PySem.W.fnOf "_law_least" "_law_least" (defArgs (topS 23)) (defBody (topS 23)) (defScope (topS 23)) .none kV16 dc16 pm16 an16 cd16 ct16), sl16⟩) (c16 : PySem.W.codeIn K cd16 "_law_least" = true) (k16 : PySem.W.keepIn K (.ref a16) = true)
    (q17 : PySem.W.nsIn K mainGlobals "_law_put" = some (some (.ref a17))) (l17 : K.lookup a17 = some ⟨oc17, od17, .func (PySem.W.fnOf "_law_put" "_law_put" (defArgs (topS 24)) (defBody (topS 24)) (defScope (topS 24)) .none kV17 dc17 pm17 an17 cd17 ct17), sl17⟩) (c17 : PySem.W.codeIn K cd17 "_law_put" = true) (k17 : PySem.W.keepIn K (.ref a17) = true)
    (q18 : PySem.W.nsIn K mainGlobals "_law_lay_ends" = some (some (.ref a18))) (l18 : K.lookup a18 = some ⟨oc18, od18, .func (PySem.W.fnOf "_law_lay_ends" "_law_lay_ends" (defArgs (topS 25)) (defBody (topS 25)) (defScope (topS 25)) .none kV18 dc18 pm18 an18 cd18 ct18), sl18⟩) (c18 : PySem.W.codeIn K cd18 "_law_lay_ends" = true) (k18 : PySem.W.keepIn K (.ref a18) = true)
    (q19 : PySem.W.nsIn K mainGlobals "_law_shuffled" = some (some (.ref a19))) (l19 : K.lookup a19 = some ⟨oc19, od19, .func (PySem.W.fnOf "_law_shuffled" "_law_shuffled" (defArgs (topS 26)) (defBody (topS 26)) (defScope (topS 26)) .none kV19 dc19 pm19 an19 cd19 ct19), sl19⟩) (c19 : PySem.W.codeIn K cd19 "_law_shuffled" = true) (k19 : PySem.W.keepIn K (.ref a19) = true)
    (q20 : PySem.W.nsIn K mainGlobals "_law_named" = some (some (.ref a20))) (l20 : K.lookup a20 = some ⟨oc20, od20, .func (PySem.W.fnOf "_law_named" "_law_named" (defArgs (topS 27)) (defBody (topS 27)) (defScope (topS 27)) .none kV20 dc20 pm20 an20 cd20 ct20), sl20⟩) (c20 : PySem.W.codeIn K cd20 "_law_named" = true) (k20 : PySem.W.keepIn K (.ref a20) = true)
    (q21 : PySem.W.nsIn K mainGlobals "_law_mate" = some (some (.ref a21))) (l21 : K.lookup a21 = some ⟨oc21, od21, .func (PySem.W.fnOf "_law_mate" "_law_mate" (defArgs (topS 28)) (defBody (topS 28)) (defScope (topS 28)) .none kV21 dc21 pm21 an21 cd21 ct21), sl21⟩) (c21 : PySem.W.codeIn K cd21 "_law_mate" = true) (k21 : PySem.W.keepIn K (.ref a21) = true)
    (q22 : PySem.W.nsIn K mainGlobals "_law_seats" = some (some (.ref a22))) (l22 : K.lookup a22 = some ⟨oc22, od22, .func (PySem.W.fnOf "_law_seats" "_law_seats" (defArgs (topS 29)) (defBody (topS 29)) (defScope (topS 29)) .none kV22 dc22 pm22 an22 cd22 ct22), sl22⟩) (c22 : PySem.W.codeIn K cd22 "_law_seats" = true) (k22 : PySem.W.keepIn K (.ref a22) = true)
    (q23 : PySem.W.nsIn K mainGlobals "_law_ringed" = some (some (.ref a23))) (l23 : K.lookup a23 = some ⟨oc23, od23, .func (PySem.W.fnOf "_law_ringed" "_law_ringed" (defArgs (topS 30)) (defBody (topS 30)) (defScope (topS 30)) .none kV23 dc23 pm23 an23 cd23 ct23), sl23⟩) (c23 : PySem.W.codeIn K cd23 "_law_ringed" = true) (k23 : PySem.W.keepIn K (.ref a23) = true)
    (q24 : PySem.W.nsIn K mainGlobals "_law_turn" = some (some (.ref a24))) (l24 : K.lookup a24 = some ⟨oc24, od24, .func (PySem.W.fnOf "_law_turn" "_law_turn" (defArgs (topS 31)) (defBody (topS 31)) (defScope (topS 31)) .none kV24 dc24 pm24 an24 cd24 ct24), sl24⟩) (c24 : PySem.W.codeIn K cd24 "_law_turn" = true) (k24 : PySem.W.keepIn K (.ref a24) = true)
    (q25 : PySem.W.nsIn K mainGlobals "_law_begun" = some (some (.ref a25))) (l25 : K.lookup a25 = some ⟨oc25, od25, .func (PySem.W.fnOf "_law_begun" "_law_begun" (defArgs (topS 32)) (defBody (topS 32)) (defScope (topS 32)) .none kV25 dc25 pm25 an25 cd25 ct25), sl25⟩) (c25 : PySem.W.codeIn K cd25 "_law_begun" = true) (k25 : PySem.W.keepIn K (.ref a25) = true)
    (q26 : PySem.W.nsIn K mainGlobals "_law_cut" = some (some (.ref a26))) (l26 : K.lookup a26 = some ⟨oc26, od26, .func (PySem.W.fnOf "_law_cut" "_law_cut" (defArgs (topS 33)) (defBody (topS 33)) (defScope (topS 33)) .none kV26 dc26 pm26 an26 cd26 ct26), sl26⟩) (c26 : PySem.W.codeIn K cd26 "_law_cut" = true) (k26 : PySem.W.keepIn K (.ref a26) = true)
    (q27 : PySem.W.nsIn K mainGlobals "_law_three" = some (some (.ref a27))) (l27 : K.lookup a27 = some ⟨oc27, od27, .func (PySem.W.fnOf "_law_three" "_law_three" (defArgs (topS 34)) (defBody (topS 34)) (defScope (topS 34)) .none kV27 dc27 pm27 an27 cd27 ct27), sl27⟩) (c27 : PySem.W.codeIn K cd27 "_law_three" = true) (k27 : PySem.W.keepIn K (.ref a27) = true)
    (q28 : PySem.W.nsIn K mainGlobals "_law_fours" = some (some (.ref a28))) (l28 : K.lookup a28 = some ⟨oc28, od28, .func (PySem.W.fnOf "_law_fours" "_law_fours" (defArgs (topS 35)) (defBody (topS 35)) (defScope (topS 35)) .none kV28 dc28 pm28 an28 cd28 ct28), sl28⟩) (c28 : PySem.W.codeIn K cd28 "_law_fours" = true) (k28 : PySem.W.keepIn K (.ref a28) = true)
    (q29 : PySem.W.nsIn K mainGlobals "_law_great" = some (some (.ref a29))) (l29 : K.lookup a29 = some ⟨oc29, od29, .func (PySem.W.fnOf "_law_great" "_law_great" (defArgs (topS 36)) (defBody (topS 36)) (defScope (topS 36)) .none kV29 dc29 pm29 an29 cd29 ct29), sl29⟩) (c29 : PySem.W.codeIn K cd29 "_law_great" = true) (k29 : PySem.W.keepIn K (.ref a29) = true)
    (q30 : PySem.W.nsIn K mainGlobals "law" = some (some (.ref a30))) (l30 : K.lookup a30 = some ⟨oc30, od30, .func (PySem.W.fnOf "law" "law" (defArgs (topS 37)) (defBody (topS 37)) (defScope (topS 37)) .none kV30 dc30 pm30 an30 cd30 ct30), sl30⟩) (c30 : PySem.W.codeIn K cd30 "law" = true) (k30 : PySem.W.keepIn K (.ref a30) = true)
    (z0 : PySem.W.nsIn K mainGlobals "all" = some none)
    (z1 : PySem.W.nsIn K mainGlobals "bool" = some none)
    (z2 : PySem.W.nsIn K mainGlobals "enumerate" = some none)
    (z3 : PySem.W.nsIn K mainGlobals "int" = some none)
    (z4 : PySem.W.nsIn K mainGlobals "isinstance" = some none)
    (z5 : PySem.W.nsIn K mainGlobals "len" = some none)
    (z6 : PySem.W.nsIn K mainGlobals "list" = some none)
    (z7 : PySem.W.nsIn K mainGlobals "max" = some none)
    (z8 : PySem.W.nsIn K mainGlobals "min" = some none)
    (z9 : PySem.W.nsIn K mainGlobals "range" = some none)
    (z10 : PySem.W.nsIn K mainGlobals "sum" = some none)
    (z11 : PySem.W.nsIn K mainGlobals "tuple" = some none) :
    ∃ fd : FuncData, (∀ (s : Shared) (v : Value), BindsTo s fd ⟨[v], []⟩ [("_law_script", v)]) ∧ ∀ base : Heap, K.In base → base.Ns mainGlobals mg → FnOk l.prog w K mg base CX0 7 fa fd ["_law_script"] (spLaw K ff_law) := by
  have e := hfa.symm.trans (PySem.W.mg_of X G q30)
  cases e
  have T : Tx K mg ⟨a0, a1, a2, a3, a4, a5, a6, a7, a8, a9, a10, a11, a12, a13, a14, a15, a16, a17, a18, a19, a20, a21, a22, a23, a24, a25, a26, a27, a28, a29, fa⟩ ⟨PySem.W.fnOf "mate_of" "mate_of" (defArgs (topS 4)) (defBody (topS 4)) (defScope (topS 4)) .none kV0 dc0 pm0 an0 cd0 ct0, PySem.W.fnOf "count_ends" "count_ends" (defArgs (topS 5)) (defBody (topS 5)) (defScope (topS 5)) .none kV1 dc1 pm1 an1 cd1 ct1, PySem.W.fnOf "homes_of" "homes_of" (defArgs (topS 6)) (defBody (topS 6)) (defScope (topS 6)) .none kV2 dc2 pm2 an2 cd2 ct2, PySem.W.fnOf "behind_of" "behind_of" (defArgs (topS 7)) (defBody (topS 7)) (defScope (topS 7)) .none kV3 dc3 pm3 an3 cd3 ct3, PySem.W.fnOf "begun_least" "begun_least" (defArgs (topS 8)) (defBody (topS 8)) (defScope (topS 8)) .none kV4 dc4 pm4 an4 cd4 ct4, PySem.W.fnOf "is_walk" "is_walk" (defArgs (topS 10)) (defBody (topS 10)) (defScope (topS 10)) .none kV5 dc5 pm5 an5 cd5 ct5, PySem.W.fnOf "is_round" "is_round" (defArgs (topS 11)) (defBody (topS 11)) (defScope (topS 11)) .none kV6 dc6 pm6 an6 cd6 ct6, PySem.W.fnOf "check_round" "check_round" (defArgs (topS 12)) (defBody (topS 12)) (defScope (topS 12)) .none kV7 dc7 pm7 an7 cd7 ct7, PySem.W.fnOf "visits_of" "visits_of" (defArgs (topS 13)) (defBody (topS 13)) (defScope (topS 13)) .none kV8 dc8 pm8 an8 cd8 ct8, PySem.W.fnOf "between" "between" (defArgs (topS 14)) (defBody (topS 14)) (defScope (topS 14)) .none kV9 dc9 pm9 an9 cd9 ct9, PySem.W.fnOf "cut_along" "cut_along" (defArgs (topS 16)) (defBody (topS 16)) (defScope (topS 16)) .none kV10 dc10 pm10 an10 cd10 ct10, PySem.W.fnOf "_law_mixed" "_law_mixed" (defArgs (topS 18)) (defBody (topS 18)) (defScope (topS 18)) .none kV11 dc11 pm11 an11 cd11 ct11, PySem.W.fnOf "_law_take" "_law_take" (defArgs (topS 19)) (defBody (topS 19)) (defScope (topS 19)) .none kV12 dc12 pm12 an12 cd12 ct12, PySem.W.fnOf "_law_whole" "_law_whole" (defArgs (topS 20)) (defBody (topS 20)) (defScope (topS 20)) .none kV13 dc13 pm13 an13 cd13 ct13, PySem.W.fnOf "_law_row" "_law_row" (defArgs (topS 21)) (defBody (topS 21)) (defScope (topS 21)) .none kV14 dc14 pm14 an14 cd14 ct14, PySem.W.fnOf "_law_rows" "_law_rows" (defArgs (topS 22)) (defBody (topS 22)) (defScope (topS 22)) .none kV15 dc15 pm15 an15 cd15 ct15, PySem.W.fnOf "_law_least" "_law_least" (defArgs (topS 23)) (defBody (topS 23)) (defScope (topS 23)) .none kV16 dc16 pm16 an16 cd16 ct16, PySem.W.fnOf "_law_put" "_law_put" (defArgs (topS 24)) (defBody (topS 24)) (defScope (topS 24)) .none kV17 dc17 pm17 an17 cd17 ct17, PySem.W.fnOf "_law_lay_ends" "_law_lay_ends" (defArgs (topS 25)) (defBody (topS 25)) (defScope (topS 25)) .none kV18 dc18 pm18 an18 cd18 ct18, PySem.W.fnOf "_law_shuffled" "_law_shuffled" (defArgs (topS 26)) (defBody (topS 26)) (defScope (topS 26)) .none kV19 dc19 pm19 an19 cd19 ct19, PySem.W.fnOf "_law_named" "_law_named" (defArgs (topS 27)) (defBody (topS 27)) (defScope (topS 27)) .none kV20 dc20 pm20 an20 cd20 ct20, PySem.W.fnOf "_law_mate" "_law_mate" (defArgs (topS 28)) (defBody (topS 28)) (defScope (topS 28)) .none kV21 dc21 pm21 an21 cd21 ct21, PySem.W.fnOf "_law_seats" "_law_seats" (defArgs (topS 29)) (defBody (topS 29)) (defScope (topS 29)) .none kV22 dc22 pm22 an22 cd22 ct22, PySem.W.fnOf "_law_ringed" "_law_ringed" (defArgs (topS 30)) (defBody (topS 30)) (defScope (topS 30)) .none kV23 dc23 pm23 an23 cd23 ct23, PySem.W.fnOf "_law_turn" "_law_turn" (defArgs (topS 31)) (defBody (topS 31)) (defScope (topS 31)) .none kV24 dc24 pm24 an24 cd24 ct24, PySem.W.fnOf "_law_begun" "_law_begun" (defArgs (topS 32)) (defBody (topS 32)) (defScope (topS 32)) .none kV25 dc25 pm25 an25 cd25 ct25, PySem.W.fnOf "_law_cut" "_law_cut" (defArgs (topS 33)) (defBody (topS 33)) (defScope (topS 33)) .none kV26 dc26 pm26 an26 cd26 ct26, PySem.W.fnOf "_law_three" "_law_three" (defArgs (topS 34)) (defBody (topS 34)) (defScope (topS 34)) .none kV27 dc27 pm27 an27 cd27 ct27, PySem.W.fnOf "_law_fours" "_law_fours" (defArgs (topS 35)) (defBody (topS 35)) (defScope (topS 35)) .none kV28 dc28 pm28 an28 cd28 ct28, PySem.W.fnOf "_law_great" "_law_great" (defArgs (topS 36)) (defBody (topS 36)) (defScope (topS 36)) .none kV29 dc29 pm29 an29 cd29 ct29, PySem.W.fnOf "law" "law" (defArgs (topS 37)) (defBody (topS 37)) (defScope (topS 37)) .none kV30 dc30 pm30 an30 cd30 ct30⟩ := { F_mate_of := fun_mk (st := topS 4) l0 c0 k0, g_mate_of := PySem.W.mg_of X G q0, b_mate_of := (fun_mk (st := topS 4) l0 c0 k0).binds (ps := ["end"]) fun _ _ _ _ _ _ us hl => match us, hl with | [_], _ => rfl, F_count_ends := fun_mk (st := topS 5) l1 c1 k1, g_count_ends := PySem.W.mg_of X G q1, b_count_ends := (fun_mk (st := topS 5) l1 c1 k1).binds (ps := ["rows"]) fun _ _ _ _ _ _ us hl => match us, hl with | [_], _ => rfl, F_homes_of := fun_mk (st := topS 6) l2 c2 k2, g_homes_of := PySem.W.mg_of X G q2, b_homes_of := (fun_mk (st := topS 6) l2 c2 k2).binds (ps := ["drawing"]) fun _ _ _ _ _ _ us hl => match us, hl with | [_], _ => rfl, F_behind_of := fun_mk (st := topS 7) l3 c3 k3, g_behind_of := PySem.W.mg_of X G q3, b_behind_of := (fun_mk (st := topS 7) l3 c3 k3).binds (ps := ["drawing"]) fun _ _ _ _ _ _ us hl => match us, hl with | [_], _ => rfl, F_begun_least := fun_mk (st := topS 8) l4 c4 k4, g_begun_least := PySem.W.mg_of X G q4, b_begun_least := (fun_mk (st := topS 8) l4 c4 k4).binds (ps := ["row"]) fun _ _ _ _ _ _ us hl => match us, hl with | [_], _ => rfl, F_is_walk := fun_mk (st := topS 10) l5 c5 k5, g_is_walk := PySem.W.mg_of X G q5, b_is_walk := (fun_mk (st := topS 10) l5 c5 k5).binds (ps := ["drawing", "ends"]) fun _ _ _ _ _ _ us hl => match us, hl with | [_, _], _ => rfl, F_is_round := fun_mk (st := topS 11) l6 c6 k6, g_is_round := PySem.W.mg_of X G q6, b_is_round := (fun_mk (st := topS 11) l6 c6 k6).binds (ps := ["drawing", "ends"]) fun _ _ _ _ _ _ us hl => match us, hl with | [_, _], _ => rfl, F_check_round := fun_mk (st := topS 12) l7 c7 k7, g_check_round := PySem.W.mg_of X G q7, b_check_round := (fun_mk (st := topS 12) l7 c7 k7).binds (ps := ["drawing", "ends"]) fun _ _ _ _ _ _ us hl => match us, hl with | [_, _], _ => rfl, F_visits_of := fun_mk (st := topS 13) l8 c8 k8, g_visits_of := PySem.W.mg_of X G q8, b_visits_of := (fun_mk (st := topS 13) l8 c8 k8).binds (ps := ["walk"]) fun _ _ _ _ _ _ us hl => match us, hl with | [_], _ => rfl, F_between := fun_mk (st := topS 14) l9 c9 k9, g_between := PySem.W.mg_of X G q9, b_between := (fun_mk (st := topS 14) l9 c9 k9).binds (ps := ["behind", "one", "other"]) fun _ _ _ _ _ _ us hl => match us, hl with | [_, _, _], _ => rfl, F_cut_along := fun_mk (st := topS 16) l10 c10 k10, g_cut_along := PySem.W.mg_of X G q10, b_cut_along := (fun_mk (st := topS 16) l10 c10 k10).binds (ps := ["drawing", "turn"]) fun _ _ _ _ _ _ us hl => match us, hl with | [_, _], _ => rfl, F__law_mixed := fun_mk (st := topS 18) l11 c11 k11, g__law_mixed := PySem.W.mg_of X G q11, b__law_mixed := (fun_mk (st := topS 18) l11 c11 k11).binds (ps := ["_law_cell", "_law_k", "_law_many"]) fun _ _ _ _ _ _ us hl => match us, hl with | [_, _, _], _ => rfl, F__law_take := fun_mk (st := topS 19) l12 c12 k12, g__law_take := PySem.W.mg_of X G q12, b__law_take := (fun_mk (st := topS 19) l12 c12 k12).binds (ps := ["_law_box", "_law_many"]) fun _ _ _ _ _ _ us hl => match us, hl with | [_, _], _ => rfl, F__law_whole := fun_mk (st := topS 20) l13 c13 k13, g__law_whole := PySem.W.mg_of X G q13, b__law_whole := (fun_mk (st := topS 20) l13 c13 k13).binds (ps := ["_law_found"]) fun _ _ _ _ _ _ us hl => match us, hl with | [_], _ => rfl, F__law_row := fun_mk (st := topS 21) l14 c14 k14, g__law_row := PySem.W.mg_of X G q14, b__law_row := (fun_mk (st := topS 21) l14 c14 k14).binds (ps := ["_law_found", "_law_due"]) fun _ _ _ _ _ _ us hl => match us, hl with | [_, _], _ => rfl, F__law_rows := fun_mk (st := topS 22) l15 c15 k15, g__law_rows := PySem.W.mg_of X G q15, b__law_rows := (fun_mk (st := topS 22) l15 c15 k15).binds (ps := ["_law_found", "_law_due"]) fun _ _ _ _ _ _ us hl => match us, hl with | [_, _], _ => rfl, F__law_least := fun_mk (st := topS 23) l16 c16 k16, g__law_least := PySem.W.mg_of X G q16, b__law_least := (fun_mk (st := topS 23) l16 c16 k16).binds (ps := ["_law_row_here"]) fun _ _ _ _ _ _ us hl => match us, hl with | [_], _ => rfl, F__law_put := fun_mk (st := topS 24) l17 c17 k17, g__law_put := PySem.W.mg_of X G q17, b__law_put := (fun_mk (st := topS 24) l17 c17 k17).binds (ps := ["_law_rows_here", "_law_at", "_law_end"]) fun _ _ _ _ _ _ us hl => match us, hl with | [_, _, _], _ => rfl, F__law_lay_ends := fun_mk (st := topS 25) l18 c18 k18, g__law_lay_ends := PySem.W.mg_of X G q18, b__law_lay_ends := (fun_mk (st := topS 25) l18 c18 k18).binds (ps := ["_law_box", "_law_rows_here", "_law_first", "_law_behind_last"]) fun _ _ _ _ _ _ us hl => match us, hl with | [_, _, _, _], _ => rfl, F__law_shuffled := fun_mk (st := topS 26) l19 c19 k19, g__law_shuffled := PySem.W.mg_of X G q19, b__law_shuffled := (fun_mk (st := topS 26) l19 c19 k19).binds (ps := ["_law_box", "_law_many"]) fun _ _ _ _ _ _ us hl => match us, hl with | [_, _], _ => rfl, F__law_named := fun_mk (st := topS 27) l20 c20 k20, g__law_named := PySem.W.mg_of X G q20, b__law_named := (fun_mk (st := topS 27) l20 c20 k20).binds (ps := ["_law_box", "_law_rows_here"]) fun _ _ _ _ _ _ us hl => match us, hl with | [_, _], _ => rfl, F__law_mate := fun_mk (st := topS 28) l21 c21 k21, g__law_mate := PySem.W.mg_of X G q21, b__law_mate := (fun_mk (st := topS 28) l21 c21 k21).binds (ps := ["_law_end"]) fun _ _ _ _ _ _ us hl => match us, hl with | [_], _ => rfl, F__law_seats := fun_mk (st := topS 29) l22 c22 k22, g__law_seats := PySem.W.mg_of X G q22, b__law_seats := (fun_mk (st := topS 29) l22 c22 k22).binds (ps := ["_law_rows_here"]) fun _ _ _ _ _ _ us hl => match us, hl with | [_], _ => rfl, F__law_ringed := fun_mk (st := topS 30) l23 c23 k23, g__law_ringed := PySem.W.mg_of X G q23, b__law_ringed := (fun_mk (st := topS 30) l23 c23 k23).binds (ps := ["_law_box", "_law_k", "_law_places", "_law_ties"]) fun _ _ _ _ _ _ us hl => match us, hl with | [_, _, _, _], _ => rfl, F__law_turn := fun_mk (st := topS 31) l24 c24 k24, g__law_turn := PySem.W.mg_of X G q24, b__law_turn := (fun_mk (st := topS 31) l24 c24 k24).binds (ps := ["_law_box", "_law_names", "_law_k"]) fun _ _ _ _ _ _ us hl => match us, hl with | [_, _, _], _ => rfl, F__law_begun := fun_mk (st := topS 32) l25 c25 k25, g__law_begun := PySem.W.mg_of X G q25, b__law_begun := (fun_mk (st := topS 32) l25 c25 k25).binds (ps := ["_law_row_here", "_law_end"]) fun _ _ _ _ _ _ us hl => match us, hl with | [_, _], _ => rfl, F__law_cut := fun_mk (st := topS 33) l26 c26 k26, g__law_cut := PySem.W.mg_of X G q26, b__law_cut := (fun_mk (st := topS 33) l26 c26 k26).binds (ps := ["_law_rows_here", "_law_turn_here"]) fun _ _ _ _ _ _ us hl => match us, hl with | [_, _], _ => rfl, F__law_three := fun_mk (st := topS 34) l27 c27 k27, g__law_three := PySem.W.mg_of X G q27, b__law_three := (fun_mk (st := topS 34) l27 c27 k27).binds (ps := ["_law_told", "_law_due"]) fun _ _ _ _ _ _ us hl => match us, hl with | [_, _], _ => rfl, F__law_fours := fun_mk (st := topS 35) l28 c28 k28, g__law_fours := PySem.W.mg_of X G q28, b__law_fours := (fun_mk (st := topS 35) l28 c28 k28).binds (ps := ["_law_r", "_law_c", "_law_s"]) fun _ _ _ _ _ _ us hl => match us, hl with | [_, _, _], _ => rfl, F__law_great := fun_mk (st := topS 36) l29 c29 k29, g__law_great := PySem.W.mg_of X G q29, b__law_great := (fun_mk (st := topS 36) l29 c29 k29).binds (ps := ["_law_box"]) fun _ _ _ _ _ _ us hl => match us, hl with | [_], _ => rfl, F_law := fun_mk (st := topS 37) l30 c30 k30, g_law := PySem.W.mg_of X G q30, b_law := (fun_mk (st := topS 37) l30 c30 k30).binds (ps := ["_law_script"]) fun _ _ _ _ _ _ us hl => match us, hl with | [_], _ => rfl, m_all := PySem.W.mg_none_of X G z0, m_bool := PySem.W.mg_none_of X G z1, m_enumerate := PySem.W.mg_none_of X G z2, m_int := PySem.W.mg_none_of X G z3, m_isinstance := PySem.W.mg_none_of X G z4, m_len := PySem.W.mg_none_of X G z5, m_list := PySem.W.mg_none_of X G z6, m_max := PySem.W.mg_none_of X G z7, m_min := PySem.W.mg_none_of X G z8, m_range := PySem.W.mg_none_of X G z9, m_sum := PySem.W.mg_none_of X G z10, m_tuple := PySem.W.mg_none_of X G z11 }
  exact ⟨_, fun s v => .of_eq rfl, fun base _ _ => law_end (ok_law T)⟩
end Lw
open PySem PySem.W PyProof.Rows
set_option maxHeartbeats 0 in
theorem PySem.Challenge.cw_ringfloor_k42_cut_along_a_round_holds : PySem.Challenge.rw_ringfloor_k42_cut_along_a_round.Holds := by
  w_on; o_law; k_head; (case hw => w_witness2)
  k_fill
  refine L2.walk_ofB (l := PySem.Challenge.rw_ringfloor_k42_cut_along_a_round) (n := 63) (k := 7) (x := "_law_script") (CX := fun _ => L2.CX0) (sp := fun w => Ow.spLaw _ Lw.ff_law) rfl (by decide) rfl ⟨rfl, by decide, by decide⟩ (fun w h Y => PySem.W.kIn_of Y) ?F (fun w H a ns hl hb ho hS => ⟨a, ns, rfl, ho, hS, Lw.law_true ns hl hb, fun _ => rfl⟩) (fun _ _ _ _ _ h => h)
  case F =>
    intro w mg fa h KX G hmg
    refine' Lw.all_mk KX G hmg ?q0 ?l0 ?c0 ?k0 ?q1 ?l1 ?c1 ?k1 ?q2 ?l2 ?c2 ?k2 ?q3 ?l3 ?c3 ?k3 ?q4 ?l4 ?c4 ?k4 ?q5 ?l5 ?c5 ?k5 ?q6 ?l6 ?c6 ?k6 ?q7 ?l7 ?c7 ?k7 ?q8 ?l8 ?c8 ?k8 ?q9 ?l9 ?c9 ?k9 ?q10 ?l10 ?c10 ?k10 ?q11 ?l11 ?c11 ?k11 ?q12 ?l12 ?c12 ?k12 ?q13 ?l13 ?c13 ?k13 ?q14 ?l14 ?c14 ?k14 ?q15 ?l15 ?c15 ?k15 ?q16 ?l16 ?c16 ?k16 ?q17 ?l17 ?c17 ?k17 ?q18 ?l18 ?c18 ?k18 ?q19 ?l19 ?c19 ?k19 ?q20 ?l20 ?c20 ?k20 ?q21 ?l21 ?c21 ?k21 ?q22 ?l22 ?c22 ?k22 ?q23 ?l23 ?c23 ?k23 ?q24 ?l24 ?c24 ?k24 ?q25 ?l25 ?c25 ?k25 ?q26 ?l26 ?c26 ?k26 ?q27 ?l27 ?c27 ?k27 ?q28 ?l28 ?c28 ?k28 ?q29 ?l29 ?c29 ?k29 ?q30 ?l30 ?c30 ?k30 ?z0 ?z1 ?z2 ?z3 ?z4 ?z5 ?z6 ?z7 ?z8 ?z9 ?z10 ?z11
    (case q0 => k_is); (case l0 => k_is); (case c0 => k_is); (case k0 => k_is)
    (case q1 => k_is); (case l1 => k_is); (case c1 => k_is); (case k1 => k_is)
    (case q2 => k_is); (case l2 => k_is); (case c2 => k_is); (case k2 => k_is)
    (case q3 => k_is); (case l3 => k_is); (case c3 => k_is); (case k3 => k_is)
    (case q4 => k_is); (case l4 => k_is); (case c4 => k_is); (case k4 => k_is)
    (case q5 => k_is); (case l5 => k_is); (case c5 => k_is); (case k5 => k_is)
    (case q6 => k_is); (case l6 => k_is); (case c6 => k_is); (case k6 => k_is)
    (case q7 => k_is); (case l7 => k_is); (case c7 => k_is); (case k7 => k_is)
    (case q8 => k_is); (case l8 => k_is); (case c8 => k_is); (case k8 => k_is)
    (case q9 => k_is); (case l9 => k_is); (case c9 => k_is); (case k9 => k_is)
    (case q10 => k_is); (case l10 => k_is); (case c10 => k_is); (case k10 => k_is)
    (case q11 => k_is); (case l11 => k_is); (case c11 => k_is); (case k11 => k_is)
    (case q12 => k_is); (case l12 => k_is); (case c12 => k_is); (case k12 => k_is)
    (case q13 => k_is); (case l13 => k_is); (case c13 => k_is); (case k13 => k_is)
    (case q14 => k_is); (case l14 => k_is); (case c14 => k_is); (case k14 => k_is)
    (case q15 => k_is); (case l15 => k_is); (case c15 => k_is); (case k15 => k_is)
    (case q16 => k_is); (case l16 => k_is); (case c16 => k_is); (case k16 => k_is)
    (case q17 => k_is); (case l17 => k_is); (case c17 => k_is); (case k17 => k_is)
    (case q18 => k_is); (case l18 => k_is); (case c18 => k_is); (case k18 => k_is)
    (case q19 => k_is); (case l19 => k_is); (case c19 => k_is); (case k19 => k_is)
    (case q20 => k_is); (case l20 => k_is); (case c20 => k_is); (case k20 => k_is)
    (case q21 => k_is); (case l21 => k_is); (case c21 => k_is); (case k21 => k_is)
    (case q22 => k_is); (case l22 => k_is); (case c22 => k_is); (case k22 => k_is)
    (case q23 => k_is); (case l23 => k_is); (case c23 => k_is); (case k23 => k_is)
    (case q24 => k_is); (case l24 => k_is); (case c24 => k_is); (case k24 => k_is)
    (case q25 => k_is); (case l25 => k_is); (case c25 => k_is); (case k25 => k_is)
    (case q26 => k_is); (case l26 => k_is); (case c26 => k_is); (case k26 => k_is)
    (case q27 => k_is); (case l27 => k_is); (case c27 => k_is); (case k27 => k_is)
    (case q28 => k_is); (case l28 => k_is); (case c28 => k_is); (case k28 => k_is)
    (case q29 => k_is); (case l29 => k_is); (case c29 => k_is); (case k29 => k_is)
    (case q30 => k_is); (case l30 => k_is); (case c30 => k_is); (case k30 => k_is)
    (case z0 => k_is)
    (case z1 => k_is)
    (case z2 => k_is)
    (case z3 => k_is)
    (case z4 => k_is)
    (case z5 => k_is)
    (case z6 => k_is)
    (case z7 => k_is)
    (case z8 => k_is)
    (case z9 => k_is)
    (case z10 => k_is)
    (case z11 => k_is)

