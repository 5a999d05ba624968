import PyProof.Rows.All
import Wide.All
import OpenK.AllK
import Wide.FinOn
import HandS.ForMost
import HandS.Evl
import HandS.Wide
import HandS.WideBits
import HandS.IsInst
import HandS.Conv
import HandS.Deep
import HandS.More
import HandS.Style
import HandS.SortInts
import HandS.SortRule
import HandS.TupSets
import HandS.DictTup
import HandS.ExcIs
import HandS.Flow
import HandS.Exc
import HandS.TryOnly
import HandS.ExcOwn
import HandS.WordsExc
import HandS.DictComp
import HandS.WordsDict
import PyProof.SetRoads
import PyProof.Rows.SetFrom
import PyProof.Rows.SortShellAny
import HandS.SetFor
import HandS.TryMany
import HandS.FStr
import HandS.RaiseMore
import HandS.SortOrd
import KE.SortData
import KE.BitLaws
import KE.GoesEnum
import KE.KIndexOf
import HandS.Zip
import PySem.Challenge.RW_ringfloor_k38_numbers_read_back
import HandS.EndBits
set_option Elab.async false
set_option linter.all false
set_option maxRecDepth 100000
namespace Ow
open PySem L2


inductive Fl where
  | o | s | w
  deriving DecidableEq
inductive Kd where
  | lst (o : Fl) | tup | ktp | dic (o : Fl) (ks : List Key) | dct (o : Fl) (ks : List (List Key))
@[simp] def Kd.own : Kd → Bool
  | .lst o => decide (o = .o)
  | .tup => false
  | .ktp => false
  | .dic o _ => decide (o = .o)
  | .dct o _ => decide (o = .o)
@[simp] def Fl.frz : Fl → Fl
  | .w => .w
  | _ => .s
@[simp] def Kd.frz : Kd → Kd
  | .lst o => .lst o.frz
  | .tup => .tup
  | .ktp => .ktp
  | .dic o ks => .dic o.frz ks
  | .dct o ks => .dct o.frz ks
@[simp] def Kd.wri : Kd → Kd
  | .lst _ => .lst .w
  | .tup => .tup
  | .ktp => .ktp
  | .dic _ ks => .dic .w ks
  | .dct _ ks => .dct .w ks
def Kd.ho : Kd → List V → HO
  | .lst _, vs => .lst vs
  | .tup, vs => .tup vs
  | .ktp, vs => .tup vs
  | .dic _ ks, vs => .dK (ks.zip vs)
  | .dct _ ks, vs => .dT (ks.zip vs)
inductive T where
  | s (v : V)
  | n (k : Kd) (a : Addr) (ts : List T)
  | w (z : Bool) (k : Kd) (a : Addr) (ts : List T)
inductive D where
  | s (v : V)
  | n (k : Kd) (ds : List D)
abbrev Env := List (Option D)
abbrev TEnv := List (Option T)
def T.val : T → V
  | .s v => v
  | .n _ a _ => .ref a
  | .w _ _ a _ => .ref a
abbrev vals (ts : List T) : List V := ts.map T.val
@[simp] def scl : V → Bool
  | .non => true
  | .bl _ => true
  | .int _ => true
  | .str _ => true
  | _ => false
def hid (v : V) : V := if scl v = true then v else .byt #[]
theorem hid_scl {v : V} (h : scl v = true) : hid v = v := if_pos h
mutual
def T.er : T → D
  | .s v => .s (hid v)
  | .n k _ ts => .n k (erL ts)
  | .w _ k _ ts => .n k.wri (erL ts)
def erL : List T → List D
  | [] => []
  | t :: ts => t.er :: erL ts
end
mutual
def T.co (a : Addr) : T → Nat
  | .s _ => 0
  | .n k b ts => (if k.own = true ∧ b = a then 1 else 0) + coL a ts
  | .w _ _ _ ts => coL a ts
def coL (a : Addr) : List T → Nat
  | [] => 0
  | t :: ts => t.co a + coL a ts
end
mutual
def T.cu (a : Addr) : T → Nat
  | .s _ => 0
  | .n k b ts => (if k.own = false ∧ b = a then 1 else 0) + cuL a ts
  | .w z _ b ts => (if z = false ∧ b = a then 1 else 0) + cuL a ts
def cuL (a : Addr) : List T → Nat
  | [] => 0
  | t :: ts => t.cu a + cuL a ts
end
@[simp] def Kd.isw : Kd → Bool
  | .lst o => decide (o = .w)
  | .tup => false
  | .ktp => true
  | .dic o _ => decide (o = .w)
  | .dct o _ => decide (o = .w)
def NodeOk (H : Hp) (k : Kd) (a : Addr) (vs : List V) : Prop := H a = some (k.ho vs) ∧ k.isw = false
def WrOk (K : PySem.W.Frag) (H : Hp) (z : Bool) (k : Kd) (a : Addr) (vs : List V) : Prop := match z, k with
  | true, .lst _ => SqL K (fun _ => none) a vs
  | true, .ktp => SqT K (fun _ => none) a vs ∧ ∃ o, K.lookup a = some o ∧ o.cls = .type "tuple" ∧ o.dict = none
  | true, _ => False
  | false, k => k ≠ .ktp ∧ ∃ o, H a = some (.frz o (k.ho vs))
mutual
def T.sat (K : PySem.W.Frag) (H : Hp) : T → Prop
  | .s _ => True
  | .n k a ts => NodeOk H k a (vals ts) ∧ satL K H ts
  | .w z k a ts => WrOk K H z k a (vals ts) ∧ satL K H ts
def satL (K : PySem.W.Frag) (H : Hp) : List T → Prop
  | [] => True
  | t :: ts => t.sat K H ∧ satL K H ts
end
section
variable {K : PySem.W.Frag} {H H' H0 H1 : Hp} {a : Addr} {t : T} {ts F : List T} {σ σ' : L2.St} {env env' : TEnv}

theorem erL_map : ∀ ts : List T, erL ts = ts.map T.er
  | [] => rfl
  | t :: ts => by rw [erL, erL_map ts, List.map_cons]
theorem erL_length (ts : List T) : (erL ts).length = ts.length := by rw [erL_map, List.length_map]
theorem satL_iff : ∀ {ts : List T}, satL K H ts ↔ ∀ t ∈ ts, t.sat K H
  | [] => by simp [satL]
  | t :: ts => by
    rw [satL, satL_iff (ts := ts)]
    simp
theorem coL_mem : ∀ {ts : List T} {t : T}, t ∈ ts → t.co a ≤ coL a ts
  | x :: ts, t, h => by
    rw [coL]
    rcases List.mem_cons.mp h with h | h
    · subst h; omega
    · have := coL_mem h; omega
theorem cuL_mem : ∀ {ts : List T} {t : T}, t ∈ ts → t.cu a ≤ cuL a ts
  | x :: ts, t, h => by
    rw [cuL]
    rcases List.mem_cons.mp h with h | h
    · subst h; omega
    · have := cuL_mem h; omega
theorem coL_append : ∀ {ts us : List T}, coL a (ts ++ us) = coL a ts + coL a us
  | [], us => by simp [coL]
  | t :: ts, us => by rw [List.cons_append, coL, coL, coL_append (ts := ts)]; omega
theorem cuL_append : ∀ {ts us : List T}, cuL a (ts ++ us) = cuL a ts + cuL a us
  | [], us => by simp [cuL]
  | t :: ts, us => by rw [List.cons_append, cuL, cuL, cuL_append (ts := ts)]; omega
theorem satL_append {us : List T} : satL K H (ts ++ us) ↔ satL K H ts ∧ satL K H us := by
  rw [satL_iff, satL_iff, satL_iff]
  constructor
  · intro h
    exact ⟨fun t ht => h t (List.mem_append.mpr (.inl ht)), fun t ht => h t (List.mem_append.mpr (.inr ht))⟩
  · rintro ⟨h1, h2⟩ t ht
    rcases List.mem_append.mp ht with h | h
    · exact h1 t h
    · exact h2 t h
def Keeps (H H' : Hp) (c u : Addr → Nat) : Prop := ∀ a o, 0 < c a + u a → H a = some o → H' a = some o
mutual
theorem sat_keep : ∀ (t : T), (∀ a o, 0 < t.co a + t.cu a → H a = some o → H' a = some o) → t.sat K H → t.sat K H'
  | .s _, _, _ => trivial
  | .n k a ts, hk, h => by
    obtain ⟨h1, h3⟩ := h
    have ha : ∀ o, H a = some o → H' a = some o := fun o => hk a o (by
      rw [T.co, T.cu]
      cases k.own <;> simp <;> omega)
    refine ⟨⟨ha _ h1.1, h1.2⟩, satL_keep ts (fun b o hb => hk b o ?_) h3⟩
    rw [T.co, T.cu]; omega
  | .w z k a ts, hk, h => by
    obtain ⟨h1, h3⟩ := h
    refine ⟨?_, satL_keep ts (fun b o hb => hk b o (by rw [T.co, T.cu]; omega)) h3⟩
    cases z with
    | true => cases k <;> exact h1
    | false =>
      obtain ⟨nk, o, h1⟩ := h1
      exact ⟨nk, o, hk a _ (by rw [T.co, T.cu]; simp; omega) h1⟩
theorem satL_keep : ∀ (ts : List T), (∀ a o, 0 < coL a ts + cuL a ts → H a = some o → H' a = some o) → satL K H ts → satL K H' ts
  | [], _, _ => trivial
  | t :: ts, hk, h => ⟨sat_keep t (fun a o q => hk a o (by rw [coL, cuL]; omega)) h.1, satL_keep ts (fun a o q => hk a o (by rw [coL, cuL]; omega)) h.2⟩
end

mutual
theorem co_some : ∀ (t : T), t.sat K H → 0 < t.co a → H a ≠ none
  | .s _, _, h => by rw [T.co] at h; omega
  | .n k b ts, h, hc => by
    obtain ⟨h1, h3⟩ := h
    rw [T.co] at hc
    by_cases q : k.own = true ∧ b = a
    · obtain ⟨q1, q2⟩ := q
      subst q2
      have h1 : H b = some _ := h1.1
      rw [h1]
      exact fun z => by cases z
    · rw [if_neg q] at hc
      exact coL_some ts h3 (by omega)
  | .w z k b ts, h, hc => by
    rw [T.co] at hc
    exact coL_some ts h.2 hc
theorem coL_some : ∀ (ts : List T), satL K H ts → 0 < coL a ts → H a ≠ none
  | [], _, h => by rw [coL] at h; omega
  | t :: ts, h, hc => by
    rw [coL] at hc
    by_cases q : 0 < t.co a
    · exact co_some t h.1 q
    · exact coL_some ts h.2 (by omega)
end
mutual
theorem cu_some : ∀ (t : T), t.sat K H → 0 < t.cu a → H a ≠ none
  | .s _, _, h => by rw [T.cu] at h; omega
  | .n k b ts, h, hc => by
    obtain ⟨h1, h3⟩ := h
    rw [T.cu] at hc
    by_cases q : k.own = false ∧ b = a
    · obtain ⟨q1, q2⟩ := q
      subst q2
      have h1 : H b = some _ := h1.1
      rw [h1]
      exact fun z => by cases z
    · rw [if_neg q] at hc
      exact cuL_some ts h3 (by omega)
  | .w z k b ts, h, hc => by
    obtain ⟨h1, h3⟩ := h
    rw [T.cu] at hc
    by_cases q : z = false ∧ b = a
    · obtain ⟨q1, q2⟩ := q
      subst q1 q2
      obtain ⟨nk, o, h1⟩ := h1
      rw [h1]
      exact fun z => by cases z
    · rw [if_neg q] at hc
      exact cuL_some ts h3 (by omega)
theorem cuL_some : ∀ (ts : List T), satL K H ts → 0 < cuL a ts → H a ≠ none
  | [], _, h => by rw [cuL] at h; omega
  | t :: ts, h, hc => by
    rw [cuL] at hc
    by_cases q : 0 < t.cu a
    · exact cu_some t h.1 q
    · exact cuL_some ts h.2 (by omega)
end


def oT (f : T → Nat) : Option T → Nat
  | none => 0
  | some t => f t
def coE (a : Addr) : TEnv → Nat
  | [] => 0
  | o :: r => oT (T.co a) o + coE a r
def cuE (a : Addr) : TEnv → Nat
  | [] => 0
  | o :: r => oT (T.cu a) o + cuE a r
def SatE (K : PySem.W.Frag) (H : Hp) (env : TEnv) : Prop := ∀ t, some t ∈ env → t.sat K H
def Rel (σ : L2.St) (env : TEnv) : Prop := env.length = σ.length ∧ ∀ (i : Nat) (t : T), env[i]? = some (some t) → σ[i]? = some (some t.val)
def erE (env : TEnv) : Env := env.map (Option.map T.er)
def Wf (c u : Addr → Nat) : Prop := ∀ a, c a ≤ 1 ∧ (c a = 0 ∨ u a = 0)
abbrev Ex := Evl.Ex
theorem coE_set : ∀ {env : TEnv} {i : Nat} {x : Option T} (o : Option T), env[i]? = some x → coE a (env.set i o) + oT (T.co a) x = coE a env + oT (T.co a) o
  | [], i, x, o, h => by simp at h
  | y :: r, 0, x, o, h => by
    have e : y = x := Option.some.inj h
    subst e
    rw [List.set_cons_zero, coE, coE]; omega
  | y :: r, i + 1, x, o, h => by
    have e := coE_set (env := r) (i := i) (x := x) o h
    rw [List.set_cons_succ, coE, coE]; omega
theorem cuE_set : ∀ {env : TEnv} {i : Nat} {x : Option T} (o : Option T), env[i]? = some x → cuE a (env.set i o) + oT (T.cu a) x = cuE a env + oT (T.cu a) o
  | [], i, x, o, h => by simp at h
  | y :: r, 0, x, o, h => by
    have e : y = x := Option.some.inj h
    subst e
    rw [List.set_cons_zero, cuE, cuE]; omega
  | y :: r, i + 1, x, o, h => by
    have e := cuE_set (env := r) (i := i) (x := x) o h
    rw [List.set_cons_succ, cuE, cuE]; omega
theorem coE_get {i : Nat} (h : env[i]? = some (some t)) : t.co a ≤ coE a env := by
  have := coE_set (a := a) none h
  simp only [oT] at this; omega
theorem cuE_get {i : Nat} (h : env[i]? = some (some t)) : t.cu a ≤ cuE a env := by
  have := cuE_set (a := a) none h
  simp only [oT] at this; omega
theorem SatE.get {i : Nat} (h : SatE K H env) (g : env[i]? = some (some t)) : t.sat K H := h t (List.mem_of_getElem? g)
theorem SatE.set {i : Nat} {o : Option T} (h : SatE K H env) (g : ∀ t, o = some t → t.sat K H) : SatE K H (env.set i o) := fun t ht => by
  rcases List.mem_or_eq_of_mem_set ht with q | q
  · exact h t q
  · exact g t q.symm
theorem coE_some : ∀ {env : TEnv}, SatE K H env → 0 < coE a env → H a ≠ none
  | [], _, h => by rw [coE] at h; omega
  | none :: r, h, hc => by
    rw [coE, oT] at hc
    exact coE_some (env := r) (fun t ht => h t (List.mem_cons_of_mem _ ht)) (by omega)
  | some t :: r, h, hc => by
    rw [coE, oT] at hc
    by_cases q : 0 < t.co a
    · exact co_some t (h t (List.mem_cons_self ..)) q
    · exact coE_some (env := r) (fun t ht => h t (List.mem_cons_of_mem _ ht)) (by omega)
theorem cuE_some : ∀ {env : TEnv}, SatE K H env → 0 < cuE a env → H a ≠ none
  | [], _, h => by rw [cuE] at h; omega
  | none :: r, h, hc => by
    rw [cuE, oT] at hc
    exact cuE_some (env := r) (fun t ht => h t (List.mem_cons_of_mem _ ht)) (by omega)
  | some t :: r, h, hc => by
    rw [cuE, oT] at hc
    by_cases q : 0 < t.cu a
    · exact cu_some t (h t (List.mem_cons_self ..)) q
    · exact cuE_some (env := r) (fun t ht => h t (List.mem_cons_of_mem _ ht)) (by omega)
theorem satE_keep : ∀ {env : TEnv}, (∀ a o, 0 < coE a env + cuE a env → H a = some o → H' a = some o) → SatE K H env → SatE K H' env
  | [], _, _ => fun t ht => by cases ht
  | none :: r, hk, h => fun t ht => by
    rcases List.mem_cons.mp ht with q | q
    · cases q
    · exact satE_keep (env := r) (fun a o hc => hk a o (by rw [coE, cuE, oT, oT]; omega)) (fun t ht => h t (List.mem_cons_of_mem _ ht)) t q
  | some x :: r, hk, h => fun t ht => by
    rcases List.mem_cons.mp ht with q | q
    · cases q
      exact sat_keep x (fun a o hc => hk a o (by rw [coE, cuE, oT, oT]; omega)) (h x (List.mem_cons_self ..))
    · exact satE_keep (env := r) (fun a o hc => hk a o (by rw [coE, cuE, oT, oT]; omega)) (fun t ht => h t (List.mem_cons_of_mem _ ht)) t q
theorem sat_ex (e : Ex H H') (h : t.sat K H) : t.sat K H' := sat_keep t (fun a o _ q => e a o q) h
theorem satL_ex (e : Ex H H') (h : satL K H ts) : satL K H' ts := satL_keep ts (fun a o _ q => e a o q) h
theorem SatE.ex (e : Ex H H') (h : SatE K H env) : SatE K H' env := fun t ht => sat_ex e (h t ht)
theorem erE_get {i : Nat} {d : D} (h : (erE env)[i]? = some (some d)) : ∃ t, env[i]? = some (some t) ∧ t.er = d := by
  rw [erE, List.getElem?_map] at h
  cases e : env[i]? with
  | none => rw [e] at h; cases h
  | some o =>
    rw [e] at h
    cases o with
    | none => cases h
    | some t => exact ⟨t, rfl, Option.some.inj (Option.some.inj h)⟩
theorem erE_set {i : Nat} {o : Option T} : erE (env.set i o) = (erE env).set i (o.map T.er) := by
  rw [erE, erE, List.map_set]
theorem Rel.set {i : Nat} {t : T} (r : Rel σ env) : Rel (σ.set i (some t.val)) (env.set i (some t)) := by
  refine ⟨by rw [List.length_set, List.length_set, r.1], fun j u h => ?_⟩
  by_cases e : i = j
  · subst e
    rw [List.getElem?_set] at h
    rw [List.getElem?_set]
    by_cases l : i < env.length
    · rw [if_pos rfl, if_pos l] at h
      rw [if_pos rfl, if_pos (by rw [← r.1]; exact l)]
      cases h
      rfl
    · rw [if_pos rfl, if_neg l] at h
      cases h
  · rw [List.getElem?_set, if_neg e] at h
    rw [List.getElem?_set, if_neg e]
    exact r.2 j u h
theorem Rel.drop {i : Nat} (r : Rel σ env) : Rel σ (env.set i none) := by
  refine ⟨by rw [List.length_set, r.1], fun j u h => ?_⟩
  by_cases e : i = j
  · subst e
    rw [List.getElem?_set] at h
    by_cases l : i < env.length
    · rw [if_pos rfl, if_pos l] at h
      cases h
    · rw [if_pos rfl, if_neg l] at h
      cases h
  · rw [List.getElem?_set, if_neg e] at h
    exact r.2 j u h
theorem Rel.swap {i : Nat} {t u : T} (r : Rel σ env) (h : env[i]? = some (some t)) (e : u.val = t.val) : Rel σ (env.set i (some u)) := by
  refine ⟨by rw [List.length_set, r.1], fun j x g => ?_⟩
  by_cases q : i = j
  · subst q
    rw [List.getElem?_set, if_pos rfl] at g
    by_cases l : i < env.length
    · rw [if_pos l] at g
      cases g
      rw [e]
      exact r.2 i t h
    · rw [if_neg l] at g
      cases g
  · rw [List.getElem?_set, if_neg q] at g
    exact r.2 j x g


def Stp (H : Hp) (c u : Addr → Nat) (H' : Hp) (c' u' : Addr → Nat) : Prop :=
  (∀ a o, H a = some o → c a = 0 → H' a = some o) ∧ (∀ a, H' a = none → H a = none) ∧ ∀ a, (0 < c' a → 0 < c a ∨ H a = none) ∧ (0 < u' a → 0 < c a ∨ 0 < u a ∨ H a = none)
theorem Stp.refl {c u : Addr → Nat} : Stp H c u H c u := ⟨fun _ _ h _ => h, fun _ h => h, fun a => ⟨fun h => .inl h, fun h => .inr (.inl h)⟩⟩
theorem Stp.trans {c u c1 u1 c2 u2 : Addr → Nat} (x : Stp H c u H1 c1 u1) (y : Stp H1 c1 u1 H' c2 u2) : Stp H c u H' c2 u2 := by
  refine ⟨fun a o h hc => ?_, fun a h => x.2.1 a (y.2.1 a h), fun a => ⟨fun h => ?_, fun h => ?_⟩⟩
  · have h1 := x.1 a o h hc
    by_cases q : c1 a = 0
    · exact y.1 a o h1 q
    · rcases (x.2.2 a).1 (by omega) with z | z
      · omega
      · rw [h] at z; cases z
  · rcases (y.2.2 a).1 h with z | z
    · exact (x.2.2 a).1 z
    · exact .inr (x.2.1 a z)
  · rcases (y.2.2 a).2 h with z | z | z
    · rcases (x.2.2 a).1 z with z | z
      · exact .inl z
      · exact .inr (.inr z)
    · exact (x.2.2 a).2 z
    · exact .inr (.inr (x.2.1 a z))
end
end Ow

namespace Ow
open PySem L2


def Own (H : Hp) (env : TEnv) (t : T) : Prop := ∀ a, (t.co a ≤ 1 ∧ (t.co a = 0 ∨ t.cu a = 0)) ∧ (0 < t.co a → H a = none) ∧ (0 < t.cu a → 0 < cuE a env ∨ H a = none)
def Bor (H : Hp) (env : TEnv) (t : T) : Prop := ∀ a, (0 < t.co a → 0 < coE a env ∨ H a = none) ∧ (0 < t.cu a → 0 < cuE a env ∨ H a = none)
abbrev PM := Env → Option D
abbrev EM := Env → Option (D × Env)
abbrev BM := Env → Option Bool
def trP (K : PySem.W.Frag) (m : PM) : TE := fun σ H Q => ∃ env d, m (erE env) = some d ∧ Rel σ env ∧ SatE K H env ∧ ∀ t H', t.er = d → Ex H H' → t.sat K H' → Own H env t → Q t.val H'
def trB (K : PySem.W.Frag) (m : PM) : TE := fun σ H Q => ∃ env d, m (erE env) = some d ∧ Rel σ env ∧ SatE K H env ∧ ∀ t H', t.er = d → Ex H H' → t.sat K H' → Bor H env t → Q t.val H'
def trT (K : PySem.W.Frag) (m : BM) : TT := fun σ H Q => ∃ env b, m (erE env) = some b ∧ Rel σ env ∧ SatE K H env ∧ ∀ H', Ex H H' → Q b H'
def SP (X : Cx) (e : Expr) (m : PM) : Prop := PE X e (trP X.K m)
def SB (X : Cx) (e : Expr) (m : PM) : Prop := PE X e (trB X.K m)
def ST (X : Cx) (e : Expr) (m : BM) : Prop := PT X e (trT X.K m)
def SW (X : Cx) (e : Expr) (m : BM) : Prop := PW X e (trT X.K m)
theorem Own.bor {H : Hp} {env : TEnv} {t : T} (h : Own H env t) : Bor H env t := fun a => ⟨fun z => .inr ((h a).2.1 z), (h a).2.2⟩
theorem Own.back {H H1 : Hp} {env : TEnv} {t : T} (e : Ex H H1) (h : Own H1 env t) : Own H env t := fun a =>
  ⟨(h a).1, fun z => Evl.fresh_back e ((h a).2.1 z), fun z => ((h a).2.2 z).imp id (Evl.fresh_back e)⟩
theorem Bor.back {H H1 : Hp} {env : TEnv} {t : T} (e : Ex H H1) (h : Bor H1 env t) : Bor H env t := fun a =>
  ⟨fun z => ((h a).1 z).imp id (Evl.fresh_back e), fun z => ((h a).2 z).imp id (Evl.fresh_back e)⟩
theorem own_s {H : Hp} {env : TEnv} {v : V} : Own H env (.s v) := fun a => by
  simp [T.co, T.cu]
theorem PE.weak {X : Cx} {e : Expr} {t u : TE} (h : PE X e t) (w : ∀ σ H Q, u σ H Q → t σ H Q) : PE X e u := ⟨fun pins s σ H Q I z => h.run pins s σ H Q I (w σ H Q z)⟩
theorem PT.weak {X : Cx} {e : Expr} {t u : TT} (h : PT X e t) (w : ∀ σ H Q, u σ H Q → t σ H Q) : PT X e u := ⟨fun pins s σ H Q I z => h.run pins s σ H Q I (w σ H Q z)⟩
theorem PW.weak {X : Cx} {e : Expr} {t u : TT} (h : PW X e t) (w : ∀ σ H Q, u σ H Q → t σ H Q) : PW X e u := ⟨fun wh pins s σ H Q I z => h.run wh pins s σ H Q I (w σ H Q z)⟩

mutual
@[simp] def D.pure : D → Bool
  | .s _ => true
  | .n k ds => !k.own && pureL ds
@[simp] def pureL : List D → Bool
  | [] => true
  | d :: ds => d.pure && pureL ds
end
mutual
theorem pure_co {a : Addr} : ∀ (t : T), t.er.pure = true → t.co a = 0
  | .s _, _ => rfl
  | .n k b ts, h => by
    rw [T.er, D.pure, Bool.and_eq_true] at h
    have q : k.own = false := by simpa using h.1
    rw [T.co, pureL_co ts h.2, q]
    simp
  | .w z k b ts, h => by
    rw [T.er, D.pure, Bool.and_eq_true] at h
    rw [T.co, pureL_co ts h.2]
theorem pureL_co {a : Addr} : ∀ (ts : List T), pureL (erL ts) = true → coL a ts = 0
  | [], _ => rfl
  | t :: ts, h => by
    rw [erL, pureL, Bool.and_eq_true] at h
    rw [coL, pure_co t h.1, pureL_co ts h.2]
end

section
variable {X : Cx} {m ma mb : PM} {e a b : Expr} {pos : Pos} {σ : L2.St} {H H1 H' : Hp} {env : TEnv} {K : PySem.W.Frag}
theorem SP.sb (h : SP X e m) : SB X e m := PE.weak h fun σ H Q ⟨env, d, hm, r, s, k⟩ => ⟨env, d, hm, r, s, fun t H' e1 e2 e3 o => k t H' e1 e2 e3 o.bor⟩

@[simp] def mVar (i : Nat) : PM := fun env => env[i]?.join
def mCopy (i : Nat) : PM := fun env => match env[i]?.join with
  | some d => if d.pure = true then some d else none
  | none => none
@[simp] def mC (v : V) : PM := fun _ => some (.s v)
theorem join_get {i : Nat} {d : D} (h : (erE env)[i]?.join = some d) : ∃ t, env[i]? = some (some t) ∧ t.er = d := by
  refine erE_get (i := i) ?_
  cases e : (erE env)[i]? with
  | none => rw [e] at h; cases h
  | some o =>
    rw [e] at h
    cases o with
    | none => cases h
    | some d' =>
      have h' : d' = d := Option.some.inj h
      rw [h']
theorem sb_var {x : Str} (i : Nat) (hN : X.N[i]? = some x := by rfl) (hv : Vis X.env.scope x := by first | exact .inl rfl | exact .inr (.inl rfl) | exact .inr (.inr rfl)) (hd : (x == ("__debug__" : Str)) = false := by decide) (hcd : (x == ("__classdict__" : Str)) = false := by decide) : SB X (.Name x pos) (mVar i) := PE.weak (pe_var (i := i) hN hv hd hcd) fun σ H Q ⟨env, d, hm, r, s, k⟩ => by
  obtain ⟨t, h1, h2⟩ := join_get hm
  exact ⟨t.val, r.2 i t h1, k t H h2 (Evl.Ex.refl H) (s.get h1) fun a => ⟨fun z => .inl (Nat.lt_of_lt_of_le z (coE_get h1)), fun z => .inl (Nat.lt_of_lt_of_le z (cuE_get h1))⟩⟩
theorem sp_c {v : V} (h : PE X e (tC v)) (hv : scl v = true) : SP X e (mC v) := PE.weak h fun σ H Q ⟨env, d, hm, r, s, k⟩ => by
  cases hm
  exact k (.s v) H (by rw [T.er, hid_scl hv]) (Evl.Ex.refl H) trivial own_s
theorem sp_int {i : Int} {j : Nat} : SP X (.Constant (.int i) j pos) (mC (.int i)) := sp_c pe_int rfl
theorem sp_bl {c : Bool} {j : Nat} : SP X (.Constant (.bool c) j pos) (mC (.bl c)) := sp_c pe_bl rfl
theorem sp_str {x : Str} {j : Nat} : SP X (.Constant (.str x) j pos) (mC (.str x)) := sp_c pe_str rfl
theorem sp_glob {x : Str} {v : V} {u : Value} (hg : Gl X x) (hm : X.mg x = some u) (r : RelV v u) (hv : scl v = true) (hd : (x == ("__debug__" : Str)) = false := by decide) : SP X (.Name x pos) (mC v) := sp_c (pe_glob hg hm r hd) hv


def Op2 (K : PySem.W.Frag) (r : R2) (f : D → D → Option V) : Prop := ∀ (t u : T) (v : V) (H : Hp) (Q : VK), t.sat K H → u.sat K H → f t.er u.er = some v → Q v H → r t.val u.val H Q
def Op1 (K : PySem.W.Frag) (r : V → Hp → VK → Prop) (f : D → Option V) : Prop := ∀ (t : T) (v : V) (H : Hp) (Q : VK), t.sat K H → f t.er = some v → Q v H → r t.val H Q
@[simp] def sv (v : V) : Option D := if scl v = true then some (.s v) else none
@[simp] def mOp2 (f : D → D → Option V) (ma mb : PM) : PM := fun env => (ma env).bind fun x => (mb env).bind fun y => (f x y).bind sv
@[simp] def mOp1 (f : D → Option V) (ma : PM) : PM := fun env => (ma env).bind fun x => (f x).bind sv
theorem bind_some {α β : Type} {o : Option α} {f : α → Option β} {z : β} (h : o.bind f = some z) : ∃ x, o = some x ∧ f x = some z := by
  cases o with
  | none => cases h
  | some x => exact ⟨x, rfl, h⟩
theorem sv_some {v : V} {d : D} (h : sv v = some d) : scl v = true ∧ d = .s v := by
  unfold sv at h
  split at h
  · cases h
    exact ⟨by assumption, rfl⟩
  · cases h
theorem rd2 {ta tb : TE} {r : R2} {f : D → D → Option V} {Q : VK} (ho : Op2 K r f) (h : trP K (mOp2 f ma mb) σ H Q) : tOp r (trB K ma) (trB K mb) σ H Q := by
  obtain ⟨env, d, hm, hr, hs, k⟩ := h
  obtain ⟨x, hx, hm⟩ := bind_some hm
  obtain ⟨y, hy, hm⟩ := bind_some hm
  obtain ⟨v, hv, hm⟩ := bind_some hm
  obtain ⟨s1, rfl⟩ := sv_some hm
  refine ⟨env, x, hx, hr, hs, fun t H1 e1 x1 s2 _ => ⟨env, y, hy, hr, hs.ex x1, fun u H2 e2 x2 s3 _ => ?_⟩⟩
  subst e1 e2
  exact ho t u v H2 Q (sat_ex x2 s2) s3 hv (k (.s v) H2 (by rw [T.er, hid_scl s1]) (x1.trans x2) trivial own_s)
theorem sp_op {op : Operator} {r : R2} {f : D → D → Option V} (ho : OpR X (binaryOp op) r) (hf : Op2 X.K r f) (ha : SB X a ma) (hb : SB X b mb) : SP X (.BinOp a op b pos) (mOp2 f ma mb) :=
  PE.weak (pe_op ho ha hb) fun σ H Q h => rd2 (ta := trB X.K ma) (tb := trB X.K mb) hf h
theorem sp_cmp {op : CmpOp} {r : R2} {f : D → D → Option V} (ho : OpR X (compareOp op) r) (hf : Op2 X.K r f) (ha : SB X a ma) (hb : SB X b mb) (hm : behindInMarks op b = false := by rfl) : SP X (.Compare a [op] [b] pos) (mOp2 f ma mb) :=
  PE.weak (pe_cmpR ho ha hb hm) fun σ H Q h => rd2 (ta := trB X.K ma) (tb := trB X.K mb) hf h

def fI (C : Int → Int → Bool) (g : Int → Int → V) : D → D → Option V
  | .s (.int i), .s (.int j) => if C i j = true then some (g i j) else none
  | _, _ => none
@[simp] def okI (_ _ : Int) : Bool := true
theorem er_int {t : T} {i : Int} (h : t.er = .s (.int i)) : t = .s (.int i) := by
  cases t with
  | n k a ts => rw [T.er] at h; cases h
  | w z k a ts => rw [T.er] at h; cases h
  | s v =>
    rw [T.er] at h
    unfold hid at h
    split at h
    · cases h; rfl
    · cases h
theorem er_scl {t : T} {v : V} (h : t.er = .s v) (hv : scl v = true) : t = .s v := by
  cases t with
  | n k a ts => rw [T.er] at h; cases h
  | w z k a ts => rw [T.er] at h; cases h
  | s u =>
    rw [T.er] at h
    unfold hid at h
    split at h
    · cases h; rfl
    · cases h; cases hv
theorem fI_some {C : Int → Int → Bool} {g : Int → Int → V} {x y : D} {v : V} (h : fI C g x y = some v) : ∃ i j, x = .s (.int i) ∧ y = .s (.int j) ∧ C i j = true ∧ v = g i j := by
  unfold fI at h
  split at h
  · split at h
    · cases h
      exact ⟨_, _, rfl, rfl, by assumption, rfl⟩
    · cases h
  · cases h
theorem op2_I0 {g : Int → Int → V} : Op2 K (rI0 g) (fI okI g) := fun t u v H Q _ _ h q => by
  obtain ⟨i, j, e1, e2, _, rfl⟩ := fI_some h
  rw [er_int e1, er_int e2]
  exact ⟨i, j, rfl, rfl, q⟩
theorem op2_I {C : Int → Int → Prop} {Cb : Int → Int → Bool} {g : Int → Int → V} (hC : ∀ i j, Cb i j = true → C i j) : Op2 K (rI C g) (fI Cb g) := fun t u v H Q _ _ h q => by
  obtain ⟨i, j, e1, e2, hc, rfl⟩ := fI_some h
  rw [er_int e1, er_int e2]
  exact ⟨i, j, rfl, rfl, hC i j hc, q⟩
def CMulB (i j : Int) : Prop := i.natAbs.log2 + j.natAbs.log2 < 100000000
theorem bits_le (x : Int) : PySem.Builtin.Int.intBits x ≤ x.natAbs.log2 + 1 := by
  unfold PySem.Builtin.Int.intBits
  split
  · omega
  · omega
theorem CMulB.ok {i j : Int} (h : CMulB i j) : PySem.IntMulOk i j := fun z => by
  have l : PySem.bitsLine = 134217728 := by decide
  have z2 := (Bool.and_eq_true _ _ ▸ z).2
  unfold PySem.Builtin.Int.intTooBig at z2
  have z3 := of_decide_eq_true z2
  rw [l] at z3
  have := bits_le i
  have := bits_le j
  unfold CMulB at h
  omega
theorem op_mulB {X : Cx} : OpR X (binaryOp .Mult) (rI CMulB fun i j => .int (i * j)) := opI fun i j H Q A E s hc q => PyProof.Rows.mul_int q (CMulB.ok hc)
theorem wide_mulB {i j : Int} (h1 : i.natAbs.log2 < 2000000) (h2 : j.natAbs.log2 < 2000000) : CMulB i j := by
  unfold CMulB
  omega
instance {i j : Int} : Decidable (CMulB i j) := by unfold CMulB; infer_instance
def fAdd := fI okI fun i j => .int (i + j)
def fSub := fI okI fun i j => .int (i - j)
def fMul := fI (fun i j => decide (CMulB i j)) fun i j => .int (i * j)
def fDiv := fI (fun i j => decide (0 < j ∧ j.natAbs.log2 < 9000)) fun i j => .int (i / j)
def fMod := fI (fun _ j => decide (0 < j)) fun i j => .int (i % j)
def fPow := fI (fun i j => decide (0 ≤ j ∧ j ≤ 1000000 ∧ i.natAbs < 2 ^ 64)) fun i j => .int (i ^ j.toNat)
def fLt := fI okI fun i j => .bl (decide (i < j))
def fLe := fI okI fun i j => .bl (decide (i ≤ j))
def fGt := fI okI fun i j => .bl (decide (j < i))
def fGe := fI okI fun i j => .bl (decide (j ≤ i))
end
section
variable {X : Cx} {ma mb : PM} {e a b : Expr} {pos : Pos}
theorem sp_add (ha : SB X a ma) (hb : SB X b mb) : SP X (.BinOp a .Add b pos) (mOp2 fAdd ma mb) := sp_op op_add op2_I0 ha hb
theorem sp_sub (ha : SB X a ma) (hb : SB X b mb) : SP X (.BinOp a .Sub b pos) (mOp2 fSub ma mb) := sp_op op_sub op2_I0 ha hb
theorem sp_mul (ha : SB X a ma) (hb : SB X b mb) : SP X (.BinOp a .Mult b pos) (mOp2 fMul ma mb) := sp_op op_mulB (op2_I fun _ _ h => of_decide_eq_true h) ha hb
theorem sp_div (ha : SB X a ma) (hb : SB X b mb) : SP X (.BinOp a .FloorDiv b pos) (mOp2 fDiv ma mb) := sp_op op_fdivW (op2_I fun i j h => (of_decide_eq_true h : 0 < j ∧ j.natAbs.log2 < 9000)) ha hb
theorem sp_mod (ha : SB X a ma) (hb : SB X b mb) : SP X (.BinOp a .Mod b pos) (mOp2 fMod ma mb) := sp_op op_mod (op2_I fun _ _ h => of_decide_eq_true h) ha hb
theorem sp_pow (ha : SB X a ma) (hb : SB X b mb) : SP X (.BinOp a .Pow b pos) (mOp2 fPow ma mb) := sp_op op_pow (op2_I fun i j h => (of_decide_eq_true h : 0 ≤ j ∧ j ≤ 1000000 ∧ i.natAbs < 2 ^ 64)) ha hb
theorem sp_ge (ha : SB X a ma) (hb : SB X b mb) : SP X (.Compare a [.GtE] [b] pos) (mOp2 fGe ma mb) := sp_cmp op_ge op2_I0 ha hb (nomark _)
end
end Ow

namespace Ow
open PySem L2


section
variable {K : PySem.W.Frag} {H H1 H' : Hp} {t : T} {ds : List D} {o : Fl} {env : TEnv} {σ : L2.St}
theorem sql_up {a : Addr} {vs : List V} (h : SqL K (fun _ => none) a vs) : SqL K H a vs := by
  rcases h with (h | ⟨_, h⟩) | h
  · cases h
  · cases h
  · exact .inr h
theorem sqt_up {a : Addr} {vs : List V} (h : SqT K (fun _ => none) a vs) : SqT K H a vs := by
  rcases h with (h | ⟨_, h⟩) | h
  · cases h
  · cases h
  · exact .inr h
theorem rdL (hs : t.sat K H) (he : t.er = .n (.lst o) ds) : ∃ a ts, t.val = .ref a ∧ erL ts = ds ∧ SqL K H a (vals ts) ∧ satL K H ts ∧ (∀ b, coL b ts ≤ t.co b) ∧ (∀ b, cuL b ts ≤ t.cu b) := by
  cases t with
  | s v => rw [T.er] at he; cases he
  | n k a ts =>
    rw [T.er] at he
    cases he
    exact ⟨a, ts, rfl, rfl, .inl (.inl hs.1.1), hs.2, fun b => by rw [T.co]; omega, fun b => by rw [T.cu]; omega⟩
  | w z k a ts =>
    rw [T.er] at he
    cases k with
    | lst o' =>
      cases he
      refine ⟨a, ts, rfl, rfl, ?_, hs.2, fun b => by rw [T.co]; omega, fun b => by rw [T.cu]; omega⟩
      cases z with
      | true => exact sql_up hs.1
      | false => exact .inl (.inr hs.1.2)
    | tup => cases he
    | ktp => cases he
    | dic _ _ => cases he
    | dct _ _ => cases he
theorem rdT {kd : Kd} (hs : t.sat K H) (he : t.er = .n kd ds) (hk : kd = .tup ∨ kd = .ktp := by first | exact .inl rfl | exact .inr rfl) : ∃ a ts, t.val = .ref a ∧ erL ts = ds ∧ SqT K H a (vals ts) ∧ satL K H ts ∧ (∀ b, coL b ts ≤ t.co b) ∧ (∀ b, cuL b ts ≤ t.cu b) := by
  cases t with
  | s v => rw [T.er] at he; cases he
  | n k a ts =>
    rw [T.er] at he
    cases he
    have hh : H a = some (.tup (vals ts)) := by
      rcases hk with rfl | rfl
      · exact hs.1.1
      · exact hs.1.1
    exact ⟨a, ts, rfl, rfl, .inl (.inl hh), hs.2, fun b => by rw [T.co]; omega, fun b => by rw [T.cu]; omega⟩
  | w z k a ts =>
    rw [T.er] at he
    cases k with
    | tup =>
      cases he
      refine ⟨a, ts, rfl, rfl, ?_, hs.2, fun b => by rw [T.co]; omega, fun b => by rw [T.cu]; omega⟩
      cases z with
      | true => exact hs.1.elim
      | false => exact .inl (.inr hs.1.2)
    | ktp =>
      cases he
      refine ⟨a, ts, rfl, rfl, ?_, hs.2, fun b => by rw [T.co]; omega, fun b => by rw [T.cu]; omega⟩
      cases z with
      | true => exact sqt_up hs.1.1
      | false => exact absurd rfl hs.1.1
    | lst _ => cases he; rcases hk with z | z <;> cases z
    | dic _ _ => cases he; rcases hk with z | z <;> cases z
    | dct _ _ => cases he; rcases hk with z | z <;> cases z
theorem rdN {k : Kd} (hs : t.sat K H) (he : t.er = .n k ds) (hk : k.isw = false) (hT : k ≠ .tup) : ∃ a ts, t = .n k a ts ∧ erL ts = ds ∧ H a = some (k.ho (vals ts)) ∧ satL K H ts := by
  cases t with
  | s v => rw [T.er] at he; cases he
  | n k' a ts =>
    rw [T.er] at he
    cases he
    exact ⟨a, ts, rfl, rfl, hs.1.1, hs.2⟩
  | w z k' a ts =>
    rw [T.er] at he
    cases he
    cases k' <;> first | exact absurd rfl hT | (exact absurd hk (by simp [Kd.wri, Kd.isw]))


mutual
def D.dat : D → Option PyData
  | .s .non => some .none
  | .s (.bl b) => some (.bool b)
  | .s (.int i) => some (.int i)
  | .s (.str x) => some (.str x)
  | .s _ => none
  | .n (.lst _) ds => (datL ds).map .list
  | .n .tup ds => (datL ds).map .tuple
  | .n _ _ => none
def datL : List D → Option (List PyData)
  | [] => some []
  | d :: ds => d.dat.bind fun p => (datL ds).map (p :: ·)
end
theorem map_some {α β : Type} {o : Option α} {f : α → β} {z : β} (h : o.map f = some z) : ∃ x, o = some x ∧ f x = z := by
  cases o with
  | none => cases h
  | some x => exact ⟨x, rfl, Option.some.inj h⟩
mutual
theorem dp_of : ∀ (t : T) (p : PyData), t.sat K H → t.er.dat = some p → Dp K H t.val p
  | .s v, p, hs, h => by
    rw [T.er] at h
    unfold hid at h
    cases v with
    | non => cases h; exact .non
    | bl b => cases h; exact .bl b
    | int i => cases h; exact .int i
    | str x => cases h; exact .str x
    | byt _ => cases h
    | flt _ => cases h
    | ref _ => cases h
    | ty _ => cases h
  | .n k a ts, p, hs, h => by
    rw [T.er] at h
    cases k with
    | lst o =>
      rw [D.dat] at h
      obtain ⟨ps, h1, rfl⟩ := map_some h
      exact .lst (.inl (.inl hs.1.1)) (dp_ofL ts ps hs.2 h1)
    | tup =>
      rw [D.dat] at h
      obtain ⟨ps, h1, rfl⟩ := map_some h
      exact .tup (.inl (.inl hs.1.1)) (dp_ofL ts ps hs.2 h1)
    | ktp => simp [D.dat] at h
    | dic o ks => simp [D.dat] at h
    | dct o ks => simp [D.dat] at h
  | .w z k a ts, p, hs, h => by
    rw [T.er] at h
    cases k with
    | lst o =>
      rw [Kd.wri, D.dat] at h
      obtain ⟨ps, h1, rfl⟩ := map_some h
      refine .lst ?_ (dp_ofL ts ps hs.2 h1)
      cases z with
      | true => exact sql_up hs.1
      | false => exact .inl (.inr hs.1.2)
    | tup =>
      rw [Kd.wri, D.dat] at h
      obtain ⟨ps, h1, rfl⟩ := map_some h
      refine .tup ?_ (dp_ofL ts ps hs.2 h1)
      cases z with
      | true => exact hs.1.elim
      | false => exact .inl (.inr hs.1.2)
    | ktp => simp [Kd.wri, D.dat] at h
    | dic o ks => simp [Kd.wri, D.dat] at h
    | dct o ks => simp [Kd.wri, D.dat] at h
theorem dp_ofL : ∀ (ts : List T) (ps : List PyData), satL K H ts → datL (erL ts) = some ps → DpAll K H (vals ts) ps
  | [], ps, _, h => by
    rw [erL, datL] at h
    cases h
    exact .nil
  | t :: ts, ps, hs, h => by
    rw [erL, datL] at h
    obtain ⟨p, h1, h⟩ := bind_some h
    obtain ⟨qs, h2, rfl⟩ := map_some h
    exact .cons (dp_of t p hs.1 h1) (dp_ofL ts qs hs.2 h2)
end
def fEqB (x y : D) : Option Bool := x.dat.bind fun p => y.dat.bind fun q => if (SeqAt.shaped p && SeqAt.shaped q) = true then some (PyData.eqv p q) else none
def fEq (x y : D) : Option V := (fEqB x y).map .bl
def fNe (x y : D) : Option V := (fEqB x y).map fun b => .bl (!b)
def fIn (x y : D) : Option V := x.dat.bind fun p => match y with
  | .n (.lst _) ds => (datL ds).bind fun qs => if (SeqAt.shaped p && SeqAt.shaped (.list qs)) = true then some (.bl (qs.any fun z => PyData.eqv z p)) else none
  | _ => none
def fNotIn (x y : D) : Option V := (fIn x y).bind fun v => match v with
  | .bl b => some (.bl (!b))
  | _ => none
theorem fEqB_some {x y : D} {b : Bool} (h : fEqB x y = some b) : ∃ p q, x.dat = some p ∧ y.dat = some q ∧ SeqAt.shaped p = true ∧ SeqAt.shaped q = true ∧ b = PyData.eqv p q := by
  obtain ⟨p, h1, h⟩ := bind_some h
  obtain ⟨q, h2, h⟩ := bind_some h
  split at h
  · rename_i hh
    rw [Bool.and_eq_true] at hh
    cases h
    exact ⟨p, q, h1, h2, hh.1, hh.2, rfl⟩
  · cases h
theorem op2_eq : Op2 K (rEqD K) fEq := fun t u v H Q h1 h2 h q => by
  obtain ⟨b, h', rfl⟩ := map_some h
  obtain ⟨x, y, e1, e2, s1, s2, rfl⟩ := fEqB_some h'
  exact ⟨x, y, dp_of t x h1 e1, dp_of u y h2 e2, s1, s2, q⟩
theorem op2_ne : Op2 K (rNeD K) fNe := fun t u v H Q h1 h2 h q => by
  obtain ⟨b, h', rfl⟩ := map_some h
  obtain ⟨x, y, e1, e2, s1, s2, rfl⟩ := fEqB_some h'
  exact ⟨x, y, dp_of t x h1 e1, dp_of u y h2 e2, s1, s2, q⟩
def isNon : D → Bool
  | .s .non => true
  | _ => false
@[simp] theorem isNon_c0  : isNon (.s .non) = true := rfl
@[simp] theorem isNon_c1 {i : Int} : isNon (.s (.int i)) = false := rfl
@[simp] theorem isNon_c2 {b : Bool} : isNon (.s (.bl b)) = false := rfl
@[simp] theorem isNon_c3 {z : PySem.Str} : isNon (.s (.str z)) = false := rfl
@[simp] theorem isNon_c4 {k : Kd} {ds : List D} : isNon (.n k ds) = false := rfl
def fIsN (x y : D) : Option V := match y with
  | .s .non => some (.bl (isNon x))
  | _ => none
@[simp] theorem fIsN_c0 {x : D} : fIsN x (.s .non) = some (.bl (isNon x)) := rfl
def fNotN (x y : D) : Option V := match y with
  | .s .non => some (.bl (!isNon x))
  | _ => none
@[simp] theorem fNotN_c0 {x : D} : fNotN x (.s .non) = some (.bl (!isNon x)) := rfl
end
theorem hu64 {A : Around} {k : Nat} (hr : Room k A) : A.units + 64 < cLine := by have := hr.un; omega
section
variable {X : Cx} {m ma mb : PM} {e a b : Expr} {pos : Pos} {k : Nat} {rest : List Expr}
theorem sp_eq (hr : Room k X.A) (ha : SB X a ma) (hb : SB X b mb) : SP X (.Compare a [.Eq] [b] pos) (mOp2 fEq ma mb) := sp_cmp (op_eqD (hu64 hr)) op2_eq ha hb (nomark _)

def toB : D → Option Bool
  | .s (.bl b) => some b
  | _ => none
@[simp] theorem toB_c0 {b : Bool} : toB (.s (.bl b)) = some b := rfl
@[simp] def mB (m : PM) : BM := fun env => (m env).bind toB
@[simp] def mNotT (m : BM) : BM := fun env => (m env).map (!·)
@[simp] def mAnd (m n : BM) : BM := fun env => (m env).bind fun b => if b = true then n env else some false
@[simp] def mOr (m n : BM) : BM := fun env => (m env).bind fun b => if b = true then some true else n env
theorem toB_some {d : D} {b : Bool} (h : toB d = some b) : d = .s (.bl b) := by
  unfold toB at h
  split at h
  · cases h; rfl
  · cases h
theorem st_val (h : SB X e m) (he : ∀ whole, isTrue e X.env whole = (do let v ← whole; standAt e.pos; holding [v] (truthy v)) := by intro _; rfl) : ST X e (mB m) := PT.weak (pt_val h he) fun σ H Q ⟨env, b, hm, r, s, k⟩ => by
  obtain ⟨d, hd, hb⟩ := bind_some hm
  refine ⟨env, d, hd, r, s, fun t H' e1 x1 s1 _ => ?_⟩
  subst e1
  rw [er_scl (toB_some hb) rfl]
  exact ⟨b, rfl, k H' x1⟩
theorem st_not {mt : BM} (h : ST X a mt) : ST X (.UnaryOp .Not a pos) (mNotT mt) := PT.weak (pt_not h) fun σ H Q ⟨env, b, hm, r, s, k⟩ => by
  obtain ⟨c, hc, rfl⟩ := map_some hm
  exact ⟨env, c, hc, r, s, fun H' x1 => k H' x1⟩
theorem sw_and1 {mt : BM} (h : ST X a mt) : SW X (.BoolOp .And [a] pos) mt := pw_and1 h
theorem sw_or1 {mt : BM} (h : ST X a mt) : SW X (.BoolOp .Or [a] pos) mt := pw_or1 h
theorem sw_and {mt mu : BM} (h : ST X a mt) (h2 : SW X (.BoolOp .And (b :: rest) pos) mu) : SW X (.BoolOp .And (a :: b :: rest) pos) (mAnd mt mu) := PW.weak (pw_and h h2) fun σ H Q ⟨env, c, hm, r, s, k⟩ => by
  obtain ⟨x, hx, hm⟩ := bind_some hm
  refine ⟨env, x, hx, r, s, fun H' x1 => ?_⟩
  cases x with
  | true =>
    rw [if_pos rfl] at hm ⊢
    exact ⟨env, c, hm, r, s.ex x1, fun H2 x2 => k H2 (x1.trans x2)⟩
  | false =>
    rw [if_neg Bool.false_ne_true] at hm ⊢
    cases hm
    exact k H' x1
theorem sw_or {mt mu : BM} (h : ST X a mt) (h2 : SW X (.BoolOp .Or (b :: rest) pos) mu) : SW X (.BoolOp .Or (a :: b :: rest) pos) (mOr mt mu) := PW.weak (pw_or h h2) fun σ H Q ⟨env, c, hm, r, s, k⟩ => by
  obtain ⟨x, hx, hm⟩ := bind_some hm
  refine ⟨env, x, hx, r, s, fun H' x1 => ?_⟩
  cases x with
  | false =>
    rw [if_neg Bool.false_ne_true] at hm ⊢
    exact ⟨env, c, hm, r, s.ex x1, fun H2 x2 => k H2 (x1.trans x2)⟩
  | true =>
    rw [if_pos rfl] at hm ⊢
    cases hm
    exact k H' x1
theorem st_w {mt : BM} (h : SW X e mt) : ST X e mt := h.pt
def tru : D → Option Bool
  | .s .non => some false
  | .s (.bl b) => some b
  | .s (.int i) => some (i != 0)
  | .n (.lst _) ds => some (!ds.isEmpty)
  | .n .tup ds => some (!ds.isEmpty)
  | _ => none
@[simp] theorem tru_c0  : tru (.s .non) = some false := rfl
@[simp] theorem tru_c1 {b : Bool} : tru (.s (.bl b)) = some b := rfl
@[simp] theorem tru_c2 {i : Int} : tru (.s (.int i)) = some (i != 0) := rfl
@[simp] theorem tru_c3 {ds : List D} {o : Fl} : tru (.n (.lst o) ds) = some (!ds.isEmpty) := rfl
@[simp] theorem tru_c4 {ds : List D} : tru (.n .tup ds) = some (!ds.isEmpty) := rfl
@[simp] def mTru (m : PM) : BM := fun env => (m env).bind tru
theorem isEmpty_er {ts : List T} : (vals ts).isEmpty = (erL ts).isEmpty := by
  cases ts <;> rfl
theorem st_tru (h : SB X e m) (he : ∀ whole, isTrue e X.env whole = (do let v ← whole; standAt e.pos; holding [v] (truthy v)) := by intro _; rfl) : ST X e (mTru m) := PT.weak (pt_truth h he) fun σ H Q ⟨env, b, hm, r, s, k⟩ => by
  obtain ⟨d, hd, hb⟩ := bind_some hm
  refine ⟨env, d, hd, r, s, fun t H' e1 x1 s1 _ => ?_⟩
  subst e1
  refine ⟨b, ?_, k H' x1⟩
  unfold tru at hb
  split at hb
  · rename_i e; rw [er_scl e rfl]; cases hb; rfl
  · rename_i e; rw [er_scl e rfl]; cases hb; rfl
  · rename_i e; rw [er_scl e rfl]; cases hb; rfl
  · rename_i e
    obtain ⟨a, ts, e1, e2, e3, _⟩ := rdL s1 e
    cases hb
    rw [e1]
    exact .inl ⟨_, e3, by rw [isEmpty_er, e2]⟩
  · rename_i e
    obtain ⟨a, ts, e1, e2, e3, _⟩ := rdT s1 e
    cases hb
    rw [e1]
    exact .inr (.inl ⟨_, e3, by rw [isEmpty_er, e2]⟩)
  · cases hb

@[simp] def mAndV (m n : PM) : PM := fun env => ((m env).bind toB).bind fun b => if b = true then ((n env).bind toB).map fun c => .s (.bl c) else some (.s (.bl false))
@[simp] def mOrV (m n : PM) : PM := fun env => ((m env).bind toB).bind fun b => if b = true then some (.s (.bl true)) else ((n env).bind toB).map fun c => .s (.bl c)
@[simp] def mNotV (m : PM) : PM := fun env => ((m env).bind toB).map fun c => .s (.bl (!c))
@[simp] def mIf (c : BM) (m n : PM) : PM := fun env => (c env).bind fun b => if b = true then m env else n env
theorem sp_one {op : BoolOp} (h : SP X a m) : SP X (.BoolOp op [a] pos) m := pe_one h
theorem sp_and (ha : SP X a ma) (hb : SP X (.BoolOp .And (b :: rest) pos) mb) : SP X (.BoolOp .And (a :: b :: rest) pos) (mAndV ma mb) := PE.weak (pe_and ha hb) fun σ H Q ⟨env, d, hm, r, s, k⟩ => by
  obtain ⟨x, hx, hm⟩ := bind_some hm
  obtain ⟨dx, hdx, hx⟩ := bind_some hx
  refine ⟨env, dx, hdx, r, s, fun t H' e1 x1 s1 _ => ?_⟩
  subst e1
  rw [er_scl (toB_some hx) rfl]
  refine ⟨x, rfl, ?_⟩
  cases x with
  | true =>
    rw [if_pos rfl] at hm ⊢
    obtain ⟨c, hc, rfl⟩ := map_some hm
    obtain ⟨dy, hdy, hy⟩ := bind_some hc
    refine ⟨env, dy, hdy, r, s.ex x1, fun t2 H2 e2 x2 s2 o => ?_⟩
    subst e2
    have e3 := er_scl (toB_some hy) rfl
    exact k t2 H2 (toB_some hy) (x1.trans x2) s2 (o.back x1)
  | false =>
    rw [if_neg Bool.false_ne_true] at hm ⊢
    cases hm
    exact k (.s (.bl false)) H' rfl x1 trivial own_s
theorem sp_not (ha : SP X a ma) : SP X (.UnaryOp .Not a pos) (mNotV ma) := PE.weak (pe_not ha) fun σ H Q ⟨env, d, hm, r, s, k⟩ => by
  obtain ⟨x, hx, rfl⟩ := map_some hm
  obtain ⟨dx, hdx, hx⟩ := bind_some hx
  refine ⟨env, dx, hdx, r, s, fun t H' e1 x1 s1 _ => ?_⟩
  subst e1
  rw [er_scl (toB_some hx) rfl]
  exact ⟨x, rfl, k (.s (.bl (!x))) H' rfl x1 trivial own_s⟩
theorem sp_if {c : Expr} {mc : BM} (hc : ST X c mc) (ha : SP X a ma) (hb : SP X b mb) : SP X (.IfExp c a b pos) (mIf mc ma mb) := PE.weak (pe_ifExp hc ha hb) fun σ H Q ⟨env, d, hm, r, s, k⟩ => by
  obtain ⟨x, hx, hm⟩ := bind_some hm
  refine ⟨env, x, hx, r, s, fun H' x1 => ?_⟩
  cases x with
  | true =>
    rw [if_pos rfl] at hm ⊢
    exact ⟨env, d, hm, r, s.ex x1, fun t H2 e2 x2 s2 o => k t H2 e2 (x1.trans x2) s2 (o.back x1)⟩
  | false =>
    rw [if_neg Bool.false_ne_true] at hm ⊢
    exact ⟨env, d, hm, r, s.ex x1, fun t H2 e2 x2 s2 o => k t H2 e2 (x1.trans x2) s2 (o.back x1)⟩
end
end Ow

namespace Ow
open PySem L2


def OwnL (H : Hp) (env : TEnv) (ts : List T) : Prop := ∀ a, (coL a ts ≤ 1 ∧ (coL a ts = 0 ∨ cuL a ts = 0)) ∧ (0 < coL a ts → H a = none) ∧ (0 < cuL a ts → 0 < cuE a env ∨ H a = none)
def BorL (H : Hp) (env : TEnv) (ts : List T) : Prop := ∀ a, (0 < coL a ts → 0 < coE a env ∨ H a = none) ∧ (0 < cuL a ts → 0 < cuE a env ∨ H a = none)
abbrev LM := Env → Option (List D)
def trBA (K : PySem.W.Frag) (m : LM) : TA := fun σ H Q => ∃ env ds, m (erE env) = some ds ∧ Rel σ env ∧ SatE K H env ∧ ∀ ts H', erL ts = ds → Ex H H' → satL K H' ts → BorL H env ts → Q (vals ts) H'
def trPA (K : PySem.W.Frag) (m : LM) : TA := fun σ H Q => ∃ env ds, m (erE env) = some ds ∧ Rel σ env ∧ SatE K H env ∧ ∀ ts H', erL ts = ds → Ex H H' → satL K H' ts → OwnL H env ts → Q (vals ts) H'
def SBA (X : Cx) (es : List Expr) (m : LM) : Prop := PA X es (trBA X.K m)
def SPA (X : Cx) (es : List Expr) (m : LM) : Prop := PA X es (trPA X.K m)
theorem PA.weak {X : Cx} {es : List Expr} {t u : TA} (h : PA X es t) (w : ∀ σ H Q, u σ H Q → t σ H Q) : PA X es u := ⟨fun p pins s σ H Q I z => h.run p pins s σ H Q I (w σ H Q z)⟩
@[simp] def lNil : LM := fun _ => some []
@[simp] def lCons (m : PM) (n : LM) : LM := fun env => (m env).bind fun d => (n env).map (d :: ·)
section
variable {K : PySem.W.Frag} {H H1 H' : Hp} {env : TEnv} {ts us : List T} {p : Addr}
theorem BorL.back (e : Ex H H1) (h : BorL H1 env ts) : BorL H env ts := fun a =>
  ⟨fun z => ((h a).1 z).imp id (Evl.fresh_back e), fun z => ((h a).2 z).imp id (Evl.fresh_back e)⟩
theorem OwnL.bor (h : OwnL H env ts) : BorL H env ts := fun a => ⟨fun z => .inr ((h a).2.1 z), (h a).2.2⟩
theorem BorL.own (h : BorL H env ts) (hp : pureL (erL ts) = true) : OwnL H env ts := fun a => by
  rw [pureL_co ts hp]
  exact ⟨⟨Nat.zero_le _, .inl rfl⟩, fun z => absurd z (Nat.lt_irrefl _), (h a).2⟩
theorem Bor.own {t : T} (h : Bor H env t) (hp : t.er.pure = true) : Own H env t := fun a => by
  rw [pure_co t hp]
  exact ⟨⟨Nat.zero_le _, .inl rfl⟩, fun z => absurd z (Nat.lt_irrefl _), (h a).2⟩
theorem Bor.sub {t : T} (h : Bor H env t) (h1 : ∀ b, coL b ts ≤ t.co b) (h2 : ∀ b, cuL b ts ≤ t.cu b) : BorL H env ts := fun a =>
  ⟨fun z => (h a).1 (Nat.lt_of_lt_of_le z (h1 a)), fun z => (h a).2 (Nat.lt_of_lt_of_le z (h2 a))⟩
theorem BorL.mem {t : T} (h : BorL H env ts) (ht : t ∈ ts) : Bor H env t := fun a =>
  ⟨fun z => (h a).1 (Nat.lt_of_lt_of_le z (coL_mem ht)), fun z => (h a).2 (Nat.lt_of_lt_of_le z (cuL_mem ht))⟩
theorem BorL.subset : ∀ {us : List T}, BorL H env ts → (∀ u ∈ us, u ∈ ts) → BorL H env us
  | [], _, _ => fun a => ⟨fun z => absurd z (by rw [coL]; omega), fun z => absurd z (by rw [cuL]; omega)⟩
  | u :: us, h, hs => fun a => by
    have h1 := (h.mem (hs u (List.mem_cons_self ..))) a
    have h2 := (BorL.subset (us := us) h fun v hv => hs v (List.mem_cons_of_mem _ hv)) a
    rw [coL, cuL]
    refine ⟨fun z => ?_, fun z => ?_⟩
    · by_cases q : 0 < u.co a
      · exact h1.1 q
      · exact h2.1 (by omega)
    · by_cases q : 0 < u.cu a
      · exact h1.2 q
      · exact h2.2 (by omega)
theorem ownL_nil : OwnL H env [] := fun a => by
  rw [coL, cuL]
  exact ⟨⟨Nat.zero_le _, .inl rfl⟩, fun z => absurd z (Nat.lt_irrefl _), fun z => absurd z (Nat.lt_irrefl _)⟩
theorem OwnL.cons {t : T} (x1 : Ex H H1) (hs : SatE K H env) (s1 : t.sat K H1) (o1 : Own H env t) (o2 : OwnL H1 env ts) : OwnL H env (t :: ts) := fun a => by
  have h1 := o1 a
  have h2 := o2 a
  have c1 : 0 < t.co a → H1 a ≠ none := fun z => co_some t s1 z
  have c2 : 0 < t.cu a → H1 a ≠ none := fun z => cu_some t s1 z
  have c3 : 0 < cuE a env → H a ≠ none := fun z => cuE_some hs z
  have c4 : H1 a = none → H a = none := Evl.fresh_back x1
  rw [coL, cuL]
  by_cases q1 : H a = none
  · have n3 : cuE a env = 0 := by
      rcases Nat.eq_zero_or_pos (cuE a env) with z | z
      · exact z
      · exact absurd q1 (c3 z)
    by_cases q2 : H1 a = none
    · have n1 : t.co a = 0 := by
        rcases Nat.eq_zero_or_pos (t.co a) with z | z
        · exact z
        · exact absurd q2 (c1 z)
      have n2 : t.cu a = 0 := by
        rcases Nat.eq_zero_or_pos (t.cu a) with z | z
        · exact z
        · exact absurd q2 (c2 z)
      rw [n1, n2, Nat.zero_add, Nat.zero_add]
      exact ⟨h2.1, fun _ => q1, fun _ => .inr q1⟩
    · have n1 : coL a ts = 0 := by
        rcases Nat.eq_zero_or_pos (coL a ts) with z | z
        · exact z
        · exact absurd (h2.2.1 z) q2
      have n2 : cuL a ts = 0 := by
        rcases Nat.eq_zero_or_pos (cuL a ts) with z | z
        · exact z
        · rcases h2.2.2 z with z | z
          · omega
          · exact absurd z q2
      rw [n1, n2, Nat.add_zero, Nat.add_zero]
      exact ⟨h1.1, fun _ => q1, fun _ => .inr q1⟩
  · have n1 : t.co a = 0 := by
      rcases Nat.eq_zero_or_pos (t.co a) with z | z
      · exact z
      · exact absurd (h1.2.1 z) q1
    have n2 : coL a ts = 0 := by
      rcases Nat.eq_zero_or_pos (coL a ts) with z | z
      · exact z
      · exact absurd (c4 (h2.2.1 z)) q1
    rw [n1, n2]
    refine ⟨⟨by omega, .inl rfl⟩, fun z => absurd z (by omega), fun z => ?_⟩
    by_cases q : 0 < t.cu a
    · exact h1.2.2 q
    · rcases h2.2.2 (by omega) with z | z
      · exact .inl z
      · exact .inr (c4 z)
theorem new_node {k : Kd} (hk : k.isw = false) (x1 : Ex H H1) (hs : SatE K H env) (s1 : satL K H1 us) (o : OwnL H env us) (hp : H1 p = none) :
    Ex H1 (upd H1 p (k.ho (vals us))) ∧ (T.n k p us).sat K (upd H1 p (k.ho (vals us))) ∧ Own H env (.n k p us) := by
  have e := Evl.Ex.new (o := k.ho (vals us)) hp
  refine ⟨e, ⟨⟨upd_same, hk⟩, satL_ex e s1⟩, fun a => ?_⟩
  have h := o a
  have c1 : 0 < coL a us → H1 a ≠ none := fun z => coL_some us s1 z
  have c2 : 0 < cuL a us → H1 a ≠ none := fun z => cuL_some us s1 z
  have c4 : H1 a = none → H a = none := Evl.fresh_back x1
  rw [T.co, T.cu]
  by_cases q : p = a
  · subst q
    have n1 : coL p us = 0 := by
      rcases Nat.eq_zero_or_pos (coL p us) with z | z
      · exact z
      · exact absurd hp (c1 z)
    have n2 : cuL p us = 0 := by
      rcases Nat.eq_zero_or_pos (cuL p us) with z | z
      · exact z
      · exact absurd hp (c2 z)
    rw [n1, n2]
    refine ⟨?_, fun _ => c4 hp, fun _ => .inr (c4 hp)⟩
    cases k.own <;> simp
  · rw [if_neg (fun z => q z.2), if_neg (fun z => q z.2), Nat.zero_add, Nat.zero_add]
    exact h
end
section
variable {X : Cx} {m ma mb : PM} {ml : LM} {e a b : Expr} {es : List Expr} {pos : Pos}
theorem sba_nil : SBA X [] lNil := PA.weak pa_nil fun σ H Q ⟨env, d, hm, r, s, k⟩ => by
  cases hm
  exact k [] H rfl (Evl.Ex.refl H) trivial ownL_nil.bor
theorem spa_nil : SPA X [] lNil := PA.weak pa_nil fun σ H Q ⟨env, d, hm, r, s, k⟩ => by
  cases hm
  exact k [] H rfl (Evl.Ex.refl H) trivial ownL_nil
theorem sba_cons (ha : SB X e m) (hr : SBA X es ml) (hs : starEach (e :: es) X.env = (false, eval e X.env) :: starEach es X.env := by rfl) : SBA X (e :: es) (lCons m ml) := PA.weak (pa_cons ha hr hs) fun σ H Q ⟨env, d, hm, r, s, k⟩ => by
  obtain ⟨x, hx, hm⟩ := bind_some hm
  obtain ⟨ys, hy, rfl⟩ := map_some hm
  refine ⟨env, x, hx, r, s, fun t H1 e1 x1 s1 b1 => ⟨env, ys, hy, r, s.ex x1, fun ts H2 e2 x2 s2 b2 => ?_⟩⟩
  refine k (t :: ts) H2 (by rw [erL, e1, e2]) (x1.trans x2) ⟨sat_ex x2 s1, s2⟩ fun a => ?_
  have h1 := b1 a
  have h2 := (b2.back x1) a
  rw [coL, cuL]
  refine ⟨fun z => ?_, fun z => ?_⟩
  · by_cases q : 0 < t.co a
    · exact h1.1 q
    · exact h2.1 (by omega)
  · by_cases q : 0 < t.cu a
    · exact h1.2 q
    · exact h2.2 (by omega)
theorem spa_cons (ha : SP X e m) (hr : SPA X es ml) (hs : starEach (e :: es) X.env = (false, eval e X.env) :: starEach es X.env := by rfl) : SPA X (e :: es) (lCons m ml) := PA.weak (pa_cons ha hr hs) fun σ H Q ⟨env, d, hm, r, s, k⟩ => by
  obtain ⟨x, hx, hm⟩ := bind_some hm
  obtain ⟨ys, hy, rfl⟩ := map_some hm
  refine ⟨env, x, hx, r, s, fun t H1 e1 x1 s1 b1 => ⟨env, ys, hy, r, s.ex x1, fun ts H2 e2 x2 s2 b2 => ?_⟩⟩
  exact k (t :: ts) H2 (by rw [erL, e1, e2]) (x1.trans x2) ⟨sat_ex x2 s1, s2⟩ (OwnL.cons x1 s s1 b1 b2)


@[simp] def mk (k : Kd) (m : LM) : PM := fun env => (m env).bind fun ds => if ds.length ≤ 16777216 then some (.n k ds) else none
theorem len_er {ts : List T} {ds : List D} (h : erL ts = ds) : ts.length = ds.length := by rw [← h, erL_length]
theorem sizeLine_le {n : Nat} (h : n ≤ 16777216) : n ≤ sizeLine := by rw [sizeLine_eq]; exact h
theorem mk_some {k : Kd} {m : LM} {env : Env} {d : D} (h : mk k m env = some d) : ∃ ds, m env = some ds ∧ ds.length ≤ 16777216 ∧ d = .n k ds := by
  obtain ⟨ds, h1, h⟩ := bind_some h
  split at h
  · cases h
    exact ⟨ds, h1, by assumption, rfl⟩
  · cases h
theorem sp_lst (h : SPA X es ml) : SP X (.List es pos) (mk (.lst .o) ml) := PE.weak (pe_lst h) fun σ H Q ⟨env, d, hm, r, s, k⟩ => by
  obtain ⟨ds, h1, h2, rfl⟩ := mk_some hm
  refine ⟨env, ds, h1, r, s, fun ts H1 e1 x1 s1 o1 => ⟨sizeLine_le (by rw [List.length_map, len_er e1]; exact h2), fun p hp => ?_⟩⟩
  obtain ⟨x2, s2, o2⟩ := new_node (k := .lst .o) rfl x1 s s1 o1 hp
  exact k (.n (.lst .o) p ts) _ (by rw [T.er, e1]) (x1.trans x2) s2 o2
theorem sp_tup {x1} (h : SPA X es ml) : SP X (.Tuple es x1 pos) (mk .tup ml) := PE.weak (pe_tup h) fun σ H Q ⟨env, d, hm, r, s, k⟩ => by
  obtain ⟨ds, h1, h2, rfl⟩ := mk_some hm
  refine ⟨env, ds, h1, r, s, fun ts H1 e1 x1 s1 o1 => ⟨sizeLine_le (by rw [List.length_map, len_er e1]; exact h2), fun p hp => ?_⟩⟩
  obtain ⟨x2, s2, o2⟩ := new_node (k := .tup) rfl x1 s s1 o1 hp
  exact k (.n .tup p ts) _ (by rw [T.er, e1]) (x1.trans x2) s2 o2


def OpN (K : PySem.W.Frag) (r : List V → Hp → VK → Prop) (f : List D → Option V) : Prop := ∀ (ts : List T) (v : V) (H : Hp) (Q : VK), satL K H ts → f (erL ts) = some v → Q v H → r (vals ts) H Q
@[simp] def mCall (f : List D → Option V) (m : LM) : PM := fun env => (m env).bind fun ds => (f ds).bind sv
theorem rdN1 {ta : TA} {r : List V → Hp → VK → Prop} {f : List D → Option V} {K : PySem.W.Frag} {σ : L2.St} {H : Hp} {Q : VK} (ho : OpN K r f) (h : trP K (mCall f ml) σ H Q) : tCB r (trBA K ml) σ H Q := by
  obtain ⟨env, d, hm, hr, hs, k⟩ := h
  obtain ⟨xs, hx, hm⟩ := bind_some hm
  obtain ⟨v, hv, hm⟩ := bind_some hm
  obtain ⟨s1, rfl⟩ := sv_some hm
  refine ⟨env, xs, hx, hr, hs, fun ts H1 e1 x1 s2 _ => ?_⟩
  subst e1
  exact ho ts v H1 Q s2 hv (k (.s v) H1 (by rw [T.er, hid_scl s1]) x1 trivial own_s)
def OpNL (K : PySem.W.Frag) (r : List V → Hp → VK → Prop) (f : List D → Option (List D)) : Prop := ∀ (ts : List T) (ds : List D) (H : Hp) (Q : VK), satL K H ts → f (erL ts) = some ds →
  (∀ us p, erL us = ds → satL K H us → (∀ a, 0 < coL a us → 0 < coL a ts) → (∀ a, 0 < cuL a us → 0 < cuL a ts) → H p = none → Q (.ref p) (upd H p (.lst (vals us)))) → r (vals ts) H Q
@[simp] def mCallL (f : List D → Option (List D)) (m : LM) : PM := fun env => (m env).bind fun ds => (f ds).bind fun rs => if pureL rs = true then some (.n (.lst .o) rs) else none
theorem rdNL {r : List V → Hp → VK → Prop} {f : List D → Option (List D)} {K : PySem.W.Frag} {σ : L2.St} {H : Hp} {Q : VK} (ho : OpNL K r f) (h : trP K (mCallL f ml) σ H Q) : tCB r (trBA K ml) σ H Q := by
  obtain ⟨env, d, hm, hr, hs, k⟩ := h
  obtain ⟨xs, hx, hm⟩ := bind_some hm
  obtain ⟨rs, hv, hm⟩ := bind_some hm
  split at hm
  · rename_i hp
    cases hm
    refine ⟨env, xs, hx, hr, hs, fun ts H1 e1 x1 s2 b1 => ?_⟩
    subst e1
    refine ho ts rs H1 Q s2 hv fun us p e2 s3 c1 c2 hn => ?_
    have b2 : BorL H env us := fun a => ⟨fun z => (b1 a).1 (c1 a z), fun z => (b1 a).2 (c2 a z)⟩
    obtain ⟨x2, s4, o2⟩ := new_node (k := .lst .o) rfl x1 hs s3 (b2.own (by rw [e2]; exact hp)) hn
    exact k (.n (.lst .o) p us) _ (by rw [T.er, e2]) (x1.trans x2) s4 o2
  · cases hm
theorem sp_callB {x : Str} {p : Pos} {id : String} {r : List V → Hp → VK → Prop} {f : List D → Option V} (hc : CallR X (.builtin id) r) (hf : OpN X.K r f) (hv : bootBuiltins x = some (.builtin id)) (hm : X.mg x = none) (ha : SBA X (e :: es) ml) (hg : Gl X x := by rfl)
    (hn : x ≠ "__name__" := by decide) (hdb : (x == ("__debug__" : Str)) = false := by decide) (he : starEach (e :: es) X.env = (false, eval e X.env) :: starEach es X.env := by rfl) (hpl : (backTo pos (starEach es X.env)).any (·.1) = false := by rfl) :
    SP X (.Call (.Name x p) (e :: es) [] pos) (mCall f ml) := PE.weak (pe_callB hc hg hm hv ha hn hdb he hpl) fun σ H Q h => rdN1 (ta := trBA X.K ml) hf h
theorem sp_callTyL {x : Str} {p : Pos} {id : String} {r : List V → Hp → VK → Prop} {f : List D → Option (List D)} (hc : CallR X (.type id) r) (hf : OpNL X.K r f) (hv : bootBuiltins x = some (.type id)) (hm : X.mg x = none) (ha : SBA X (e :: es) ml) (hg : Gl X x := by rfl)
    (hn : x ≠ "__name__" := by decide) (hdb : (x == ("__debug__" : Str)) = false := by decide) (he : starEach (e :: es) X.env = (false, eval e X.env) :: starEach es X.env := by rfl) (hpl : (backTo pos (starEach es X.env)).any (·.1) = false := by rfl) :
    SP X (.Call (.Name x p) (e :: es) [] pos) (mCallL f ml) := PE.weak (pe_callTy hc hg hm hv ha hn hdb he hpl) fun σ H Q h => rdNL hf h


@[simp] def intsD : List D → Option (List Int)
  | [] => some []
  | .s (.int i) :: ds => (intsD ds).map (i :: ·)
  | _ => none
@[simp] def boolsD : List D → Option (List Bool)
  | [] => some []
  | .s (.bl i) :: ds => (boolsD ds).map (i :: ·)
  | _ => none
theorem intsD_of : ∀ {ts : List T} {ns : List Int}, intsD (erL ts) = some ns → ts = ns.map fun i => T.s (.int i)
  | [], ns, h => by
    rw [erL, intsD] at h
    cases h; rfl
  | t :: ts, ns, h => by
    rw [erL] at h
    unfold intsD at h
    split at h
    · rename_i e; cases e
    · rename_i i ds e
      injection e with e1 e2
      subst e2
      obtain ⟨ms, h1, rfl⟩ := map_some h
      rw [List.map_cons, ← intsD_of h1, ← er_int e1]
    · cases h
theorem boolsD_of : ∀ {ts : List T} {ns : List Bool}, boolsD (erL ts) = some ns → ts = ns.map fun i => T.s (.bl i)
  | [], ns, h => by
    rw [erL, boolsD] at h
    cases h; rfl
  | t :: ts, ns, h => by
    rw [erL] at h
    unfold boolsD at h
    split at h
    · rename_i e; cases e
    · rename_i i ds e
      injection e with e1 e2
      subst e2
      obtain ⟨ms, h1, rfl⟩ := map_some h
      rw [List.map_cons, ← boolsD_of h1, ← er_scl e1 rfl]
    · cases h
theorem vals_ints (ns : List Int) : vals (ns.map fun i => T.s (.int i)) = ns.map V.int := by
  rw [vals, List.map_map]
  rfl
theorem vals_bools (ns : List Bool) : vals (ns.map fun i => T.s (.bl i)) = ns.map V.bl := by
  rw [vals, List.map_map]
  rfl
theorem one_er {ts : List T} {d : D} (h : erL ts = [d]) : ∃ t, ts = [t] ∧ t.er = d := by
  match ts, h with
  | [t], h =>
    rw [erL, erL] at h
    cases h
    exact ⟨t, rfl, rfl⟩
theorem two_er {ts : List T} {d c : D} (h : erL ts = [d, c]) : ∃ t u, ts = [t, u] ∧ t.er = d ∧ u.er = c := by
  match ts, h with
  | [t, u], h =>
    rw [erL, erL, erL] at h
    cases h
    exact ⟨t, u, rfl, rfl, rfl⟩
def li : List D → Option (List Int)
  | [.n (.lst _) ds] => intsD ds
  | _ => none
@[simp] theorem li_c0 {ds : List D} {o : Fl} : li [.n (.lst o) ds] = intsD ds := rfl
def lb : List D → Option (List Bool)
  | [.n (.lst _) ds] => boolsD ds
  | _ => none
@[simp] theorem lb_c0 {ds : List D} {o : Fl} : lb [.n (.lst o) ds] = boolsD ds := rfl
theorem li_of {K : PySem.W.Frag} {H : Hp} {ts : List T} {ns : List Int} (hs : satL K H ts) (h : li (erL ts) = some ns) : ∃ a, vals ts = [.ref a] ∧ SqL K H a (ns.map V.int) := by
  unfold li at h
  split at h
  · rename_i o ds e
    obtain ⟨t, rfl, e1⟩ := one_er e
    obtain ⟨a, us, e2, e3, e4, _⟩ := rdL hs.1 e1
    rw [← e3] at h
    refine ⟨a, by rw [vals, List.map_cons, e2]; rfl, ?_⟩
    rw [intsD_of h, vals_ints] at e4
    exact e4
  · cases h
theorem lb_of {K : PySem.W.Frag} {H : Hp} {ts : List T} {ns : List Bool} (hs : satL K H ts) (h : lb (erL ts) = some ns) : ∃ a, vals ts = [.ref a] ∧ SqL K H a (ns.map V.bl) := by
  unfold lb at h
  split at h
  · rename_i o ds e
    obtain ⟨t, rfl, e1⟩ := one_er e
    obtain ⟨a, us, e2, e3, e4, _⟩ := rdL hs.1 e1
    rw [← e3] at h
    refine ⟨a, by rw [vals, List.map_cons, e2]; rfl, ?_⟩
    rw [boolsD_of h, vals_bools] at e4
    exact e4
  · cases h
def fLen : List D → Option V
  | [.n (.lst _) ds] => some (.int ds.length)
  | [.n .tup ds] => some (.int ds.length)
  | [.n .ktp ds] => some (.int ds.length)
  | _ => none
@[simp] theorem fLen_c0 {ds : List D} {o : Fl} : fLen [.n (.lst o) ds] = some (.int ds.length) := rfl
@[simp] theorem fLen_c1 {ds : List D} : fLen [.n .tup ds] = some (.int ds.length) := rfl
@[simp] def fSum (ds : List D) : Option V := (li ds).map fun ns => .int ns.sum
@[simp] def fMaxL (ds : List D) : Option V := (li ds).bind fun ns => ns.max?.map .int
@[simp] def fMinL (ds : List D) : Option V := (li ds).bind fun ns => ns.min?.map .int
@[simp] def fAny (ds : List D) : Option V := (lb ds).map fun ns => .bl (ns.any id)
@[simp] def fAll (ds : List D) : Option V := (lb ds).map fun ns => .bl (ns.all id)
def fAbs : List D → Option V
  | [.s (.int i)] => some (.int (if i < 0 then -i else i))
  | _ => none
@[simp] theorem fAbs_c0 {i : Int} : fAbs [.s (.int i)] = some (.int (if i < 0 then -i else i)) := rfl
def fMax2 : List D → Option V
  | [.s (.int i), .s (.int j)] => some (.int (if j > i then j else i))
  | _ => none
@[simp] theorem fMax2_c0 {i : Int} {j : Int} : fMax2 [.s (.int i), .s (.int j)] = some (.int (if j > i then j else i)) := rfl
def fMin2 : List D → Option V
  | [.s (.int i), .s (.int j)] => some (.int (if j < i then j else i))
  | _ => none
@[simp] theorem fMin2_c0 {i : Int} {j : Int} : fMin2 [.s (.int i), .s (.int j)] = some (.int (if j < i then j else i)) := rfl
def fInt1 : List D → Option V
  | [.s (.int i)] => some (.int i)
  | [.s (.bl b)] => some (.int (if b then 1 else 0))
  | _ => none
@[simp] theorem fInt1_c0 {i : Int} : fInt1 [.s (.int i)] = some (.int i) := rfl
@[simp] theorem fInt1_c1 {b : Bool} : fInt1 [.s (.bl b)] = some (.int (if b then 1 else 0)) := rfl
def fStr1 : List D → Option V
  | [.s (.int i)] => if i.natAbs.log2 < 1920 then some (.str (toString i)) else none
  | _ => none
section
variable {K : PySem.W.Frag}
theorem opn_len : OpN K (fun xs H Q => ∃ p ys, xs = [.ref p] ∧ (SqL K H p ys ∨ SqT K H p ys) ∧ Q (.int ys.length) H) fLen := fun ts v H Q hs h q => by
  unfold fLen at h
  split at h
  · rename_i o ds e
    cases h
    obtain ⟨t, rfl, e1⟩ := one_er e
    obtain ⟨a, us, e2, e3, e4, _⟩ := rdL hs.1 e1
    refine ⟨a, _, by rw [vals, List.map_cons, e2]; rfl, .inl e4, ?_⟩
    rw [List.length_map, len_er e3]
    exact q
  · rename_i ds e
    cases h
    obtain ⟨t, rfl, e1⟩ := one_er e
    obtain ⟨a, us, e2, e3, e4, _⟩ := rdT hs.1 e1
    refine ⟨a, _, by rw [vals, List.map_cons, e2]; rfl, .inr e4, ?_⟩
    rw [List.length_map, len_er e3]
    exact q
  · rename_i ds e
    cases h
    obtain ⟨t, rfl, e1⟩ := one_er e
    obtain ⟨a, us, e2, e3, e4, _⟩ := rdT hs.1 e1
    refine ⟨a, _, by rw [vals, List.map_cons, e2]; rfl, .inr e4, ?_⟩
    rw [List.length_map, len_er e3]
    exact q
  · cases h
theorem opn_sum : OpN K (rSum K) fSum := fun ts v H Q hs h q => by
  obtain ⟨ns, h1, rfl⟩ := map_some h
  obtain ⟨a, e1, e2⟩ := li_of hs h1
  exact ⟨a, ns, e1, e2, q⟩
theorem opn_min : OpN K (rMin K) fMinL := fun ts v H Q hs h q => by
  obtain ⟨ns, h1, h⟩ := bind_some h
  obtain ⟨z, h2, rfl⟩ := map_some h
  obtain ⟨a, e1, e2⟩ := li_of hs h1
  rw [List.min?_eq_some_iff] at h2
  refine ⟨a, ns, e1, e2, List.length_pos_of_mem h2.1, fun m hm hx => ?_⟩
  have : m = z := Int.le_antisymm (hx z h2.1) (h2.2 m hm)
  rw [this]
  exact q
theorem opn_all : OpN K (rAll K) fAll := fun ts v H Q hs h q => by
  obtain ⟨ns, h1, rfl⟩ := map_some h
  obtain ⟨a, e1, e2⟩ := lb_of hs h1
  exact ⟨a, ns, e1, e2, q⟩
def fList : List D → Option (List D)
  | [.n (.lst _) ds] => some ds
  | [.n .tup ds] => some ds
  | _ => none
@[simp] theorem fList_c0 {ds : List D} {o : Fl} : fList [.n (.lst o) ds] = some ds := rfl
@[simp] theorem fList_c1 {ds : List D} : fList [.n .tup ds] = some ds := rfl
theorem opnl_list : OpNL K (fun xs H Q => ∃ p ys, xs = [.ref p] ∧ (SqL K H p ys ∨ SqT K H p ys) ∧ ∀ l, H l = none → Q (.ref l) (upd H l (.lst ys))) fList := fun ts ds H Q hs h q => by
  unfold fList at h
  split at h
  · rename_i o ds' e
    cases h
    obtain ⟨t, rfl, e1⟩ := one_er e
    obtain ⟨a, us, e2, e3, e4, e5, e6, e7⟩ := rdL hs.1 e1
    refine ⟨a, _, by rw [vals, List.map_cons, e2]; rfl, .inl e4, fun p hp => q us p e3 e5 (fun b z => ?_) (fun b z => ?_) hp⟩
    · rw [coL]; have := e6 b; omega
    · rw [cuL]; have := e7 b; omega
  · rename_i ds' e
    cases h
    obtain ⟨t, rfl, e1⟩ := one_er e
    obtain ⟨a, us, e2, e3, e4, e5, e6, e7⟩ := rdT hs.1 e1
    refine ⟨a, _, by rw [vals, List.map_cons, e2]; rfl, .inr e4, fun p hp => q us p e3 e5 (fun b z => ?_) (fun b z => ?_) hp⟩
    · rw [coL]; have := e6 b; omega
    · rw [cuL]; have := e7 b; omega
  · cases h
end
end
end Ow

namespace Ow
open PySem L2


section
variable {K : PySem.W.Frag} {H H1 H' : Hp} {env : TEnv} {ts us : List T} {p : Addr}
theorem atI_map {α β : Type} (f : α → β) (xs : List α) (i : Int) : atI (xs.map f) i = (atI xs i).map f := by
  unfold atI
  rw [List.length_map]
  cases ixN xs.length i with
  | none => rfl
  | some j => exact List.getElem?_map ..
theorem atI_mem {α : Type} {xs : List α} {i : Int} {x : α} (h : atI xs i = some x) : x ∈ xs := by
  unfold atI at h
  obtain ⟨j, _, h⟩ := bind_some h
  exact List.mem_of_getElem? h
def cutG {α : Type} (xs : List α) (lo hi : Option Int) : List α := (xs.drop (HT.sIx xs.length 0 lo)).take (HT.sIx xs.length xs.length hi - HT.sIx xs.length 0 lo)
theorem cutG_map {α β : Type} (f : α → β) (xs : List α) (lo hi : Option Int) : cutG (xs.map f) lo hi = (cutG xs lo hi).map f := by
  unfold cutG
  rw [List.length_map, List.map_take, List.map_drop]
theorem cutV_vals (ts : List T) (lo hi : Option Int) : cutV (vals ts) lo hi = vals (cutG ts lo hi) := cutG_map T.val ts lo hi
theorem cutG_mem {α : Type} {xs : List α} {lo hi : Option Int} {x : α} (h : x ∈ cutG xs lo hi) : x ∈ xs := List.mem_of_mem_drop (List.mem_of_mem_take h)
def fItem (x y : D) : Option D := match x, y with
  | .n (.lst _) ds, .s (.int i) => atI ds i
  | .n .tup ds, .s (.int i) => atI ds i
  | .s (.str z), .s (.int i) => if z.length ≤ 16777216 then (atI z.cps.toList i).map fun c => .s (.str ⟨#[c]⟩) else none
  | _, _ => none
@[simp] theorem fItem_c0 {i : Int} {ds : List D} {o : Fl} : fItem (.n (.lst o) ds) (.s (.int i)) = atI ds i := rfl
@[simp] theorem fItem_c1 {i : Int} {ds : List D} : fItem (.n .tup ds) (.s (.int i)) = atI ds i := rfl
@[simp] def mItem (ma mb : PM) : PM := fun env => (ma env).bind fun x => (mb env).bind fun y => fItem x y
@[simp] def mPure (m : PM) : PM := fun env => (m env).bind fun d => if d.pure = true then some d else none
def rIt (K : PySem.W.Frag) : R2 := fun x y H Q => (rIxL K x y H Q ∨ rIxT K x y H Q) ∨ rIxS x y H Q
end
section
variable {X : Cx} {m ma mb : PM} {ml : LM} {e a b : Expr} {es : List Expr} {pos : Pos}
theorem ix_it : IxR X (rIt X.K) := (ix_list.or ix_tup).or ix_str
theorem sp_pure (h : SB X e m) : SP X e (mPure m) := PE.weak h fun σ H Q ⟨env, d, hm, r, s, k⟩ => by
  obtain ⟨x, hx, hm⟩ := bind_some hm
  split at hm
  · rename_i hp
    cases hm
    refine ⟨env, d, hx, r, s, fun t H1 e1 x1 s1 b1 => k t H1 e1 x1 s1 (b1.own ?_)⟩
    rw [e1]
    exact hp
  · cases hm
theorem sb_item (ha : SB X a ma) (hb : SB X b mb) (hs : PlainIx b := by exact fun _ _ => rfl) : SB X (.Subscript a b pos) (mItem ma mb) := PE.weak (pe_ix ix_it ha hb hs) fun σ H Q ⟨env, d, hm, r, s, k⟩ => by
  obtain ⟨x, hx, hm⟩ := bind_some hm
  obtain ⟨y, hy, hm⟩ := bind_some hm
  refine ⟨env, x, hx, r, s, fun t H1 e1 x1 s1 b1 => ⟨env, y, hy, r, s.ex x1, fun u H2 e2 x2 s2 b2 => ?_⟩⟩
  subst e1 e2
  unfold fItem at hm
  split at hm
  · rename_i o ds i e1 e2
    obtain ⟨a, ts, f1, f2, f3, f4, f5, f6⟩ := rdL (sat_ex x2 s1) e1
    rw [f1, er_int e2]
    rw [← f2, erL_map, atI_map] at hm
    obtain ⟨z, hz, rfl⟩ := map_some hm
    refine .inl (.inl ⟨a, _, i, z.val, rfl, rfl, f3, by rw [vals, atI_map, hz]; rfl, ?_⟩)
    have hz2 := atI_mem hz
    exact k z H2 rfl (x1.trans x2) (satL_iff.mp f4 z hz2) ((b1.sub f5 f6).mem hz2)
  · rename_i ds i e1 e2
    obtain ⟨a, ts, f1, f2, f3, f4, f5, f6⟩ := rdT (sat_ex x2 s1) e1
    rw [f1, er_int e2]
    rw [← f2, erL_map, atI_map] at hm
    obtain ⟨z, hz, rfl⟩ := map_some hm
    refine .inl (.inr ⟨a, _, i, z.val, rfl, rfl, f3, by rw [vals, atI_map, hz]; rfl, ?_⟩)
    have hz2 := atI_mem hz
    exact k z H2 rfl (x1.trans x2) (satL_iff.mp f4 z hz2) ((b1.sub f5 f6).mem hz2)
  · rename_i z i e1 e2
    split at hm
    · rename_i hl
      obtain ⟨c, hc, rfl⟩ := map_some hm
      rw [er_scl e1 rfl, er_int e2]
      exact .inr ⟨z, i, c, rfl, rfl, sizeLine_le hl, hc, k (.s (.str ⟨#[c]⟩)) H2 rfl (x1.trans x2) trivial own_s.bor⟩
    · cases hm
  · cases hm
theorem sp_item (ha : SB X a ma) (hb : SB X b mb) (hs : PlainIx b := by exact fun _ _ => rfl) : SP X (.Subscript a b pos) (mPure (mItem ma mb)) := sp_pure (sb_item ha hb hs)
def trO (K : PySem.W.Frag) (m : Env → Option (Option Int)) : TO := fun σ H Q => ∃ env o, m (erE env) = some o ∧ Rel σ env ∧ SatE K H env ∧ ∀ H', Ex H H' → Q o H'
def SO (X : Cx) (e : Option Expr) (m : Env → Option (Option Int)) : Prop := PO X e (trO X.K m)
theorem PO.weak {e : Option Expr} {t u : TO} (h : PO X e t) (w : ∀ σ H Q, u σ H Q → t σ H Q) : PO X e u := ⟨fun pins s σ H Q I z => h.run pins s σ H Q I (w σ H Q z)⟩
@[simp] def oNo : Env → Option (Option Int) := fun _ => some none
def toI : D → Option Int
  | .s (.int i) => some i
  | _ => none
@[simp] theorem toI_c0 {i : Int} : toI (.s (.int i)) = some i := rfl
theorem toI_some {d : D} {i : Int} (h : toI d = some i) : d = .s (.int i) := by
  unfold toI at h
  split at h
  · cases h; rfl
  · cases h
@[simp] def oYes (m : PM) : Env → Option (Option Int) := fun env => ((m env).bind toI).map some
theorem so_none : SO X none oNo := PO.weak po_none fun σ H Q ⟨env, d, hm, r, s, k⟩ => by
  cases hm
  exact k H (Evl.Ex.refl H)
theorem so_some (h : SB X e m) : SO X (some e) (oYes m) := PO.weak (po_some h) fun σ H Q ⟨env, d, hm, r, s, k⟩ => by
  obtain ⟨i, hi, rfl⟩ := map_some hm
  obtain ⟨x, hx, hi⟩ := bind_some hi
  refine ⟨env, x, hx, r, s, fun t H1 e1 x1 s1 b1 => ?_⟩
  subst e1
  rw [er_int (toI_some hi)]
  exact ⟨i, rfl, k H1 x1⟩
@[simp] def mSl (m : PM) (lo hi : Env → Option (Option Int)) : PM := fun env => (m env).bind fun x => (lo env).bind fun l => (hi env).bind fun h => match x with
  | .n (.lst _) ds => if pureL (cutG ds l h) = true then some (.n (.lst .o) (cutG ds l h)) else none
  | _ => none
theorem sp_slice {lo hi : Option Expr} {p2 : Pos} {ol oh : Env → Option (Option Int)} (ha : SB X a ma) (hl : SO X lo ol) (hh : SO X hi oh) : SP X (.Subscript a (.Slice lo hi none p2) pos) (mSl ma ol oh) := PE.weak (pe_slice sl_list ha hl hh) fun σ H Q ⟨env, d, hm, r, s, k⟩ => by
  obtain ⟨x, hx, hm⟩ := bind_some hm
  obtain ⟨l, hl, hm⟩ := bind_some hm
  obtain ⟨h, hh, hm⟩ := bind_some hm
  refine ⟨env, x, hx, r, s, fun t H1 e1 x1 s1 b1 => ⟨env, l, hl, r, s.ex x1, fun H2 x2 => ⟨env, h, hh, r, (s.ex x1).ex x2, fun H3 x3 => ?_⟩⟩⟩
  subst e1
  split at hm
  · rename_i o ds e1
    split at hm
    · rename_i hp
      cases hm
      obtain ⟨a, ts, f1, f2, f3, f4, f5, f6⟩ := rdL (sat_ex x3 (sat_ex x2 s1)) e1
      rw [f1]
      refine ⟨a, _, rfl, f3, fun p hn => ?_⟩
      rw [cutV_vals]
      have x4 := (x1.trans x2).trans x3
      have f7 : erL (cutG ts l h) = cutG ds l h := by rw [erL_map, ← cutG_map, ← erL_map, f2]
      have b2 : BorL H env (cutG ts l h) := (b1.sub f5 f6).subset fun u hu => cutG_mem hu
      obtain ⟨x5, s5, o5⟩ := new_node (k := .lst .o) rfl x4 s (satL_iff.mpr fun u hu => satL_iff.mp f4 u (cutG_mem hu)) (b2.own (by rw [f7]; exact hp)) hn
      exact k (.n (.lst .o) p (cutG ts l h)) _ (by rw [T.er, f7]) (x4.trans x5) s5 o5
    · cases hm
  · cases hm
@[simp] def nw : Fl → Bool
  | .w => false
  | _ => true
def fCat (x y : D) : Option (List D) := match x, y with
  | .n (.lst o) ds, .n (.lst o') es => if (nw o && nw o' && decide (ds.length + es.length ≤ 16777216)) = true then some (ds ++ es) else none
  | _, _ => none
@[simp] theorem fCat_c0 {ds : List D} {es : List D} {o : Fl} {o2 : Fl} : fCat (.n (.lst o) ds) (.n (.lst o2) es) = if (nw o && nw o2 && decide (ds.length + es.length ≤ 16777216)) = true then some (ds ++ es) else none := rfl
@[simp] def mCat (ma mb : PM) : PM := fun env => (ma env).bind fun x => (mb env).bind fun y => (fCat x y).bind fun rs => if pureL rs = true then some (.n (.lst .o) rs) else none
theorem nw_isw {o : Fl} (h : nw o = true) : (Kd.lst o).isw = false := by cases o <;> first | rfl | cases h
theorem erL_append (ts us : List T) : erL (ts ++ us) = erL ts ++ erL us := by rw [erL_map, erL_map, erL_map, List.map_append]
theorem cat_rd {K : PySem.W.Frag} {σ : L2.St} {H : Hp} {Q : VK} (h : trP K (mCat ma mb) σ H Q) : tOp rCat (trB K ma) (trB K mb) σ H Q := by
  obtain ⟨env, d, hm, r, s, k⟩ := h
  obtain ⟨x, hx, hm⟩ := bind_some hm
  obtain ⟨y, hy, hm⟩ := bind_some hm
  obtain ⟨rs, hr, hm⟩ := bind_some hm
  split at hm
  · rename_i hp
    cases hm
    refine ⟨env, x, hx, r, s, fun t H1 e1 x1 s1 b1 => ⟨env, y, hy, r, s.ex x1, fun u H2 e2 x2 s2 b2 => ?_⟩⟩
    subst e1 e2
    unfold fCat at hr
    split at hr
    · rename_i o ds o' es e1 e2
      split at hr
      · rename_i hc
        simp only [Bool.and_eq_true, decide_eq_true_eq] at hc
        cases hr
        obtain ⟨a, ts, f1, f2, f3, f4⟩ := rdN (sat_ex x2 s1) e1 (nw_isw hc.1.1) (by simp)
        obtain ⟨c, us, g1, g2, g3, g4⟩ := rdN s2 e2 (nw_isw hc.1.2) (by simp)
        subst f1 g1
        have x3 := x1.trans x2
        refine ⟨a, c, _, _, rfl, rfl, f3, g3, sizeLine_le (by rw [List.length_map, List.length_map, len_er f2, len_er g2]; exact hc.2), fun p hn => ?_⟩
        rw [← List.map_append]
        have c1 : BorL H env ts := b1.sub (fun b => by rw [T.co]; omega) (fun b => by rw [T.cu]; omega)
        have c2 : BorL H env us := (b2.back x1).sub (fun b => by rw [T.co]; omega) (fun b => by rw [T.cu]; omega)
        have c3 : BorL H env (ts ++ us) := fun z => by
          rw [coL_append, cuL_append]
          refine ⟨fun q => ?_, fun q => ?_⟩
          · by_cases w : 0 < coL z ts
            · exact (c1 z).1 w
            · exact (c2 z).1 (by omega)
          · by_cases w : 0 < cuL z ts
            · exact (c1 z).2 w
            · exact (c2 z).2 (by omega)
        have f7 : erL (ts ++ us) = ds ++ es := by rw [erL_append, f2, g2]
        obtain ⟨x5, s5, o5⟩ := new_node (k := .lst .o) rfl x3 s (satL_append.mpr ⟨f4, g4⟩) (c3.own (by rw [f7]; exact hp)) hn
        exact k (.n (.lst .o) p (ts ++ us)) _ (by rw [T.er, f7]) (x3.trans x5) s5 o5
      · cases hr
    · cases hr
  · cases hm
theorem sp_cat (ha : SB X a ma) (hb : SB X b mb) : SP X (.BinOp a .Add b pos) (mCat ma mb) := PE.weak (pe_op op_cat ha hb) fun σ H Q h => cat_rd h
def fRep (x y : D) : Option (List D) := match x, y with
  | .n (.lst o) ds, .s (.int n) => if (nw o && decide (-(2 ^ 63) ≤ n ∧ n < 2 ^ 63 ∧ ds.length * n.toNat ≤ 16777216)) = true then some (List.replicate n.toNat ds).flatten else none
  | _, _ => none
@[simp] theorem fRep_c0 {ds : List D} {o : Fl} {n : Int} : fRep (.n (.lst o) ds) (.s (.int n)) = if (nw o && decide (-(2 ^ 63) ≤ n ∧ n < 2 ^ 63 ∧ ds.length * n.toNat ≤ 16777216)) = true then some (List.replicate n.toNat ds).flatten else none := rfl
@[simp] def mRep (ma mb : PM) : PM := fun env => (ma env).bind fun x => (mb env).bind fun y => (fRep x y).bind fun rs => if pureL rs = true then some (.n (.lst .o) rs) else none
theorem sp_rep (ha : SB X a ma) (hb : SB X b mb) : SP X (.BinOp a .Mult b pos) (mRep ma mb) := PE.weak (pe_op op_rep ha hb) fun σ H Q ⟨env, d, hm, r, s, k⟩ => by
  obtain ⟨x, hx, hm⟩ := bind_some hm
  obtain ⟨y, hy, hm⟩ := bind_some hm
  obtain ⟨rs, hr, hm⟩ := bind_some hm
  split at hm
  · rename_i hp
    cases hm
    refine ⟨env, x, hx, r, s, fun t H1 e1 x1 s1 b1 => ⟨env, y, hy, r, s.ex x1, fun u H2 e2 x2 s2 b2 => ?_⟩⟩
    subst e1 e2
    unfold fRep at hr
    split at hr
    · rename_i o ds n e1 e2
      split at hr
      · rename_i hc
        simp only [Bool.and_eq_true, decide_eq_true_eq] at hc
        cases hr
        obtain ⟨a, ts, f1, f2, f3, f4⟩ := rdN (sat_ex x2 s1) e1 (nw_isw hc.1) (by simp)
        subst f1
        have x3 := x1.trans x2
        rw [er_int e2]
        refine ⟨a, n, _, rfl, rfl, f3, hc.2.1, hc.2.2.1, sizeLine_le (by rw [List.length_map, len_er f2]; exact hc.2.2.2), fun p hn => ?_⟩
        have ev : (List.replicate n.toNat (vals ts)).flatten = vals (List.replicate n.toNat ts).flatten := by
          rw [vals, vals, List.map_flatten, List.map_replicate]
        show Q (.ref p) (upd H2 p (.lst (List.replicate n.toNat (vals ts)).flatten))
        rw [ev]
        have c1 : BorL H env ts := b1.sub (fun b => by rw [T.co]; omega) (fun b => by rw [T.cu]; omega)
        have hsub : ∀ u ∈ (List.replicate n.toNat ts).flatten, u ∈ ts := fun u hu => by
          obtain ⟨l, hl, hu⟩ := List.mem_flatten.mp hu
          rw [List.eq_of_mem_replicate hl] at hu
          exact hu
        have f7 : erL (List.replicate n.toNat ts).flatten = (List.replicate n.toNat ds).flatten := by
          rw [erL_map, List.map_flatten, List.map_replicate, ← erL_map, f2]
        obtain ⟨x5, s5, o5⟩ := new_node (k := .lst .o) rfl x3 s (satL_iff.mpr fun u hu => satL_iff.mp f4 u (hsub u hu)) ((c1.subset hsub).own (by rw [f7]; exact hp)) hn
        exact k (.n (.lst .o) p _) _ (by rw [T.er, f7]) (x3.trans x5) s5 o5
      · cases hr
    · cases hr
  · cases hm
def rgD (a b : Int) : List D := (List.range (b - a).toNat).map fun (i : Nat) => D.s (.int (a + (i : Int)))
def trRg (K : PySem.W.Frag) (m : Env → Option (Int × Int)) : L2.St → Hp → (Int → Int → Hp → Prop) → Prop := fun σ H Q => ∃ env r, m (erE env) = some r ∧ Rel σ env ∧ SatE K H env ∧ ∀ H', Ex H H' → Q r.1 r.2 H'
@[simp] def rg1 (m : PM) : Env → Option (Int × Int) := fun env => ((m env).bind toI).map fun n => (0, n)
@[simp] def rg2 (m n : PM) : Env → Option (Int × Int) := fun env => ((m env).bind toI).bind fun i => ((n env).bind toI).map fun j => (i, j)
instance {a b : Int} : Decidable (RgOk a b) := by unfold RgOk; infer_instance
@[simp] def mRg (r : Env → Option (Int × Int)) : PM := fun env => (r env).bind fun x => if (decide (RgOk x.1 x.2)) = true then some (.n (.lst .o) (rgD x.1 x.2)) else none
end
section
variable {X : Cx} {m ma mb : PM} {ml : LM} {e a b : Expr} {es : List Expr} {pos p : Pos}
def SRg (X : Cx) (e : Expr) (m : Env → Option (Int × Int)) : Prop := PRg X e (trRg X.K m)
theorem srg_1 (hm : X.mg "range" = none) (ha : SB X a ma) (hg : Gl X "range" := by rfl) (na : starEach [a] X.env = (false, eval a X.env) :: starEach [] X.env := by rfl) : SRg X (.Call (.Name "range" p) [a] [] pos) (rg1 ma) := fun pins s σ H Q I h => by
  obtain ⟨env, x, hm', r, hs, k⟩ := h
  obtain ⟨n, hn, rfl⟩ := map_some hm'
  obtain ⟨d, hd, hn⟩ := bind_some hn
  refine prg_1 hg hm ha na pins s σ H Q I ⟨env, d, hd, r, hs, fun t H1 e1 x1 s1 b1 => ?_⟩
  subst e1
  rw [er_int (toI_some hn)]
  exact ⟨n, rfl, k H1 x1⟩
theorem rgV_vals (a b : Int) : rgV a b = vals ((List.range (b - a).toNat).map fun (i : Nat) => T.s (.int (a + (i : Int)))) := by
  rw [vals, List.map_map]
  rfl
theorem sp_listRg {mr : Env → Option (Int × Int)} (hc : X.calm = true) (hm : X.mg "list" = none) (h : SRg X e mr) (hg : Gl X "list" := by rfl) (hs : starEach [e] X.env = (false, eval e X.env) :: starEach [] X.env := by rfl) : SP X (.Call (.Name "list" p) [e] [] pos) (mRg mr) := PE.weak (pe_listRg hc hg hm h hs) fun σ H Q ⟨env, d, hm, r, s, k⟩ => by
  obtain ⟨x, hx, hm⟩ := bind_some hm
  split at hm
  · rename_i hok
    cases hm
    refine ⟨env, x, hx, r, s, fun H1 x1 => ⟨of_decide_eq_true hok, fun q hq => ?_⟩⟩
    rw [rgV_vals]
    have hown : OwnL H env ((List.range (x.2 - x.1).toNat).map fun (i : Nat) => T.s (.int (x.1 + (i : Int)))) := by
      have : BorL H env ((List.range (x.2 - x.1).toNat).map fun (i : Nat) => T.s (.int (x.1 + (i : Int)))) := by
        generalize List.range (x.2 - x.1).toNat = l
        induction l with
        | nil => exact ownL_nil.bor
        | cons z l ih =>
        intro a
        have := ih a
        rw [List.map_cons, coL, cuL, T.co, T.cu, Nat.zero_add, Nat.zero_add]
        exact this
      refine this.own ?_
      generalize List.range (x.2 - x.1).toNat = l
      induction l with
      | nil => rfl
      | cons z l ih => rw [List.map_cons, erL, pureL, ih]; rfl
    obtain ⟨x2, s2, o2⟩ := new_node (k := .lst .o) (us := (List.range (x.2 - x.1).toNat).map fun (i : Nat) => T.s (.int (x.1 + (i : Int)))) rfl x1 s (satL_iff.mpr fun u hu => by
      obtain ⟨i, _, rfl⟩ := List.mem_map.mp hu
      trivial) hown hq
    refine k (.n (.lst .o) q _) _ ?_ (x1.trans x2) s2 o2
    rw [T.er, erL_map, List.map_map]
    rfl
  · cases hm
end
end Ow

namespace Ow
open PySem L2


inductive Tg where
  | nm (j : Nat)
  | tp (gs : List Tg)
mutual
def gOf (K : PySem.W.Frag) : Tg → TG
  | .nm j => gName j
  | .tp gs => gTup K gs.length (gsOf K gs)
def gsOf (K : PySem.W.Frag) : List Tg → TGs
  | [] => gNil
  | g :: gs => gCons (gOf K g) (gsOf K gs)
end
mutual
def bD : Tg → D → Env → Option Env
  | .nm j, d, env => some (env.set j (some d))
  | .tp gs, .n .tup ds, env => if ds.length = gs.length then bDs gs ds env else none
  | .tp _, _, _ => none
def bDs : List Tg → List D → Env → Option Env
  | [], [], env => some env
  | g :: gs, d :: ds, env => (bD g d env).bind fun env' => bDs gs ds env'
  | _, _, _ => none
end
mutual
@[simp] def Tg.sl : Tg → List Nat
  | .nm j => [j]
  | .tp gs => slL gs
@[simp] def slL : List Tg → List Nat
  | [] => []
  | g :: gs => g.sl ++ slL gs
end
theorem bD_tp {gs : List Tg} {d : D} {env e' : Env} (h : bD (.tp gs) d env = some e') : ∃ ds, d = .n .tup ds ∧ ds.length = gs.length ∧ bDs gs ds env = some e' := by
  match d, h with
  | .n .tup ds, h =>
    rw [bD] at h
    split at h
    · exact ⟨ds, rfl, by assumption, h⟩
    · cases h
  | .s _, h => simp [bD] at h
  | .n (.lst _) _, h => simp [bD] at h
  | .n (.dic _ _) _, h => simp [bD] at h
  | .n (.dct _ _) _, h => simp [bD] at h
structure Bnd (K : PySem.W.Frag) (H : Hp) (σ : L2.St) (env : TEnv) (c u : Addr → Nat) (sl : List Nat) (e' : Env) (σ' : L2.St) (env' : TEnv) : Prop where
  er : erE env' = e'
  rel : Rel σ' env'
  len : σ'.length = σ.length
  out : ∀ i, i ∉ sl → σ'[i]? = σ[i]? ∧ env'[i]? = env[i]?
  co : ∀ a, coE a env' ≤ c a + coE a env
  cu : ∀ a, cuE a env' ≤ u a + cuE a env
  sat : ∀ t, some t ∈ env' → some t ∈ env ∨ t.sat K H
section
variable {K : PySem.W.Frag} {H : Hp}
theorem set_co {env : TEnv} {j : Nat} {t : T} {a : Addr} : coE a (env.set j (some t)) ≤ t.co a + coE a env := by
  cases h : env[j]? with
  | none =>
    rw [List.getElem?_eq_none_iff] at h
    rw [List.set_eq_of_length_le h]; omega
  | some x =>
    have := coE_set (a := a) (some t) h
    have e : oT (T.co a) (some t) = t.co a := rfl
    omega
theorem set_cu {env : TEnv} {j : Nat} {t : T} {a : Addr} : cuE a (env.set j (some t)) ≤ t.cu a + cuE a env := by
  cases h : env[j]? with
  | none =>
    rw [List.getElem?_eq_none_iff] at h
    rw [List.set_eq_of_length_le h]; omega
  | some x =>
    have := cuE_set (a := a) (some t) h
    have e : oT (T.cu a) (some t) = t.cu a := rfl
    omega
mutual
theorem g_run : ∀ (g : Tg) (t : T) (σ : L2.St) (env : TEnv) (e' : Env) (Q : L2.St → Hp → Prop), Rel σ env → t.sat K H → bD g t.er (erE env) = some e' →
    (∀ σ' env', Bnd K H σ env (fun a => t.co a) (fun a => t.cu a) g.sl e' σ' env' → Q σ' H) → gOf K g t.val σ H Q
  | .nm j, t, σ, env, e', Q, r, s, h, k => by
    rw [bD] at h
    cases h
    rw [gOf]
    refine k (σ.set j (some t.val)) (env.set j (some t)) ⟨erE_set, r.set, List.length_set, fun i hi => ?_, fun a => set_co, fun a => set_cu, fun u hu => ?_⟩
    · have e : j ≠ i := fun z => hi (by rw [Tg.sl, z]; simp)
      rw [List.getElem?_set, if_neg e, List.getElem?_set, if_neg e]
      exact ⟨rfl, rfl⟩
    · rcases List.mem_or_eq_of_mem_set hu with q | q
      · exact .inl q
      · cases q
        exact .inr s
  | .tp gs, t, σ, env, e', Q, r, s, h, k => by
    obtain ⟨ds, he, hl, h⟩ := bD_tp h
    obtain ⟨a, ts, f1, f2, f3, f4, f5, f6⟩ := rdT s he
    rw [gOf, f1]
    rw [← f2] at h hl
    refine ⟨a, vals ts, rfl, f3, by rw [List.length_map, ← erL_length, hl], gs_run gs ts σ env e' Q r f4 h fun σ' env' b => ?_⟩
    exact k σ' env' ⟨b.er, b.rel, b.len, b.out, fun z => Nat.le_trans (b.co z) (Nat.add_le_add_right (f5 z) _), fun z => Nat.le_trans (b.cu z) (Nat.add_le_add_right (f6 z) _), b.sat⟩
  termination_by g => sizeOf g
  decreasing_by all_goals (simp_wf <;> omega)
theorem gs_run : ∀ (gs : List Tg) (ts : List T) (σ : L2.St) (env : TEnv) (e' : Env) (Q : L2.St → Hp → Prop), Rel σ env → satL K H ts → bDs gs (erL ts) (erE env) = some e' →
    (∀ σ' env', Bnd K H σ env (fun a => coL a ts) (fun a => cuL a ts) (slL gs) e' σ' env' → Q σ' H) → gsOf K gs (vals ts) σ H Q
  | [], [], σ, env, e', Q, r, s, h, k => by
    rw [erL, bDs] at h
    cases h
    rw [gsOf]
    exact ⟨rfl, k σ env ⟨rfl, r, rfl, fun _ _ => ⟨rfl, rfl⟩, fun a => by rw [coL]; omega, fun a => by rw [cuL]; omega, fun t ht => .inl ht⟩⟩
  | [], t :: ts, σ, env, e', Q, r, s, h, k => by simp [erL, bDs] at h
  | g :: gs, [], σ, env, e', Q, r, s, h, k => by simp [erL, bDs] at h
  | g :: gs, t :: ts, σ, env, e', Q, r, s, h, k => by
    rw [erL, bDs] at h
    obtain ⟨e1, h1, h2⟩ := bind_some h
    rw [gsOf]
    refine ⟨t.val, vals ts, rfl, g_run g t σ env e1 _ r s.1 h1 fun σ1 env1 b1 => ?_⟩
    refine gs_run gs ts σ1 env1 e' Q b1.rel s.2 (by rw [b1.er]; exact h2) fun σ2 env2 b2 => ?_
    refine k σ2 env2 ⟨b2.er, b2.rel, b2.len.trans b1.len, fun i hi => ?_, fun a => ?_, fun a => ?_, fun u hu => ?_⟩
    · rw [slL, List.mem_append] at hi
      have x1 := b1.out i (fun z => hi (.inl z))
      have x2 := b2.out i (fun z => hi (.inr z))
      exact ⟨x2.1.trans x1.1, x2.2.trans x1.2⟩
    · have x1 := b1.co a
      have x2 := b2.co a
      rw [coL]; omega
    · have x1 := b1.cu a
      have x2 := b2.cu a
      rw [cuL]; omega
    · rcases b2.sat u hu with q | q
      · exact b1.sat u q
      · exact .inr q
  termination_by gs => sizeOf gs
  decreasing_by all_goals (simp_wf <;> omega)
end
end
def SG (X : Cx) (tg : Expr) (g : Tg) : Prop := PG X tg (gOf X.K g)
def SGs (X : Cx) (ts : List Expr) (gs : List Tg) : Prop := PGs X ts (gsOf X.K gs)
section
variable {X : Cx} {pos : Pos} {e : Expr} {es : List Expr}
theorem sg_name {x : Str} (j : Nat) (hN : X.N.Nodup) (hi : X.N[j]? = some x := by rfl) (hx : Loc X.env.scope x := by first | exact .inl rfl | exact .inr rfl) (hf : X.fn x = true ∨ X.env.scope.names.lookup x = some .local := by first | exact .inl rfl | exact .inr rfl | assumption) :
    SG X (.Name x pos) (.nm j) := by
  unfold SG
  rw [gOf]
  exact pg_name hN hi hx hf
theorem sg_tup {k : Nat} {gs : List Tg} (hc : X.calm = true) (h : SGs X es gs) (hn : (assignEach es X.env).length = gs.length := by rfl) (hst : (assignEach es X.env).findIdx? (·.1) = none := by rfl) : SG X (.Tuple es k pos) (.tp gs) := by
  unfold SG
  rw [gOf]
  exact pg_tup hc h hn hst
theorem sgs_nil : SGs X [] [] := by
  unfold SGs
  rw [gsOf]
  exact pgs_nil
theorem sgs_cons {g : Tg} {gs : List Tg} (h1 : SG X e g) (h2 : SGs X es gs) (hs : (assignEach (e :: es) X.env).map (·.2) = assign e X.env :: (assignEach es X.env).map (·.2) := by rfl) : SGs X (e :: es) (g :: gs) := by
  unfold SGs
  rw [gsOf]
  exact pgs_cons h1 h2 hs
end


structure Wk (K : PySem.W.Frag) (J : It) (src : List T) (ds : List D) : Prop where
  stop : ∀ i H, satL K H src → ds.length ≤ i → J.stop i H
  go : ∀ i H, satL K H src → i < ds.length → J.go i H
  yld : ∀ i H x H', satL K H src → J.yld i H x H' → ∀ d, ds[i]? = some d → ∃ t : T, t.val = x ∧ t.er = d ∧ Ex H H' ∧ t.sat K H' ∧ (∀ a, 0 < t.co a → 0 < coL a src) ∧ (∀ a, 0 < t.cu a → 0 < cuL a src ∨ H a = none)
def trI (K : PySem.W.Frag) (m : LM) : TI := fun σ H R => ∃ env ds, m (erE env) = some ds ∧ Rel σ env ∧ SatE K H env ∧ ∀ J src H1, Ex H H1 → satL K H1 src → BorL H env src → Wk K J src ds → R J H1
def trJ (K : PySem.W.Frag) (m : LM) : TI := fun σ H R => ∃ env ds, m (erE env) = some ds ∧ Rel σ env ∧ SatE K H env ∧ ∀ J src H1, Ex H H1 → satL K H1 src → OwnL H env src → Wk K J src ds → R J H1
def SI (X : Cx) (tg e : Expr) (m : LM) : Prop := PI X tg e (trI X.K m)
def SJ (X : Cx) (tg e : Expr) (m : LM) : Prop := PI X tg e (trJ X.K m)
theorem PI.weak {X : Cx} {tg e : Expr} {t u : TI} (h : PI X tg e t) (w : ∀ σ H Q, u σ H Q → t σ H Q) : PI X tg e u := ⟨fun pins s σ H Q I z => h.run pins s σ H Q I (w σ H Q z)⟩
def asL : D → Option (List D)
  | .n (.lst _) ds => some ds
  | _ => none
@[simp] theorem asL_c0 {ds : List D} {o : Fl} : asL (.n (.lst o) ds) = some ds := rfl
def asT : D → Option (List D)
  | .n .tup ds => some ds
  | .n .ktp ds => some ds
  | _ => none
@[simp] theorem asT_c0 {ds : List D} : asT (.n .tup ds) = some ds := rfl
theorem asL_some {d : D} {ds : List D} (h : asL d = some ds) : ∃ o, d = .n (.lst o) ds := by
  unfold asL at h
  split at h
  · cases h; exact ⟨_, rfl⟩
  · cases h
theorem asT_some {d : D} {ds : List D} (h : asT d = some ds) : ∃ kd, d = .n kd ds ∧ (kd = .tup ∨ kd = .ktp) := by
  unfold asT at h
  split at h
  · cases h; exact ⟨_, rfl, .inl rfl⟩
  · cases h; exact ⟨_, rfl, .inr rfl⟩
  · cases h
section
variable {K : PySem.W.Frag}
theorem er_at {ts : List T} {ds : List D} {i : Nat} {d : D} (e : erL ts = ds) (h : ds[i]? = some d) : ∃ t, ts[i]? = some t ∧ t.er = d := by
  rw [← e, erL_map, List.getElem?_map] at h
  obtain ⟨t, h1, h2⟩ := map_some h
  exact ⟨t, h1, h2⟩
def T.kids : T → List T
  | .s _ => []
  | .n _ _ ts => ts
  | .w _ _ _ ts => ts
theorem rdLk {t : T} {H : Hp} {o : Fl} {ds : List D} (hs : t.sat K H) (he : t.er = .n (.lst o) ds) : ∃ a, t.val = .ref a ∧ erL t.kids = ds ∧ SqL K H a (vals t.kids) ∧ satL K H t.kids ∧ (∀ b, coL b t.kids ≤ t.co b) ∧ (∀ b, cuL b t.kids ≤ t.cu b) := by
  cases t with
  | s v => rw [T.er] at he; cases he
  | n k a ts =>
    rw [T.er] at he
    cases he
    exact ⟨a, rfl, rfl, .inl (.inl hs.1.1), hs.2, fun b => by rw [T.co, T.kids]; omega, fun b => by rw [T.cu, T.kids]; omega⟩
  | w z k a ts =>
    rw [T.er] at he
    cases k with
    | lst o' =>
      cases he
      refine ⟨a, rfl, rfl, ?_, hs.2, fun b => by rw [T.co, T.kids]; omega, fun b => by rw [T.cu, T.kids]; omega⟩
      cases z with
      | true => exact sql_up hs.1
      | false => exact .inl (.inr hs.1.2)
    | tup => cases he
    | ktp => cases he
    | dic _ _ => cases he
    | dct _ _ => cases he
theorem rdTk {kd : Kd} {t : T} {H : Hp} {ds : List D} (hs : t.sat K H) (he : t.er = .n kd ds) (hk : kd = .tup ∨ kd = .ktp := by first | exact .inl rfl | exact .inr rfl) : ∃ a, t.val = .ref a ∧ erL t.kids = ds ∧ SqT K H a (vals t.kids) ∧ satL K H t.kids ∧ (∀ b, coL b t.kids ≤ t.co b) ∧ (∀ b, cuL b t.kids ≤ t.cu b) := by
  cases t with
  | s v => rw [T.er] at he; cases he
  | n k a ts =>
    rw [T.er] at he
    cases he
    have hh : H a = some (.tup (vals ts)) := by
      rcases hk with rfl | rfl
      · exact hs.1.1
      · exact hs.1.1
    exact ⟨a, rfl, rfl, .inl (.inl hh), hs.2, fun b => by rw [T.co, T.kids]; omega, fun b => by rw [T.cu, T.kids]; omega⟩
  | w z k a ts =>
    rw [T.er] at he
    cases k with
    | tup =>
      cases he
      refine ⟨a, rfl, rfl, ?_, hs.2, fun b => by rw [T.co, T.kids]; omega, fun b => by rw [T.cu, T.kids]; omega⟩
      cases z with
      | true => exact hs.1.elim
      | false => exact .inl (.inr hs.1.2)
    | ktp =>
      cases he
      refine ⟨a, rfl, rfl, ?_, hs.2, fun b => by rw [T.co, T.kids]; omega, fun b => by rw [T.cu, T.kids]; omega⟩
      cases z with
      | true => exact sqt_up hs.1.1
      | false => exact absurd rfl hs.1.1
    | lst _ => cases he; rcases hk with z | z <;> cases z
    | dic _ _ => cases he; rcases hk with z | z <;> cases z
    | dct _ _ => cases he; rcases hk with z | z <;> cases z
theorem sat_at {H : Hp} {ts : List T} {i : Nat} {t : T} (h : satL K H ts) (g : ts[i]? = some t) : t.sat K H := satL_iff.mp h t (List.mem_of_getElem? g)
theorem vals_at {ts : List T} {i : Nat} {t : T} (g : ts[i]? = some t) : (vals ts)[i]? = some t.val := by rw [vals, List.getElem?_map, g]; rfl
theorem co1 {t : T} {a : Addr} : coL a [t] = t.co a := by rw [coL, coL, Nat.add_zero]
theorem cu1 {t : T} {a : Addr} : cuL a [t] = t.cu a := by rw [cuL, cuL, Nat.add_zero]
theorem wk_list {t : T} {H0 : Hp} {o : Fl} {ds : List D} (hs0 : t.sat K H0) (e : t.er = .n (.lst o) ds) : ∃ a, t.val = .ref a ∧ SqL K H0 a (vals t.kids) ∧ Wk K (Itl K a) [t] ds := by
  obtain ⟨a, f1, f2, f3, _, f5, f6⟩ := rdLk hs0 e
  have key : ∀ H, satL K H [t] → SqL K H a (vals t.kids) ∧ satL K H t.kids := fun H hs => by
    obtain ⟨a', g1, g2, g3, g4, _⟩ := rdLk hs.1 e
    rw [f1] at g1
    cases g1
    exact ⟨g3, g4⟩
  have hl : ds.length = (vals t.kids).length := by rw [List.length_map, len_er f2]
  refine ⟨a, f1, f3, fun i H hs hi => ⟨_, (key H hs).1, by rw [← hl]; exact hi⟩, fun i H hs hi => ?_, fun i H x H' hs y d hd => ?_⟩
  · obtain ⟨u, hu, _⟩ := er_at f2 (List.getElem?_eq_getElem hi)
    exact ⟨_, u.val, (key H hs).1, vals_at hu⟩
  · obtain ⟨rfl, y⟩ := y
    obtain ⟨u, hu, he⟩ := er_at f2 hd
    have q := y _ (key _ hs).1
    rw [vals_at hu] at q
    cases q
    have hm := List.mem_of_getElem? hu
    refine ⟨u, rfl, he, Evl.Ex.refl _, sat_at (key _ hs).2 hu, fun b hb => ?_, fun b hb => .inl ?_⟩
    · rw [co1]; exact Nat.lt_of_lt_of_le hb (Nat.le_trans (coL_mem hm) (f5 b))
    · rw [cu1]; exact Nat.lt_of_lt_of_le hb (Nat.le_trans (cuL_mem hm) (f6 b))
theorem wk_tup {t : T} {H0 : Hp} {ds : List D} {kd : Kd} (hs0 : t.sat K H0) (e : t.er = .n kd ds) (hk : kd = .tup ∨ kd = .ktp := by first | exact .inl rfl | exact .inr rfl) : ∃ a, t.val = .ref a ∧ SqT K H0 a (vals t.kids) ∧ Wk K (Itt K a) [t] ds := by
  obtain ⟨a, f1, f2, f3, _, f5, f6⟩ := rdTk hs0 e hk
  have key : ∀ H, satL K H [t] → SqT K H a (vals t.kids) ∧ satL K H t.kids := fun H hs => by
    obtain ⟨a', g1, g2, g3, g4, _⟩ := rdTk hs.1 e hk
    rw [f1] at g1
    cases g1
    exact ⟨g3, g4⟩
  have hl : ds.length = (vals t.kids).length := by rw [List.length_map, len_er f2]
  refine ⟨a, f1, f3, fun i H hs hi => ⟨_, (key H hs).1, by rw [← hl]; exact hi⟩, fun i H hs hi => ?_, fun i H x H' hs y d hd => ?_⟩
  · obtain ⟨u, hu, _⟩ := er_at f2 (List.getElem?_eq_getElem hi)
    exact ⟨_, u.val, (key H hs).1, vals_at hu⟩
  · obtain ⟨rfl, y⟩ := y
    obtain ⟨u, hu, he⟩ := er_at f2 hd
    have q := y _ (key _ hs).1
    rw [vals_at hu] at q
    cases q
    have hm := List.mem_of_getElem? hu
    refine ⟨u, rfl, he, Evl.Ex.refl _, sat_at (key _ hs).2 hu, fun b hb => ?_, fun b hb => .inl ?_⟩
    · rw [co1]; exact Nat.lt_of_lt_of_le hb (Nat.le_trans (coL_mem hm) (f5 b))
    · rw [cu1]; exact Nat.lt_of_lt_of_le hb (Nat.le_trans (cuL_mem hm) (f6 b))
def rgDn (lo : Int) (n : Nat) : List D := (List.range n).map fun (i : Nat) => D.s (.int (lo + (i : Int)))
theorem wk_range {lo : Int} {n : Nat} : Wk K (Itr lo n) [] (rgDn lo n) := by
  have hl : (rgDn lo n).length = n := by rw [rgDn, List.length_map, List.length_range]
  refine ⟨fun i H _ hi => by rw [hl] at hi; exact hi, fun i H _ hi => by rw [hl] at hi; exact hi, fun i H x H' _ y d hd => ?_⟩
  obtain ⟨rfl, rfl⟩ := y
  rw [rgDn, List.getElem?_map] at hd
  obtain ⟨j, h1, rfl⟩ := map_some hd
  have hj : j = i := by
    obtain ⟨hi, e⟩ := List.getElem?_eq_some_iff.mp h1
    rw [List.getElem_range] at e
    exact e.symm
  subst hj
  exact ⟨.s (.int (lo + (j : Int))), rfl, rfl, Evl.Ex.refl _, trivial, fun b hb => by rw [T.co] at hb; omega, fun b hb => by rw [T.cu] at hb; omega⟩
theorem pair_new {H : Hp} {p : Addr} {t u : T} (hp : H p = none) (s1 : t.sat K H) (s2 : u.sat K H) : Ex H (upd H p (.tup [t.val, u.val])) ∧ (T.n .tup p [t, u]).sat K (upd H p (.tup [t.val, u.val])) := by
  have e : Ex H (upd H p (.tup [t.val, u.val])) := Evl.Ex.new hp
  exact ⟨e, ⟨upd_same, rfl⟩, sat_ex e s1, sat_ex e s2, trivial⟩
def enD : Nat → List D → List D
  | _, [] => []
  | i, d :: ds => .n .tup [.s (.int (i : Int)), d] :: enD (i + 1) ds
theorem enD_at : ∀ {ds : List D} {k i : Nat} {d : D}, (enD k ds)[i]? = some d → ∃ c, ds[i]? = some c ∧ d = .n .tup [.s (.int ((k + i : Nat) : Int)), c]
  | [], _, _, _, h => by simp [enD] at h
  | c :: ds, k, 0, d, h => by
    rw [enD] at h
    exact ⟨c, rfl, (Option.some.inj h).symm⟩
  | c :: ds, k, i + 1, d, h => by
    rw [enD, List.getElem?_cons_succ] at h
    obtain ⟨c', h1, h2⟩ := enD_at h
    refine ⟨c', h1, ?_⟩
    rw [h2, show k + 1 + i = k + (i + 1) by omega]
theorem enD_len : ∀ {ds : List D} {k : Nat}, (enD k ds).length = ds.length
  | [], _ => rfl
  | d :: ds, k => by rw [enD, List.length_cons, enD_len, List.length_cons]
theorem wk_enum {t : T} {H0 : Hp} {o : Fl} {ds : List D} (hs0 : t.sat K H0) (e : t.er = .n (.lst o) ds) : ∃ a, t.val = .ref a ∧ SqL K H0 a (vals t.kids) ∧ Wk K (Ite K a) [t] (enD 0 ds) := by
  obtain ⟨a, f1, f2, f3, _, f5, f6⟩ := rdLk hs0 e
  have key : ∀ H, satL K H [t] → SqL K H a (vals t.kids) ∧ satL K H t.kids := fun H hs => by
    obtain ⟨a', g1, g2, g3, g4, _⟩ := rdLk hs.1 e
    rw [f1] at g1
    cases g1
    exact ⟨g3, g4⟩
  have hl : ds.length = (vals t.kids).length := by rw [List.length_map, len_er f2]
  refine ⟨a, f1, f3, fun i H hs hi => ⟨_, (key H hs).1, by rw [← hl]; rw [enD_len] at hi; exact hi⟩, fun i H hs hi => ?_, fun i H x H' hs y d hd => ?_⟩
  · rw [enD_len] at hi
    obtain ⟨u, hu, _⟩ := er_at f2 (List.getElem?_eq_getElem hi)
    exact ⟨_, u.val, (key H hs).1, vals_at hu⟩
  · obtain ⟨p, x1, rfl, hp, rfl, z1⟩ := y
    obtain ⟨c, hc, rfl⟩ := enD_at hd
    obtain ⟨u, hu, he⟩ := er_at f2 hc
    have q := z1 _ (key _ hs).1
    rw [vals_at hu] at q
    cases q
    obtain ⟨x3, s3⟩ := pair_new (K := K) (t := .s (.int ((i : Nat) : Int))) hp trivial (sat_at (key _ hs).2 hu)
    have m1 := List.mem_of_getElem? hu
    refine ⟨.n .tup p [.s (.int ((i : Nat) : Int)), u], rfl, ?_, x3, s3, fun c hc => ?_, fun c hc => ?_⟩
    · rw [T.er, erL, erL, erL, he, T.er, Nat.zero_add]
      rfl
    · have n1 := Nat.le_trans (coL_mem (a := c) m1) (f5 c)
      simp only [T.co, coL, Kd.own, Bool.false_eq_true, false_and, if_false] at hc ⊢
      omega
    · have n1 := Nat.le_trans (cuL_mem (a := c) m1) (f6 c)
      by_cases q : p = c
      · subst q
        exact .inr hp
      · simp only [T.cu, cuL, q, and_false, if_false] at hc ⊢
        exact .inl (by omega)
end
end Ow

namespace Ow
open PySem L2

section
variable {X : Cx} {tg e a b : Expr} {es : List Expr} {m ma mb : PM} {ml : LM} {pos p tpos : Pos}
theorem bor1 {H : Hp} {env : TEnv} {t : T} (h : Bor H env t) : BorL H env [t] := fun a => by rw [co1, cu1]; exact h a
theorem own1 {H : Hp} {env : TEnv} {t : T} (h : Own H env t) : OwnL H env [t] := fun a => by rw [co1, cu1]; exact h a
@[simp] def wL (m : PM) : LM := fun env => (m env).bind asL
@[simp] def wT (m : PM) : LM := fun env => (m env).bind asT
theorem si_list (h : SB X e m) : SI X tg e (wL m) := PI.weak (pi_list h) fun σ H R ⟨env, ds, hm, r, s, k⟩ => by
  obtain ⟨d, hd, h1⟩ := bind_some hm
  obtain ⟨o, rfl⟩ := asL_some h1
  refine ⟨env, _, hd, r, s, fun t H1 e1 x1 s1 b1 => ?_⟩
  obtain ⟨a, f1, f2, w⟩ := wk_list s1 e1
  exact ⟨a, f1, ⟨_, f2⟩, k _ [t] H1 x1 ⟨s1, trivial⟩ (bor1 b1) w⟩
theorem sj_list (h : SP X e m) : SJ X tg e (wL m) := PI.weak (pi_list h) fun σ H R ⟨env, ds, hm, r, s, k⟩ => by
  obtain ⟨d, hd, h1⟩ := bind_some hm
  obtain ⟨o, rfl⟩ := asL_some h1
  refine ⟨env, _, hd, r, s, fun t H1 e1 x1 s1 b1 => ?_⟩
  obtain ⟨a, f1, f2, w⟩ := wk_list s1 e1
  exact ⟨a, f1, ⟨_, f2⟩, k _ [t] H1 x1 ⟨s1, trivial⟩ (own1 b1) w⟩
theorem si_tup (h : SB X e m) : SI X tg e (wT m) := PI.weak (pi_tup h) fun σ H R ⟨env, ds, hm, r, s, k⟩ => by
  obtain ⟨d, hd, h1⟩ := bind_some hm
  obtain ⟨kd, h2, hk⟩ := asT_some h1
  subst h2
  refine ⟨env, _, hd, r, s, fun t H1 e1 x1 s1 b1 => ?_⟩
  obtain ⟨a, f1, f2, w⟩ := wk_tup s1 e1 hk
  exact ⟨a, f1, ⟨_, f2⟩, k _ [t] H1 x1 ⟨s1, trivial⟩ (bor1 b1) w⟩
@[simp] def wR (m : Env → Option (Int × Int)) : LM := fun env => (m env).bind fun r => if (decide (RgOk r.1 r.2)) = true then some (rgDn r.1 (r.2 - r.1).toNat) else none
@[simp] def a1 (m : PM) : LM := lCons m lNil
@[simp] def a2 (m n : PM) : LM := lCons m (lCons n lNil)
theorem i1_of {ts : List T} {d : D} {i : Int} (h : erL ts = [d]) (hi : toI d = some i) : vals ts = [.int i] := by
  obtain ⟨t, rfl, e⟩ := one_er h
  rw [toI_some hi] at e
  rw [er_int e]; rfl
theorem wk_weak_range {K : PySem.W.Frag} {lo hi : Int} {n : Nat} (h : n = (hi - lo).toNat) : Wk K (Itr lo n) [] (rgDn lo (hi - lo).toNat) := by
  rw [← h]; exact wk_range
theorem range1_rd {K : PySem.W.Frag} {σ : L2.St} {H : Hp} {R : It → Hp → Prop} {own : Bool} (env : TEnv) (ds : List D) (hm : wR (rg1 ma) (erE env) = some ds) (r : Rel σ env) (s : SatE K H env)
    (k : ∀ J H1, Ex H H1 → Wk K J [] ds → R J H1) : iRng1 (trBA K (lCons ma lNil)) σ H R := by
  obtain ⟨x, hx, hm⟩ := bind_some hm
  obtain ⟨n, hn, rfl⟩ := map_some hx
  obtain ⟨d, hd, hn⟩ := bind_some hn
  split at hm
  · rename_i hok
    have hok := of_decide_eq_true hok
    cases hm
    refine ⟨env, [d], ?_, r, s, fun ts H1 e1 x1 s1 b1 => ⟨n, i1_of e1 hn, hok.2.2.1, hok.2.2.2.1, k _ H1 x1 (wk_weak_range (by simp))⟩⟩
    rw [lCons, hd]; rfl
  · cases hm
theorem si_range1 (hm : X.mg "range" = none) (ha : SB X a ma) (hg : Gl X "range" := by rfl) (hp : starEach [a] X.env = (false, eval a X.env) :: starEach [] X.env := by rfl) (hs : starEach [a] X.env = [(false, eval a X.env)] := by rfl) : SI X tg (.Call (.Name "range" p) [a] [] pos) (wR (rg1 ma)) :=
  PI.weak (pi_range1 hg hm (sba_cons ha sba_nil hp) hs) fun σ H R ⟨env, ds, hm, r, s, k⟩ => range1_rd (own := true) env ds hm r s fun J H1 x1 w => k J [] H1 x1 trivial ownL_nil.bor w
theorem sj_range1 (hm : X.mg "range" = none) (ha : SB X a ma) (hg : Gl X "range" := by rfl) (hp : starEach [a] X.env = (false, eval a X.env) :: starEach [] X.env := by rfl) (hs : starEach [a] X.env = [(false, eval a X.env)] := by rfl) : SJ X tg (.Call (.Name "range" p) [a] [] pos) (wR (rg1 ma)) :=
  PI.weak (pi_range1 hg hm (sba_cons ha sba_nil hp) hs) fun σ H R ⟨env, ds, hm, r, s, k⟩ => range1_rd (own := true) env ds hm r s fun J H1 x1 w => k J [] H1 x1 trivial ownL_nil w
@[simp] def wZ (m n : PM) : LM := fun env => (m env).bind fun x => (n env).bind fun y => (asL x).bind fun ds => (asL y).map fun es => List.zipWith (fun x y => D.n .tup [x, y]) ds es
@[simp] def wE (m : PM) : LM := fun env => (m env).bind fun x => (asL x).map (enD 0)
theorem sj_enum {elts : List Expr} {kk : Nat} (hm : X.mg "enumerate" = none) (ha : SP X a ma) (hg : Gl X "enumerate" := by rfl) (hp : starEach [a] X.env = (false, eval a X.env) :: starEach [] X.env := by rfl) (hs : starEach [a] X.env = [(false, eval a X.env)] := by rfl) :
    SJ X (.Tuple elts kk tpos) (.Call (.Name "enumerate" p) [a] [] pos) (wE ma) :=
  PI.weak (pi_enum hg hm (spa_cons ha spa_nil hp) hs) fun σ H R ⟨env, ds, hm, r, s, k⟩ => by
    obtain ⟨x, hx, hm⟩ := bind_some hm
    obtain ⟨xs, h1, rfl⟩ := map_some hm
    obtain ⟨o, rfl⟩ := asL_some h1
    refine ⟨env, [_], by rw [lCons, hx]; rfl, r, s, fun ts H1 e1 x1 s1 b1 => ?_⟩
    obtain ⟨t, rfl, et⟩ := one_er e1
    obtain ⟨a, f1, f2, w⟩ := wk_enum s1.1 et
    exact ⟨a, _, by rw [vals, List.map_cons, f1]; rfl, f2, k _ [t] H1 x1 s1 b1 w⟩
end


@[simp] def wipeD (env : Env) : List Nat → Env
  | [] => env
  | v :: vs => (wipeD env vs).set v none
def wipeT (env : TEnv) : List Nat → TEnv
  | [] => env
  | v :: vs => (wipeT env vs).set v none
def lcD (g : Tg) (mt : BM) (me : PM) (e0 : Env) : List D → Option (List D)
  | [] => some []
  | d :: ds => (bD g d e0).bind fun e1 => (mt e1).bind fun b => if b = true then (me e1).bind fun r => (lcD g mt me e0 ds).map (r :: ·) else lcD g mt me e0 ds
@[simp] def mLc (mi : LM) (g : Tg) (mt : BM) (me : PM) (vs : List Nat) : PM := fun env => (mi env).bind fun ds => if ds.length ≤ 16777216 then (lcD g mt me (wipeD env vs) ds).map fun rs => .n (.lst .o) rs else none
@[simp] def bYes : BM := fun _ => some true
section
variable {K : PySem.W.Frag} {H H1 H' : Hp} {σ : L2.St} {env : TEnv}
theorem wipe_er : ∀ vs : List Nat, erE (wipeT env vs) = wipeD (erE env) vs
  | [] => rfl
  | v :: vs => by rw [wipeT, erE_set, wipe_er vs]; rfl
theorem wipe_rel (r : Rel σ env) : ∀ vs : List Nat, Rel (wipe σ vs) (wipeT env vs)
  | [] => r
  | v :: vs => by
    have ih := wipe_rel r vs
    refine ⟨by rw [wipeT, wipe, List.length_set, List.length_set, ih.1], fun j u h => ?_⟩
    rw [wipeT, List.getElem?_set] at h
    rw [wipe, List.getElem?_set]
    by_cases e : v = j
    · subst e
      rw [if_pos rfl] at h
      split at h <;> cases h
    · rw [if_neg e] at h ⊢
      exact ih.2 j u h
theorem wipe_sat (s : SatE K H env) : ∀ vs : List Nat, SatE K H (wipeT env vs)
  | [] => s
  | v :: vs => SatE.set (wipe_sat s vs) fun t h => by cases h
theorem none_cu {j : Nat} {a : Addr} : cuE a (env.set j none) ≤ cuE a env := by
  cases h : env[j]? with
  | none =>
    rw [List.getElem?_eq_none_iff] at h
    rw [List.set_eq_of_length_le h]; omega
  | some x =>
    have := cuE_set (a := a) none h
    have e : oT (T.cu a) none = 0 := rfl
    omega
theorem wipe_cu {a : Addr} : ∀ vs : List Nat, cuE a (wipeT env vs) ≤ cuE a env
  | [] => Nat.le_refl _
  | v :: vs => Nat.le_trans none_cu (wipe_cu vs)
theorem wipe_at {σ : L2.St} {i : Nat} : ∀ {vs : List Nat}, i ∈ vs → i < σ.length → (wipe σ vs)[i]? = some none
  | v :: vs, h, hl => by
    rw [wipe, List.getElem?_set]
    by_cases e : v = i
    · rw [if_pos e, if_pos (by rw [wipe_length]; omega)]
    · rw [if_neg e]
      rcases List.mem_cons.mp h with q | q
      · exact absurd q.symm e
      · exact wipe_at q hl
theorem wipe_out {σ : L2.St} {i : Nat} : ∀ {vs : List Nat}, i ∉ vs → (wipe σ vs)[i]? = σ[i]?
  | [], _ => rfl
  | v :: vs, h => by
    rw [wipe, List.getElem?_set, if_neg (fun z => h (by rw [z]; exact List.mem_cons_self ..))]
    exact wipe_out fun z => h (List.mem_cons_of_mem _ z)
theorem wipe_same {σ σ2 : L2.St} {vs sl : List Nat} (hl : σ2.length = (wipe σ vs).length) (ho : ∀ i, i ∉ sl → σ2[i]? = (wipe σ vs)[i]?) (hs : ∀ i ∈ sl, i ∈ vs) : wipe σ2 vs = wipe σ vs := by
  apply List.ext_getElem?
  intro i
  by_cases h : i ∈ vs
  · by_cases l : i < σ.length
    · rw [wipe_at h l, wipe_at h (by rw [hl, wipe_length]; exact l)]
    · rw [List.getElem?_eq_none (by rw [wipe_length, hl, wipe_length]; omega), List.getElem?_eq_none (by rw [wipe_length]; omega)]
  · rw [wipe_out h, ho i fun z => h (hs i z)]
theorem OwnL.snoc {eS : TEnv} {acc : List T} {t : T} (x1 : Ex H H1) (hs : SatE K H eS) (s1 : satL K H1 acc) (o1 : OwnL H eS acc) (s2 : t.sat K H') (o2 : Own H1 eS t) : OwnL H eS (acc ++ [t]) := fun a => by
  have h1 := o1 a
  have h2 := o2 a
  have c1 : 0 < coL a acc → H1 a ≠ none := fun z => coL_some acc s1 z
  have c2 : 0 < cuL a acc → H1 a ≠ none := fun z => cuL_some acc s1 z
  have c3 : 0 < cuE a eS → H a ≠ none := fun z => cuE_some hs z
  have c4 : H1 a = none → H a = none := Evl.fresh_back x1
  rw [coL_append, cuL_append, co1, cu1]
  by_cases q1 : H a = none
  · have n3 : cuE a eS = 0 := by
      rcases Nat.eq_zero_or_pos (cuE a eS) with z | z
      · exact z
      · exact absurd q1 (c3 z)
    by_cases q2 : H1 a = none
    · have n1 : coL a acc = 0 := by
        rcases Nat.eq_zero_or_pos (coL a acc) with z | z
        · exact z
        · exact absurd q2 (c1 z)
      have n2 : cuL a acc = 0 := by
        rcases Nat.eq_zero_or_pos (cuL a acc) with z | z
        · exact z
        · exact absurd q2 (c2 z)
      rw [n1, n2, Nat.zero_add, Nat.zero_add]
      exact ⟨h2.1, fun _ => q1, fun _ => .inr q1⟩
    · have n1 : t.co a = 0 := by
        rcases Nat.eq_zero_or_pos (t.co a) with z | z
        · exact z
        · exact absurd (h2.2.1 z) q2
      have n2 : t.cu a = 0 := by
        rcases Nat.eq_zero_or_pos (t.cu a) with z | z
        · exact z
        · rcases h2.2.2 z with z | z
          · omega
          · exact absurd z q2
      rw [n1, n2, Nat.add_zero, Nat.add_zero]
      exact ⟨h1.1, fun _ => q1, fun _ => .inr q1⟩
  · have n1 : coL a acc = 0 := by
      rcases Nat.eq_zero_or_pos (coL a acc) with z | z
      · exact z
      · exact absurd (h1.2.1 z) q1
    have n2 : t.co a = 0 := by
      rcases Nat.eq_zero_or_pos (t.co a) with z | z
      · exact z
      · exact absurd (c4 (h2.2.1 z)) q1
    rw [n1, n2]
    refine ⟨⟨by omega, .inl rfl⟩, fun z => absurd z (by omega), fun z => ?_⟩
    by_cases q : 0 < cuL a acc
    · exact h1.2.2 q
    · rcases h2.2.2 (by omega) with z | z
      · exact .inl z
      · exact .inr (c4 z)
theorem cuE_app {a : Addr} : ∀ {e1 e2 : TEnv}, cuE a (e1 ++ e2) = cuE a e1 + cuE a e2
  | [], e2 => by rw [List.nil_append, cuE, Nat.zero_add]
  | o :: e1, e2 => by rw [List.cons_append, cuE, cuE, cuE_app (e1 := e1)]; omega
theorem cuE_some_map {a : Addr} : ∀ {ts : List T}, cuE a (ts.map some) = cuL a ts
  | [] => rfl
  | t :: ts => by rw [List.map_cons, cuE, cuL, cuE_some_map (ts := ts)]; rfl
theorem lcD_drop {g : Tg} {mt : BM} {me : PM} {e0 : Env} {ds : List D} {i : Nat} {d : D} {r : List D} (hd : ds[i]? = some d) (h : lcD g mt me e0 (ds.drop i) = some r) :
    ∃ e1 b, bD g d e0 = some e1 ∧ mt e1 = some b ∧ ((b = true ∧ ∃ z r', me e1 = some z ∧ lcD g mt me e0 (ds.drop (i + 1)) = some r' ∧ r = z :: r') ∨ (b = false ∧ lcD g mt me e0 (ds.drop (i + 1)) = some r)) := by
  obtain ⟨hi, e⟩ := List.getElem?_eq_some_iff.mp hd
  rw [List.drop_eq_getElem_cons hi, e, lcD] at h
  obtain ⟨e1, h1, h⟩ := bind_some h
  obtain ⟨b, h2, h⟩ := bind_some h
  refine ⟨e1, b, h1, h2, ?_⟩
  cases b with
  | true =>
    rw [if_pos rfl] at h
    obtain ⟨z, h3, h⟩ := bind_some h
    obtain ⟨r', h4, rfl⟩ := map_some h
    exact .inl ⟨rfl, z, r', h3, h4, rfl⟩
  | false =>
    rw [if_neg Bool.false_ne_true] at h
    exact .inr ⟨rfl, h⟩
structure LcW (K : PySem.W.Frag) (H H1 : Hp) (Dl : Addr) (env eS : TEnv) (src : List T) (g : Tg) (mt : BM) (me : PM) (e0 : Env) (ds rs : List D) (i m : Nat) (H' : Hp) : Prop where
  le : i ≤ ds.length
  ms : m = ds.length - i
  ex : Ex H1 H'
  acc : ∃ acc : List T, H' Dl = some (.lst (vals acc)) ∧ satL K H' acc ∧ OwnL H1 eS acc ∧ coL Dl acc = 0 ∧ cuL Dl acc = 0 ∧ acc.length ≤ i ∧ ∃ r, lcD g mt me e0 (ds.drop i) = some r ∧ rs = erL acc ++ r
end
section
variable {X : Cx} {elt tg iter : Expr} {ifs : List Expr} {scope : Scope} {own : List (Str × Nat)} {pos : Pos} {mi : LM} {g : Tg} {mt : BM} {me : PM}
def STs (X : Cx) (ifs : List Expr) (m : BM) : Prop := PTs X ifs (trT X.K m)
theorem PTs.weak {X : Cx} {ifs : List Expr} {t u : TT} (h : PTs X ifs t) (w : ∀ σ H Q, u σ H Q → t σ H Q) : PTs X ifs u := ⟨fun pins s σ H Q I z => h.run pins s σ H Q I (w σ H Q z)⟩
theorem sts_nil : STs X [] bYes := PTs.weak pts_nil fun σ H Q ⟨env, b, hm, r, s, k⟩ => by
  cases hm
  exact k H (Evl.Ex.refl H)
theorem sts_one {c : Expr} {m : BM} (h : ST X c m) : STs X [c] m := pts_one h
theorem lc_rd {K : PySem.W.Frag} {σ : L2.St} {H : Hp} {Q : VK} {vs : List Nat} (hsl : ∀ i ∈ g.sl, i ∈ vs) (h : trP K (mLc mi g mt me vs) σ H Q) : tLc (trI K mi) (gOf K g) (trT K mt) (trP K me) vs σ H Q := by
  obtain ⟨env, d, hm, r, s, k⟩ := h
  obtain ⟨ds, hi, hm⟩ := bind_some hm
  split at hm
  case isFalse => cases hm
  rename_i hlen
  obtain ⟨rs, hrs, rfl⟩ := map_some hm
  refine ⟨env, ds, hi, r, s, fun J src H1 x1 ss bs w Dl hD => ?_⟩
  rw [← wipe_er] at hrs
  let eS : TEnv := wipeT env vs ++ src.map some
  have satS : SatE K H1 eS := fun t ht => by
    rcases List.mem_append.mp ht with q | q
    · exact (wipe_sat (s.ex x1) vs) t q
    · obtain ⟨u, hu, e⟩ := List.mem_map.mp q
      cases e
      exact satL_iff.mp ss _ hu
  refine ⟨LcW K H H1 Dl env eS src g mt me (erE (wipeT env vs)) ds rs, ⟨ds.length, ?_⟩, fun i m H2 W => ?_⟩
  · exact ⟨Nat.zero_le _, rfl, Evl.Ex.new hD, [], upd_same, trivial, ownL_nil, rfl, rfl, Nat.le_refl _, rs, hrs, rfl⟩
  obtain ⟨le, ms, ex, acc, hacc, sacc, oacc, n1, n2, lacc, rr, hrr, ers⟩ := W
  have ss2 : satL K H2 src := satL_ex ex ss
  by_cases hi2 : i < ds.length
  · refine .inr ⟨w.go i H2 ss2 hi2, fun H' => ∃ m', m' < m ∧ LcW K H H1 Dl env eS src g mt me (erE (wipeT env vs)) ds rs (i + 1) m' H', fun H' h => h, fun x H3 hy => ?_⟩
    have hd := List.getElem?_eq_getElem hi2
    obtain ⟨t, rfl, et, x3, s3, c3, u3⟩ := w.yld i H2 x H3 ss2 hy _ hd
    obtain ⟨e1, b, hb1, hb2, hb3⟩ := lcD_drop hd hrr
    rw [← et] at hb1
    have sw : SatE K H3 (wipeT env vs) := (wipe_sat ((s.ex x1).ex ex) vs).ex x3
    refine g_run g t (wipe σ vs) (wipeT env vs) e1 _ (wipe_rel r vs) s3 hb1 fun σ2 env2 B => ?_
    refine ⟨wipe_same B.len (fun i hi => (B.out i hi).1) hsl, ?_⟩
    have s2 : SatE K H3 env2 := fun u hu => by
      rcases B.sat u hu with q | q
      · exact sw u q
      · exact q
    have hl3 : H3 Dl = some (.lst (vals acc)) := x3 Dl _ hacc
    refine ⟨env2, b, by rw [B.er]; exact hb2, B.rel, s2, fun H4 x4 => ?_⟩
    have hl4 : H4 Dl = some (.lst (vals acc)) := x4 Dl _ hl3
    have ex4 : Ex H1 H4 := (ex.trans x3).trans x4
    rcases hb3 with ⟨rfl, z, r', hz, hr', rfl⟩ | ⟨rfl, hr'⟩
    · dsimp only
      rw [if_pos rfl]
      refine ⟨env2, z, by rw [B.er]; exact hz, B.rel, s2.ex x4, fun u H5 eu x5 s5 o5 => ?_⟩
      have hl5 : H5 Dl = some (.lst (vals acc)) := x5 Dl _ hl4
      refine ⟨vals acc, hl5, Nat.lt_of_lt_of_le (by rw [List.length_map]; omega) (sizeLine_le hlen), m - 1, by omega, ?_⟩
      have ex5 : Ex H1 H5 := ex4.trans x5
      have ex25 : Ex H2 H5 := (x3.trans x4).trans x5
      have sacc5 : satL K H5 acc := satL_ex ex25 sacc
      have ou : Own H2 eS u := fun a => by
        have h := o5 a
        refine ⟨h.1, fun q => Evl.fresh_back (x3.trans x4) (h.2.1 q), fun q => ?_⟩
        rcases h.2.2 q with q | q
        · have c := B.cu a
          by_cases q2 : 0 < cuE a (wipeT env vs)
          · exact .inl (by show 0 < cuE a (wipeT env vs ++ src.map some); rw [cuE_app]; omega)
          · rcases u3 a (by omega) with z | z
            · exact .inl (by show 0 < cuE a (wipeT env vs ++ src.map some); rw [cuE_app, cuE_some_map]; omega)
            · exact .inr z
        · exact .inr (Evl.fresh_back (x3.trans x4) q)
      have hn : H2 Dl ≠ none := by rw [hacc]; exact fun z => by cases z
      have u1 : u.co Dl = 0 := by
        rcases Nat.eq_zero_or_pos (u.co Dl) with q | q
        · exact q
        · exact absurd ((ou Dl).2.1 q) hn
      have u2 : u.cu Dl = 0 := by
        rcases Nat.eq_zero_or_pos (u.cu Dl) with q | q
        · exact q
        · rcases (ou Dl).2.2 q with q | q
          · exact absurd hD (cuE_some satS q)
          · exact absurd q hn
      have m1 : coL Dl (acc ++ [u]) = 0 := by rw [coL_append, co1, n1, u1]
      have m2 : cuL Dl (acc ++ [u]) = 0 := by rw [cuL_append, cu1, n2, u2]
      refine ⟨hi2, by omega, Evl.Ex.mut ex5 hD, acc ++ [u], ?_, ?_, OwnL.snoc ex satS sacc oacc s5 ou, m1, m2, ?_, r', hr', ?_⟩
      · rw [upd_same]; simp [vals]
      · refine satL_keep (H := H5) _ (fun a o q e => ?_) (satL_append.mpr ⟨sacc5, s5, trivial⟩)
        have ne : a ≠ Dl := fun z => by subst z; omega
        rw [upd_ne ne]
        exact e
      · rw [List.length_append, List.length_singleton]; omega
      · rw [ers, erL_append, erL, erL, eu, List.append_assoc]; rfl
    · dsimp only
      rw [if_neg Bool.false_ne_true]
      exact ⟨m - 1, by omega, hi2, by omega, ex4, acc, hl4, satL_ex (x3.trans x4) sacc, oacc, n1, n2, by omega, rr, hr', ers⟩
  · have hi3 : ds.length ≤ i := Nat.le_of_not_lt hi2
    refine .inl ⟨w.stop i H2 ss2 hi3, ?_⟩
    rw [List.drop_eq_nil_of_le hi3, lcD] at hrr
    cases hrr
    rw [List.append_nil] at ers
    refine k (.n (.lst .o) Dl acc) H2 (by rw [T.er, ← ers]) (x1.trans ex) ⟨⟨hacc, rfl⟩, sacc⟩ fun a => ?_
    have h := oacc a
    have c4 : H1 a = none → H a = none := Evl.fresh_back x1
    rw [T.co, T.cu]
    by_cases q : Dl = a
    · subst q
      rw [n1, n2]
      refine ⟨by simp [Kd.own], fun _ => c4 hD, fun q => absurd q (by simp [Kd.own])⟩
    · rw [if_neg (fun z => q z.2), if_neg (fun z => q z.2), Nat.zero_add, Nat.zero_add]
      refine ⟨h.1, fun z => c4 (h.2.1 z), fun z => ?_⟩
      rcases h.2.2 z with z | z
      · have z : 0 < cuE a (wipeT env vs ++ src.map some) := z
        rw [cuE_app, cuE_some_map] at z
        have := wipe_cu (env := env) (a := a) vs
        by_cases y : 0 < cuL a src
        · exact (bs a).2 y
        · exact .inl (by omega)
      · exact .inr (c4 z)
theorem sp_lc (hc : X.calm = true) (hN : X.N.Nodup) (hi : SI X tg iter mi) (ok : blkC X.N X.env.scope scope own = true)
    (hg : ∀ (s : Shared) (H : Hp) (C : Addr) (cl : List (Str × Addr)) (fp : List Addr), SG (X.blk s H scope (compEnvC scope cl C X.env) fp) tg g) (ht : ∀ (s : Shared) (H : Hp) (C : Addr) (cl : List (Str × Addr)) (fp : List Addr), STs (X.blk s H scope (compEnvC scope cl C X.env) fp) ifs mt)
    (he : ∀ (s : Shared) (H : Hp) (C : Addr) (cl : List (Str × Addr)) (fp : List Addr), SP (X.blk s H scope (compEnvC scope cl C X.env) fp) elt me) (hsl : ∀ i ∈ g.sl, i ∈ own.map (·.2)) (hs : ∀ x, foldedSetIterable iter X.env x = pure x := by intro _; rfl) :
    SP X (.ListComp elt [⟨tg, iter, ifs, 0⟩] scope pos) (mLc mi g mt me (own.map (·.2))) :=
  PE.weak (pe_lc (own := own) (g := gOf X.K g) (tt := trT X.K mt) (te := trP X.K me) hc hN hi (blkOk_by ok) hg ht he hs) fun σ H Q h => lc_rd hsl h


end
mutual
def T.frz : T → T
  | .s v => .s v
  | .n k a ts => .n k.frz a (frzL ts)
  | .w z k a ts => .w z k a (frzL ts)
def frzL : List T → List T
  | [] => []
  | t :: ts => t.frz :: frzL ts
end
mutual
@[simp] def D.frz : D → D
  | .s v => .s v
  | .n k ds => .n k.frz (frzD ds)
@[simp] def frzD : List D → List D
  | [] => []
  | d :: ds => d.frz :: frzD ds
end
theorem frz_val (t : T) : t.frz.val = t.val := by cases t <;> simp [T.frz, T.val]
theorem frzL_vals : ∀ ts : List T, vals (frzL ts) = vals ts
  | [] => rfl
  | t :: ts => by rw [frzL, vals, List.map_cons, frz_val]; exact congrArg _ (frzL_vals ts)
theorem kfrz_ho (k : Kd) (vs : List V) : k.frz.ho vs = k.ho vs := by cases k <;> rfl
theorem kfrz_own (k : Kd) : k.frz.own = false := by
  cases k with
  | lst o => cases o <;> rfl
  | tup => rfl
  | ktp => rfl
  | dic o ks => cases o <;> rfl
  | dct o ks => cases o <;> rfl
theorem kfrz_isw {k : Kd} (h : k.isw = false) : k.frz.isw = false := by
  cases k with
  | lst o => cases o <;> first | rfl | cases h
  | tup => rfl
  | ktp => cases h
  | dic o ks => cases o <;> first | rfl | cases h
  | dct o ks => cases o <;> first | rfl | cases h
theorem kwri_frz (k : Kd) : k.wri.frz = k.wri := by cases k <;> rfl
section
variable {K : PySem.W.Frag} {H : Hp} {a : Addr}
mutual
theorem frz_er : ∀ t : T, t.frz.er = t.er.frz
  | .s v => by rw [T.frz, T.er, D.frz]
  | .n k a ts => by rw [T.frz, T.er, T.er, D.frz, frzL_er ts]
  | .w z k a ts => by rw [T.frz, T.er, T.er, D.frz, frzL_er ts, kwri_frz]
theorem frzL_er : ∀ ts : List T, erL (frzL ts) = frzD (erL ts)
  | [] => rfl
  | t :: ts => by rw [frzL, erL, erL, frzD, frz_er t, frzL_er ts]
end
mutual
theorem frz_co : ∀ t : T, t.frz.co a = 0
  | .s v => rfl
  | .n k b ts => by rw [T.frz, T.co, frzL_co ts, kfrz_own]; simp
  | .w z k b ts => by rw [T.frz, T.co, frzL_co ts]
theorem frzL_co : ∀ ts : List T, coL a (frzL ts) = 0
  | [] => rfl
  | t :: ts => by rw [frzL, coL, frz_co t, frzL_co ts]
end
mutual
theorem frz_cu : ∀ t : T, t.frz.cu a = t.co a + t.cu a
  | .s v => rfl
  | .n k b ts => by
    rw [T.frz, T.cu, T.co, T.cu, frzL_cu ts, kfrz_own]
    cases k.own <;> by_cases q : b = a <;> simp [q] <;> omega
  | .w z k b ts => by rw [T.frz, T.cu, T.co, T.cu, frzL_cu ts]; omega
theorem frzL_cu : ∀ ts : List T, cuL a (frzL ts) = coL a ts + cuL a ts
  | [] => rfl
  | t :: ts => by rw [frzL, cuL, coL, cuL, frz_cu t, frzL_cu ts]; omega
end
mutual
theorem frz_sat : ∀ t : T, t.sat K H → t.frz.sat K H
  | .s v, _ => trivial
  | .n k b ts, h => by
    rw [T.frz]
    refine ⟨⟨?_, kfrz_isw h.1.2⟩, frzL_sat ts h.2⟩
    rw [kfrz_ho, frzL_vals]
    exact h.1.1
  | .w z k b ts, h => by
    rw [T.frz]
    refine ⟨?_, frzL_sat ts h.2⟩
    rw [frzL_vals]
    exact h.1
theorem frzL_sat : ∀ ts : List T, satL K H ts → satL K H (frzL ts)
  | [], _ => trivial
  | t :: ts, h => ⟨frz_sat t h.1, frzL_sat ts h.2⟩
end
end
@[simp] def Kd.nF : Kd → Bool
  | .tup => true
  | .ktp => true
  | k => k.own
mutual
@[simp] def D.noF : D → Bool
  | .s _ => true
  | .n k ds => k.nF && noFL ds
@[simp] def noFL : List D → Bool
  | [] => true
  | d :: ds => d.noF && noFL ds
end
def isTupO : HO → Bool
  | .tup _ => true
  | .frz _ (.tup _) => true
  | _ => false
section
variable {K : PySem.W.Frag} {H : Hp} {a : Addr}
mutual
theorem noF_cu : ∀ t : T, t.er.noF = true → t.sat K H → 0 < t.cu a → ∃ o, H a = some o ∧ isTupO o = true
  | .s v, _, _, h => by rw [T.cu] at h; omega
  | .n k b ts, hn, hs, h => by
    rw [T.er, D.noF, Bool.and_eq_true] at hn
    rw [T.cu] at h
    by_cases q : k.own = false ∧ b = a
    · obtain ⟨q1, q2⟩ := q
      subst q2
      have h1 := hs.1.1
      cases k with
      | tup => exact ⟨_, h1, rfl⟩
      | ktp => exact absurd hs.1.2 (by simp [Kd.isw])
      | lst o => exact absurd (q1.symm.trans hn.1) Bool.false_ne_true
      | dic o ks => exact absurd (q1.symm.trans hn.1) Bool.false_ne_true
      | dct o ks => exact absurd (q1.symm.trans hn.1) Bool.false_ne_true
    · rw [if_neg q] at h
      exact noFL_cu ts hn.2 hs.2 (by omega)
  | .w z k b ts, hn, hs, h => by
    rw [T.er, D.noF, Bool.and_eq_true] at hn
    rw [T.cu] at h
    by_cases q : z = false ∧ b = a
    · obtain ⟨q1, q2⟩ := q
      subst q1 q2
      obtain ⟨nk, o, h1⟩ := hs.1
      cases k with
      | tup => exact ⟨_, h1, rfl⟩
      | ktp => exact absurd rfl nk
      | lst o => exact absurd hn.1 (by simp [Kd.wri, Kd.nF, Kd.own])
      | dic o ks => exact absurd hn.1 (by simp [Kd.wri, Kd.nF, Kd.own])
      | dct o ks => exact absurd hn.1 (by simp [Kd.wri, Kd.nF, Kd.own])
    · rw [if_neg q] at h
      exact noFL_cu ts hn.2 hs.2 (by omega)
theorem noFL_cu : ∀ ts : List T, noFL (erL ts) = true → satL K H ts → 0 < cuL a ts → ∃ o, H a = some o ∧ isTupO o = true
  | [], _, _, h => by rw [cuL] at h; omega
  | t :: ts, hn, hs, h => by
    rw [erL, noFL, Bool.and_eq_true] at hn
    rw [cuL] at h
    by_cases q : 0 < t.cu a
    · exact noF_cu t hn.1 hs.1 q
    · exact noFL_cu ts hn.2 hs.2 (by omega)
end
mutual
theorem co_no : ∀ t : T, t.sat K H → 0 < t.co a → ∃ o, H a = some o ∧ isTupO o = false
  | .s v, _, h => by rw [T.co] at h; omega
  | .n k b ts, hs, h => by
    rw [T.co] at h
    by_cases q : k.own = true ∧ b = a
    · obtain ⟨q1, q2⟩ := q
      subst q2
      have h1 := hs.1.1
      cases k with
      | tup => cases q1
      | ktp => cases q1
      | lst o => exact ⟨_, h1, rfl⟩
      | dic o ks => exact ⟨_, h1, rfl⟩
      | dct o ks => exact ⟨_, h1, rfl⟩
    · rw [if_neg q] at h
      exact coL_no ts hs.2 (by omega)
  | .w z k b ts, hs, h => by
    rw [T.co] at h
    exact coL_no ts hs.2 h
theorem coL_no : ∀ ts : List T, satL K H ts → 0 < coL a ts → ∃ o, H a = some o ∧ isTupO o = false
  | [], _, h => by rw [coL] at h; omega
  | t :: ts, hs, h => by
    rw [coL] at h
    by_cases q : 0 < t.co a
    · exact co_no t hs.1 q
    · exact coL_no ts hs.2 (by omega)
end
theorem coE_no : ∀ {env : TEnv}, SatE K H env → 0 < coE a env → ∃ o, H a = some o ∧ isTupO o = false
  | [], _, h => by rw [coE] at h; omega
  | none :: r, hs, h => by
    rw [coE, oT] at h
    exact coE_no (env := r) (fun t ht => hs t (List.mem_cons_of_mem _ ht)) (by omega)
  | some t :: r, hs, h => by
    rw [coE, oT] at h
    by_cases q : 0 < t.co a
    · exact co_no t (hs t (List.mem_cons_self ..)) q
    · exact coE_no (env := r) (fun t ht => hs t (List.mem_cons_of_mem _ ht)) (by omega)
end
def OwnA (H : Hp) (ts : List T) (t : T) : Prop := ∀ a, (t.co a ≤ 1 ∧ (t.co a = 0 ∨ t.cu a = 0)) ∧ (0 < t.co a → H a = none) ∧ (0 < t.cu a → 0 < coL a ts ∨ 0 < cuL a ts ∨ H a = none)
abbrev FM := List D → Option D
def spP (K : PySem.W.Frag) (n : Nat) (f : FM) : Sp := fun vs H Q _ => ∃ ts d, vs = vals ts ∧ ts.length = n ∧ satL K H ts ∧ f (frzD (erL ts)) = some d ∧ ∀ t H', t.er = d → Ex H H' → t.sat K H' → OwnA H ts t → Q t.val H'
@[simp] def mFn (f : FM) (ml : LM) : PM := fun env => (ml env).bind fun ds => (f (frzD ds)).bind fun d => if (d.noF || pureL ds) = true then some d else none
section
variable {X : Cx} {e : Expr} {es : List Expr} {ml : LM} {pos p : Pos}
theorem sp_call {k n : Nat} {x : Str} {f : Addr} {fd : FuncData} {ps : List Str} {fm : FM} {CX : CXT} {E : XK} (F : FnOk X.prog X.w X.K X.mg X.base CX k f fd ps (spP X.K n fm)) (hl : n = es.length + 1) (hr : Room k X.A) (hm : X.mg x = some (.ref f)) (hk : PySem.W.keepIn X.K (.ref f) = true)
    (hb : Binds X.K fd ps []) (hx : Passes CX X E) (ha : SBA X (e :: es) ml) (hln : ∀ env ds, ml env = some ds → ds.length = n) (hg : Gl X x := by rfl) (hdb : (x == ("__debug__" : Str)) = false := by decide) (he : starEach (e :: es) X.env = (false, eval e X.env) :: starEach es X.env := by rfl) (hpl : (backTo pos (starEach es X.env)).any (·.1) = false := by rfl) :
    SP X (.Call (.Name x p) (e :: es) [] pos) (mFn fm ml) := PE.weak (pe_call F hr hg hm hk hb .nil hx ha hdb he hpl) fun σ H Q ⟨env, d, hm, r, s, k⟩ => by
  obtain ⟨ds, h1, hm⟩ := bind_some hm
  obtain ⟨d', h2, hm⟩ := bind_some hm
  split at hm
  case isFalse => cases hm
  rename_i hc
  cases hm
  refine ⟨env, ds, h1, r, s, fun ts H1 e1 x1 s1 b1 => ?_⟩
  refine ⟨ts, d, by rw [List.append_nil], by rw [len_er e1]; exact hln _ _ h1, s1, by rw [e1]; exact h2, fun t H2 e2 x2 s2 o2 => k t H2 e2 (x1.trans x2) s2 fun a => ?_⟩
  have o := o2 a
  refine ⟨o.1, fun z => Evl.fresh_back x1 (o.2.1 z), fun z => ?_⟩
  rcases o.2.2 z with q | q | q
  · rw [Bool.or_eq_true] at hc
    rcases hc with hc | hc
    · -- a tuple of the answer is no list of ours
      rw [← e2] at hc
      obtain ⟨u, hu, hv⟩ := noF_cu t hc s2 z
      obtain ⟨u', hu', hv'⟩ := coL_no ts (satL_ex x2 s1) q
      rw [hu] at hu'
      cases hu'
      rw [hv] at hv'
      cases hv'
    · rw [← e1] at hc
      rw [pureL_co ts hc] at q
      omega
  · exact (b1 a).2 q
  · exact .inr (Evl.fresh_back x1 q)
end
@[simp] def wLF (m : PM) : LM := fun env => (m env).bind fun d => asL d.frz
section
variable {X : Cx} {tg e : Expr} {m : PM}
end
end Ow

namespace Ow
open PySem L2


def WfF (F : List T) (env : TEnv) : Prop := Wf (fun a => coL a F + coE a env) (fun a => cuL a F + cuE a env)
def StpF (H : Hp) (F : List T) (env : TEnv) (H' : Hp) (F' : List T) (env' : TEnv) : Prop := Stp H (fun a => coL a F + coE a env) (fun a => cuL a F + cuE a env) H' (fun a => coL a F' + coE a env') (fun a => cuL a F' + cuE a env')
structure Cf (K : PySem.W.Frag) (H0 : Hp) (env0 : TEnv) (σ : L2.St) (H : Hp) (F : List T) (env : TEnv) : Prop where
  rel : Rel σ env
  satF : satL K H F
  satE : SatE K H env
  wf : WfF F env
  stp : StpF H0 [] env0 H F env
section
variable {K : PySem.W.Frag} {H0 H H' : Hp} {env0 env env' : TEnv} {σ σ' : L2.St} {F G : List T} {t : T}
theorem Cf.start (r : Rel σ env) (s : SatE K H env) (w : WfF [] env) : Cf K H env σ H [] env := ⟨r, trivial, s, w, Stp.refl⟩
theorem Cf.step (c : Cf K H0 env0 σ H F env) (c' : Cf K H env σ' H' G env') : Cf K H0 env0 σ' H' (G ++ F) env' := by
  have keepF : ∀ a o, 0 < coL a F + cuL a F → H a = some o → H' a = some o := fun a o h e => c'.stp.1 a o e (by
    have := c.wf a
    simp only [coL] at this ⊢
    omega)
  have someF : ∀ a, 0 < coL a F + cuL a F → H a ≠ none := fun a h => by
    by_cases q : 0 < coL a F
    · exact coL_some F c.satF q
    · exact cuL_some F c.satF (by omega)
  refine ⟨c'.rel, satL_append.mpr ⟨c'.satF, satL_keep F keepF c.satF⟩, c'.satE, fun a => ?_, ?_⟩
  · have w := c.wf a
    have w' := c'.wf a
    have s := c'.stp.2.2 a
    have sf := someF a
    simp only [coL, cuL, Nat.zero_add, coL_append, cuL_append] at w w' s ⊢
    by_cases z : H a = none
    · have n1 : coL a F = 0 := by
        rcases Nat.eq_zero_or_pos (coL a F) with q | q
        · exact q
        · exact absurd z (sf (by omega))
      have n2 : cuL a F = 0 := by
        rcases Nat.eq_zero_or_pos (cuL a F) with q | q
        · exact q
        · exact absurd z (sf (by omega))
      omega
    · have s1 := s.1
      have s2 := s.2
      simp only [z, or_false] at s1 s2
      omega
  · refine Stp.trans c.stp ⟨fun a o h hc => c'.stp.1 a o h (by simp only [coL] at hc ⊢; omega), c'.stp.2.1, fun a => ?_⟩
    have s := c'.stp.2.2 a
    simp only [coL, cuL, Nat.zero_add, coL_append, cuL_append] at s ⊢
    refine ⟨fun h => ?_, fun h => ?_⟩
    · by_cases q : 0 < coL a F
      · exact .inl (by omega)
      · rcases s.1 (by omega) with z | z
        · exact .inl (by omega)
        · exact .inr z
    · by_cases q : 0 < cuL a F
      · exact .inr (.inl (by omega))
      · rcases s.2 (by omega) with z | z | z
        · exact .inl (by omega)
        · exact .inr (.inl (by omega))
        · exact .inr (.inr z)
theorem Cf.base (c : Cf K H0 env0 σ H F env) : WfF [] env := fun a => by
  have w := c.wf a
  simp only [coL, cuL, Nat.zero_add] at w ⊢
  omega
theorem Cf.pure (r : Rel σ env) (s : SatE K H env) (w : WfF [] env) (x : Ex H H') (s1 : t.sat K H') (o : Own H env t) : Cf K H env σ H' [t] env := by
  refine ⟨r, ⟨s1, trivial⟩, s.ex x, fun a => ?_, ⟨fun a o h _ => x a o h, fun a h => Evl.fresh_back x h, fun a => ?_⟩⟩
  · have h := o a
    have w := w a
    have c1 : 0 < coE a env → H a ≠ none := coE_some s
    have c2 : 0 < cuE a env → H a ≠ none := cuE_some s
    simp only [coL, cuL, Nat.zero_add, Nat.add_zero] at w ⊢
    by_cases q : 0 < t.co a
    · have z := h.2.1 q
      have n1 : coE a env = 0 := by
        rcases Nat.eq_zero_or_pos (coE a env) with q | q
        · exact q
        · exact absurd z (c1 q)
      have n2 : cuE a env = 0 := by
        rcases Nat.eq_zero_or_pos (cuE a env) with q | q
        · exact q
        · exact absurd z (c2 q)
      omega
    · by_cases q2 : 0 < t.cu a
      · rcases h.2.2 q2 with z | z
        · omega
        · have n1 : coE a env = 0 := by
            rcases Nat.eq_zero_or_pos (coE a env) with q | q
            · exact q
            · exact absurd z (c1 q)
          omega
      · omega
  · have h := o a
    simp only [coL, cuL, Nat.zero_add, Nat.add_zero]
    refine ⟨fun q => ?_, fun q => ?_⟩
    · by_cases q2 : 0 < t.co a
      · exact .inr (h.2.1 q2)
      · exact .inl (by omega)
    · by_cases q2 : 0 < t.cu a
      · rcases h.2.2 q2 with z | z
        · exact .inr (.inl z)
        · exact .inr (.inr z)
      · exact .inr (.inl (by omega))
theorem Cf.ex (c : Cf K H0 env0 σ H F env) (x : Ex H H') : Cf K H0 env0 σ H' F env :=
  ⟨c.rel, satL_ex x c.satF, c.satE.ex x, c.wf, Stp.trans c.stp ⟨fun a o h _ => x a o h, fun a h => Evl.fresh_back x h, fun a => ⟨fun q => .inl q, fun q => .inr (.inl q)⟩⟩⟩
theorem Cf.less {F' : List T} {env' : TEnv} (c : Cf K H0 env0 σ H F env) (r : Rel σ' env') (sF : satL K H F') (sE : SatE K H env') (h1 : ∀ a, coL a F' + coE a env' ≤ coL a F + coE a env) (h2 : ∀ a, cuL a F' + cuE a env' ≤ cuL a F + cuE a env) : Cf K H0 env0 σ' H F' env' := by
  refine ⟨r, sF, sE, fun a => ?_, Stp.trans c.stp ⟨fun a o h _ => h, fun a h => h, fun a => ⟨fun q => .inl ?_, fun q => .inr (.inl ?_)⟩⟩⟩
  · have w := c.wf a
    have := h1 a
    have := h2 a
    simp only at w ⊢
    omega
  · have := h1 a
    simp only at q ⊢
    omega
  · have := h2 a
    simp only at q ⊢
    omega
end
def trE (K : PySem.W.Frag) (U : List Nat) (m : EM) : TE := fun σ H Q => ∃ env d e', m (erE env) = some (d, e') ∧ Rel σ env ∧ SatE K H env ∧ WfF [] env ∧
  ∀ t env' H', t.er = d → erE env' = e' → Cf K H env σ H' [t] env' → (∀ i ∈ U, env'[i]? = env[i]?) → Q t.val H'
abbrev TM := Env → Option (Bool × Env)
def trET (K : PySem.W.Frag) (m : TM) : TT := fun σ H Q => ∃ env b e', m (erE env) = some (b, e') ∧ Rel σ env ∧ SatE K H env ∧ WfF [] env ∧
  ∀ env' H', erE env' = e' → Cf K H env σ H' [] env' → Q b H'
def SE (X : Cx) (U : List Nat) (e : Expr) (m : EM) : Prop := PE X e (trE X.K U m)
def SET (X : Cx) (e : Expr) (m : TM) : Prop := PT X e (trET X.K m)
@[simp] def lift (m : PM) : EM := fun env => (m env).map fun d => (d, env)
@[simp] def liftT (m : BM) : TM := fun env => (m env).map fun d => (d, env)
inductive O where
  | nx | bk | ct
  | rt (d : D)
abbrev SM := Env → Option (O × Env)
def XWish (X : Cx) : WX := fun cls d σ H => ∀ u s', XE X (fun c' d' σ' H' => c' = cls ∧ d' = d ∧ σ' = σ ∧ H' = H) u s' → X.xe u s'
@[simp] def D.isx : D → Bool
  | .s (.ty _) => true
  | _ => false
def outs (X : Cx) (De : Ends) (o : O) (F : List T) (σ : L2.St) (H : Hp) : Prop := match o with
  | .nx => F = [] → De.nx σ H
  | .bk => F = [] → De.bk σ H
  | .ct => F = [] → De.ct σ H
  | .rt d => (∀ t, F = [t] → t.er = d → De.rt t.val H) ∧ ∀ (n : String) (C : Addr), d = .s (.ty n) → F = [] → X.mg n = some (.ref C) → XWish X (.ref C) none σ H
def trS (X : Cx) (P : List Nat) (m : SM) : TS := fun De σ H => ∃ env o e', m (erE env) = some (o, e') ∧ Rel σ env ∧ SatE X.K H env ∧ WfF [] env ∧
  ∀ F σ' env' H', erE env' = e' → Cf X.K H env σ' H' F env' → (∀ i ∈ P, σ'[i]? = σ[i]?) → outs X De o F σ' H'
def SS (X : Cx) (P : List Nat) (st : Stmt) (m : SM) : Prop := PS X st (trS X P m)
def SSs (X : Cx) (P : List Nat) (st : List Stmt) (m : SM) : Prop := PSs X st (trS X P m)
theorem PS.weak {X : Cx} {st : Stmt} {t u : TS} (h : PS X st t) (w : ∀ D σ H, u D σ H → t D σ H) : PS X st u := ⟨fun pins s σ H D I z => h.run pins s σ H D I (w D σ H z)⟩
theorem PSs.weak {X : Cx} {st : List Stmt} {t u : TS} (h : PSs X st t) (w : ∀ D σ H, u D σ H → t D σ H) : PSs X st u := ⟨fun pins s σ H D I z => h.run pins s σ H D I (w D σ H z)⟩
section
variable {K : PySem.W.Frag} {H0 H H' : Hp} {env0 env env' : TEnv} {σ σ' : L2.St} {F : List T} {U : List Nat} {m : PM} {me : EM} {d : D} {e' : Env} {Q : VK}
theorem goE (c : Cf K H0 env0 σ H F env) (hm : me (erE env) = some (d, e')) (k : ∀ t env' H', t.er = d → erE env' = e' → Cf K H0 env0 σ H' (t :: F) env' → (∀ i ∈ U, env'[i]? = env[i]?) → Q t.val H') : trE K U me σ H Q :=
  ⟨env, d, e', hm, c.rel, c.satE, c.base, fun t env' H' e1 e2 c' u => k t env' H' e1 e2 (c.step c') u⟩
theorem goP (c : Cf K H0 env0 σ H F env) (hm : m (erE env) = some d) (k : ∀ t H', t.er = d → Ex H H' → Cf K H0 env0 σ H' (t :: F) env → Q t.val H') : trP K m σ H Q :=
  ⟨env, d, hm, c.rel, c.satE, fun t H' e1 x s o => k t H' e1 x (c.step (Cf.pure c.rel c.satE c.base x s o))⟩
theorem goB (c : Cf K H0 env0 σ H F env) (hm : m (erE env) = some d) (k : ∀ t H', t.er = d → Ex H H' → t.sat K H' → Bor H env t → Cf K H0 env0 σ H' F env → Q t.val H') : trB K m σ H Q :=
  ⟨env, d, hm, c.rel, c.satE, fun t H' e1 x s o => k t H' e1 x s o (c.ex x)⟩
theorem goT {mb : BM} {b : Bool} {Q : Bool → Hp → Prop} (c : Cf K H0 env0 σ H F env) (hm : mb (erE env) = some b) (k : ∀ H', Cf K H0 env0 σ H' F env → Q b H') : trT K mb σ H Q :=
  ⟨env, b, hm, c.rel, c.satE, fun H' x => k H' (c.ex x)⟩
theorem goET {mb : TM} {b : Bool} {Q : Bool → Hp → Prop} (c : Cf K H0 env0 σ H F env) (hm : mb (erE env) = some (b, e')) (k : ∀ env' H', erE env' = e' → Cf K H0 env0 σ H' F env' → Q b H') : trET K mb σ H Q :=
  ⟨env, b, e', hm, c.rel, c.satE, c.base, fun env' H' e1 c' => k env' H' e1 (c.step c')⟩
end
section
variable {X : Cx} {m ma mb : PM} {me m1 m2 : EM} {e a b : Expr} {pos : Pos} {U P : List Nat}
theorem se_p (h : SP X e m) : SE X U e (lift m) := PE.weak h fun σ H Q ⟨env, d, e', hm, r, s, w, k⟩ => by
  obtain ⟨x, hx, e1⟩ := map_some hm
  cases e1
  exact goP (Cf.start r s w) hx fun t H' e1 x c => k t env H' e1 rfl c fun _ _ => rfl
theorem set_t {mt : BM} (h : ST X e mt) : SET X e (liftT mt) := PT.weak h fun σ H Q ⟨env, d, e', hm, r, s, w, k⟩ => by
  obtain ⟨x, hx, e1⟩ := map_some hm
  cases e1
  exact goT (Cf.start r s w) hx fun H' c => k env H' rfl c
@[simp] def eB (m : EM) : TM := fun env => (m env).bind fun x => (toB x.1).map fun b => (b, x.2)
@[simp] def eOp2 (f : D → D → Option V) (ma mb : EM) : EM := fun env => (ma env).bind fun x => (mb x.2).bind fun y => (f x.1 y.1).bind fun v => (sv v).map fun d => (d, y.2)
theorem eop_rd {K : PySem.W.Frag} {σ : L2.St} {H : Hp} {Q : VK} {r : R2} {f : D → D → Option V} (ho : Op2 K r f) (h : trE K U (eOp2 f m1 m2) σ H Q) : tOp r (trE K U m1) (trE K U m2) σ H Q := by
  obtain ⟨env, d, e', hm, hr, s, w, k⟩ := h
  obtain ⟨x, hx, hm⟩ := bind_some hm
  obtain ⟨y, hy, hm⟩ := bind_some hm
  obtain ⟨v, hv, hm⟩ := bind_some hm
  obtain ⟨dv, hs, e1⟩ := map_some hm
  obtain ⟨s1, rfl⟩ := sv_some hs
  cases e1
  refine goE (d := x.1) (e' := x.2) (Cf.start hr s w) hx fun t env1 H1 e1 e2 c1 u1 => ?_
  refine goE (d := y.1) (e' := y.2) c1 (by rw [e2]; exact hy) fun u env2 H2 e3 e4 c2 u2 => ?_
  refine ho t u v H2 Q c2.satF.2.1 c2.satF.1 (by rw [e1, e3]; exact hv) ?_
  refine k (.s v) env2 H2 (by rw [T.er, hid_scl s1]) e4 (c2.less c2.rel ⟨trivial, trivial⟩ c2.satE (fun a => by simp [coL, T.co]; try omega) (fun a => by simp [cuL, T.cu]; try omega)) fun i hi => (u2 i hi).trans (u1 i hi)
theorem se_op {op : Operator} {r : R2} {f : D → D → Option V} (ho : OpR X (binaryOp op) r) (hf : Op2 X.K r f) (ha : SE X U a m1) (hb : SE X U b m2) : SE X U (.BinOp a op b pos) (eOp2 f m1 m2) :=
  PE.weak (pe_op ho ha hb) fun σ H Q h => eop_rd hf h
theorem se_add (ha : SE X U a m1) (hb : SE X U b m2) : SE X U (.BinOp a .Add b pos) (eOp2 fAdd m1 m2) := se_op op_add op2_I0 ha hb
@[simp] def eItem (ma mb : EM) : EM := fun env => (ma env).bind fun x => (mb x.2).bind fun y => (fItem x.1 y.1).bind fun d => if d.pure = true then some (d, y.2) else none
theorem se_item (ha : SE X U a m1) (hb : SE X U b m2) (hs : PlainIx b := by exact fun _ _ => rfl) : SE X U (.Subscript a b pos) (eItem m1 m2) := PE.weak (pe_ix ix_it ha hb hs) fun σ H Q ⟨env, d, e', hm, hr, s, w, k⟩ => by
  obtain ⟨x, hx, hm⟩ := bind_some hm
  obtain ⟨y, hy, hm⟩ := bind_some hm
  obtain ⟨d', hd, hm⟩ := bind_some hm
  split at hm
  case isFalse => cases hm
  rename_i hp
  cases hm
  refine goE (d := x.1) (e' := x.2) (Cf.start hr s w) hx fun t env1 H1 e1 e2 c1 u1 => ?_
  refine goE (d := y.1) (e' := y.2) c1 (by rw [e2]; exact hy) fun u env2 H2 e3 e4 c2 u2 => ?_
  rw [← e1, ← e3] at hd
  have fin : ∀ z : T, z.er = d → z.sat X.K H2 → (∀ b, cuL b [z] ≤ t.cu b) → Q z.val H2 := fun z ez sz lz => by
    rw [← ez] at hp
    exact k z env2 H2 ez e4 (c2.less c2.rel ⟨sz, trivial⟩ c2.satE (fun a => by simp only [coL, pure_co z hp]; omega) (fun a => by have := lz a; simp only [cuL] at this ⊢; omega)) fun i hi => (u2 i hi).trans (u1 i hi)
  unfold fItem at hd
  split at hd
  · rename_i o ds i g1 g2
    obtain ⟨a, ts, f1, f2, f3, f4, f5, f6⟩ := rdL c2.satF.2.1 g1
    rw [f1, er_int g2]
    rw [← f2, erL_map, atI_map] at hd
    obtain ⟨z, hz, ez⟩ := map_some hd
    have hz2 := atI_mem hz
    refine .inl (.inl ⟨a, _, i, z.val, rfl, rfl, f3, by rw [vals, atI_map, hz]; rfl, fin z ez (satL_iff.mp f4 z hz2) fun b => by rw [cu1]; exact Nat.le_trans (cuL_mem hz2) (f6 b)⟩)
  · rename_i ds i g1 g2
    obtain ⟨a, ts, f1, f2, f3, f4, f5, f6⟩ := rdT c2.satF.2.1 g1
    rw [f1, er_int g2]
    rw [← f2, erL_map, atI_map] at hd
    obtain ⟨z, hz, ez⟩ := map_some hd
    have hz2 := atI_mem hz
    refine .inl (.inr ⟨a, _, i, z.val, rfl, rfl, f3, by rw [vals, atI_map, hz]; rfl, fin z ez (satL_iff.mp f4 z hz2) fun b => by rw [cu1]; exact Nat.le_trans (cuL_mem hz2) (f6 b)⟩)
  · rename_i z i g1 g2
    split at hd
    · rename_i hl
      obtain ⟨c, hc, ez⟩ := map_some hd
      rw [er_scl g1 rfl, er_int g2]
      exact .inr ⟨z, i, c, rfl, rfl, sizeLine_le hl, hc, fin (.s (.str ⟨#[c]⟩)) ez trivial fun b => by simp [cuL, T.cu]⟩
    · cases hd
  · cases hd


@[simp] def sNx : SM := fun env => some (.nx, env)
@[simp] def sSeq (m n : SM) : SM := fun env => (m env).bind fun x => match x.1 with
  | .nx => n x.2
  | o => some (o, x.2)
@[simp] def sDrop (m : EM) : SM := fun env => (m env).map fun x => (.nx, x.2)
@[simp] def sSet (i : Nat) (m : EM) : SM := fun env => (m env).map fun x => (.nx, x.2.set i (some x.1))
@[simp] def sRet (m : EM) : SM := fun env => (m env).map fun x => (.rt x.1, x.2)
@[simp] def sRetN : SM := fun env => some (.rt (.s .non), env)
@[simp] def sBk : SM := fun env => some (.bk, env)
@[simp] def sCt : SM := fun env => some (.ct, env)
@[simp] def sIf (c : TM) (m n : SM) : SM := fun env => (c env).bind fun x => if x.1 = true then m x.2 else n x.2
section
variable {st : Stmt} {rest : List Stmt} {mS nS : SM}
theorem sss_nil : SSs X P [] sNx := PSs.weak pss_nil fun De σ H ⟨env, o, e', hm, r, s, w, k⟩ => by
  cases hm
  exact k [] σ env H rfl (Cf.start r s w) (fun _ _ => rfl) rfl
theorem sss_one (h : SS X P st mS) : SSs X P [st] mS := pss_one h
theorem sss_cons (h : SS X P st mS) (hs : SSs X P rest nS) : SSs X P (st :: rest) (sSeq mS nS) := PSs.weak (pss_cons h hs) fun De σ H ⟨env, o, e', hm, r, s, w, k⟩ => by
  obtain ⟨x, hx, hm⟩ := bind_some hm
  refine ⟨env, x.1, x.2, hx, r, s, w, fun F σ1 env1 H1 e1 c1 p1 => ?_⟩
  obtain ⟨xo, xe⟩ := x
  cases xo with
  | nx =>
    intro hF
    subst hF
    refine ⟨env1, o, e', by rw [e1]; exact hm, c1.rel, c1.satE, c1.base, fun F2 σ2 env2 H2 e2 c2 p2 => ?_⟩
    have c3 := c1.step c2
    rw [List.append_nil] at c3
    exact k F2 σ2 env2 H2 e2 c3 fun i hi => (p2 i hi).trans (p1 i hi)
  | bk => cases hm; exact k F σ1 env1 H1 e1 c1 p1
  | ct => cases hm; exact k F σ1 env1 H1 e1 c1 p1
  | rt d => cases hm; exact k F σ1 env1 H1 e1 c1 p1
end
end
end Ow

namespace Ow
open PySem L2

section
variable {K : PySem.W.Frag} {H0 H H' : Hp} {env0 env env' : TEnv} {σ σ' : L2.St} {F G : List T} {t : T}
theorem Cf.pureL {ts : List T} (r : Rel σ env) (s : SatE K H env) (w : WfF [] env) (x : Ex H H') (s1 : satL K H' ts) (o : OwnL H env ts) : Cf K H env σ H' ts env := by
  refine ⟨r, s1, s.ex x, fun a => ?_, ⟨fun a o h _ => x a o h, fun a h => Evl.fresh_back x h, fun a => ?_⟩⟩
  · have h := o a
    have w := w a
    have c1 : 0 < coE a env → H a ≠ none := coE_some s
    have c2 : 0 < cuE a env → H a ≠ none := cuE_some s
    simp only [coL, cuL, Nat.zero_add, Nat.add_zero] at w ⊢
    by_cases q : 0 < coL a ts
    · have z := h.2.1 q
      have n1 : coE a env = 0 := by
        rcases Nat.eq_zero_or_pos (coE a env) with q | q
        · exact q
        · exact absurd z (c1 q)
      have n2 : cuE a env = 0 := by
        rcases Nat.eq_zero_or_pos (cuE a env) with q | q
        · exact q
        · exact absurd z (c2 q)
      omega
    · by_cases q2 : 0 < cuL a ts
      · rcases h.2.2 q2 with z | z
        · omega
        · have n1 : coE a env = 0 := by
            rcases Nat.eq_zero_or_pos (coE a env) with q | q
            · exact q
            · exact absurd z (c1 q)
          omega
      · omega
  · have h := o a
    simp only [coL, cuL, Nat.zero_add, Nat.add_zero]
    refine ⟨fun q => ?_, fun q => ?_⟩
    · by_cases q2 : 0 < coL a ts
      · exact .inr (h.2.1 q2)
      · exact .inl (by omega)
    · by_cases q2 : 0 < cuL a ts
      · rcases h.2.2 q2 with z | z
        · exact .inr (.inl z)
        · exact .inr (.inr z)
      · exact .inr (.inl (by omega))
theorem Cf.bind {sl : List Nat} {e' : Env} (c : Cf K H0 env0 σ H F env) (x : Ex H H') (ho : ∀ a, t.co a = 0) (hu : ∀ a, 0 < t.cu a → 0 < cuL a F ∨ 0 < cuE a env ∨ H a = none) (s : t.sat K H')
    (B : Bnd K H' σ env (fun a => t.co a) (fun a => t.cu a) sl e' σ' env') : Cf K H0 env0 σ' H' F env' := by
  have sE : SatE K H' env' := fun u hu => by
    rcases B.sat u hu with q | q
    · exact sat_ex x (c.satE u q)
    · exact q
  refine ⟨B.rel, satL_ex x c.satF, sE, fun a => ?_, Stp.trans c.stp ⟨fun a o h _ => x a o h, fun a h => Evl.fresh_back x h, fun a => ?_⟩⟩
  · have w := c.wf a
    have b1 := B.co a
    have b2 := B.cu a
    have z := ho a
    simp only at w b1 b2 ⊢
    rw [z] at b1
    by_cases q : 0 < coL a F + coE a env'
    · have nn : H a ≠ none := by
        by_cases q2 : 0 < coL a F
        · exact coL_some F c.satF q2
        · exact coE_some c.satE (by omega)
      have : t.cu a = 0 := by
        rcases Nat.eq_zero_or_pos (t.cu a) with y | y
        · exact y
        · rcases hu a y with y | y | y
          · omega
          · omega
          · exact absurd y nn
      omega
    · omega
  · have b1 := B.co a
    have b2 := B.cu a
    have z := ho a
    simp only at b1 b2 ⊢
    rw [z] at b1
    refine ⟨fun q => .inl (by omega), fun q => ?_⟩
    by_cases q2 : 0 < t.cu a
    · rcases hu a q2 with y | y | y
      · exact .inr (.inl (by omega))
      · exact .inr (.inl (by omega))
      · exact .inr (.inr y)
    · exact .inr (.inl (by omega))
theorem Cf.toNil (c : Cf K H0 env0 σ H F env) : Cf K H0 env0 σ H [] env := c.less c.rel trivial c.satE (fun a => by simp only [coL]; omega) (fun a => by simp only [cuL]; omega)
theorem Cf.dropB (c : Cf K H0 env0 σ H (G ++ F) env) : Cf K H0 env0 σ H G env := c.less c.rel (satL_append.mp c.satF).1 c.satE (fun a => by rw [coL_append]; omega) (fun a => by rw [cuL_append]; omega)
end
section
variable {X : Cx} {m ma mb : PM} {me m1 m2 : EM} {e a b tg iter : Expr} {pos p : Pos} {U P : List Nat} {st : Stmt} {rest body orelse : List Stmt} {mS nS : SM}
theorem ss_expr (h : SE X [] e me) (hs : swapsWith e none pos.line X.env = pure false := by rfl) : SS X P (.Expr e pos) (sDrop me) := PS.weak (ps_expr h hs) fun De σ H ⟨env, o, e', hm, r, s, w, k⟩ => by
  obtain ⟨x, hx, e1⟩ := map_some hm
  cases e1
  exact goE (d := x.1) (e' := x.2) (Cf.start r s w) hx fun t env1 H1 e1 e2 c1 _ => k [] σ env1 H1 e2 c1.toNil (fun _ _ => rfl) rfl
theorem set_pin {σ : L2.St} {i : Nat} {v : Option V} {P : List Nat} (h : i ∉ P) : ∀ j ∈ P, (σ.set i v)[j]? = σ[j]? := fun j hj => by
  rw [List.getElem?_set, if_neg (fun z => h (by rw [z]; exact hj))]
theorem asg_rd {De : Ends} {σ : L2.St} {H : Hp} {i : Nat} (hP : i ∉ P) (h : trS X P (sSet i me) De σ H) : tAsg (trE X.K [] me) (gName i) De σ H := by
  obtain ⟨env, o, e', hm, r, s, w, k⟩ := h
  obtain ⟨x, hx, e1⟩ := map_some hm
  cases e1
  refine goE (d := x.1) (e' := x.2) (Cf.start r s w) hx fun t env1 H1 e1 e2 c1 _ => ?_
  refine k [] (σ.set i (some t.val)) (env1.set i (some t)) H1 (by rw [erE_set, e2, ← e1]; rfl) (c1.less c1.rel.set trivial (c1.satE.set fun u hu => by cases hu; exact c1.satF.1) (fun a => ?_) fun a => ?_) (set_pin hP) rfl
  · have := set_co (env := env1) (j := i) (t := t) (a := a)
    simp only [coL]; omega
  · have := set_cu (env := env1) (j := i) (t := t) (a := a)
    simp only [cuL]; omega
theorem ss_set {x : Str} {pos' : Pos} (i : Nat) (hN : X.N.Nodup) (hP : i ∉ P) (h : SE X [] e me) (hi : X.N[i]? = some x := by rfl) (hx : Loc X.env.scope x := by first | exact .inl rfl | exact .inr rfl) (hs : swapsWith e (some (.Name x pos')) pos.line X.env = pure false := by rfl)
    (hf : X.fn x = true ∨ X.env.scope.names.lookup x = some .local := by first | exact .inl rfl | exact .inr rfl | assumption) : SS X P (.Assign [.Name x pos'] e pos) (sSet i me) :=
  PS.weak (ps_set (i := i) hN hi hx h hs hf) fun De σ H h => asg_rd hP h
theorem ss_setLc {elt : Expr} {ifs : List Expr} {scope : Scope} {own : List (Str × Nat)} {mi : LM} {g : Tg} {mt : BM} {ml : PM} {y : Str} {py spos : Pos} (i : Nat) (hP : i ∉ P) (hc : X.calm = true) (hN : X.N.Nodup) (hi : SI X tg iter mi) (ok : blkC X.N X.env.scope scope own = true)
    (hg : ∀ (s : Shared) (H : Hp) (C : Addr) (cl : List (Str × Addr)) (fp : List Addr), SG (X.blk s H scope (compEnvC scope cl C X.env) fp) tg g) (ht : ∀ (s : Shared) (H : Hp) (C : Addr) (cl : List (Str × Addr)) (fp : List Addr), STs (X.blk s H scope (compEnvC scope cl C X.env) fp) ifs mt)
    (he : ∀ (s : Shared) (H : Hp) (C : Addr) (cl : List (Str × Addr)) (fp : List Addr), SP (X.blk s H scope (compEnvC scope cl C X.env) fp) elt ml) (hsl : ∀ i ∈ g.sl, i ∈ own.map (·.2))
    (hsw : swapsWith (.ListComp elt [⟨tg, iter, ifs, 0⟩] scope pos) (some (.Name y py)) spos.line X.env = pure true) (hy : X.N[i]? = some y := by rfl) (hyl : X.env.scope.names.lookup y = some .local := by rfl) (hs : ∀ x, foldedSetIterable iter X.env x = pure x := by intro _; rfl) :
    SS X P (.Assign [.Name y py] (.ListComp elt [⟨tg, iter, ifs, 0⟩] scope pos) spos) (sSet i (lift (mLc mi g mt ml (own.map (·.2))))) :=
  PS.weak (ps_setLc (own := own) (g := gOf X.K g) (tt := trT X.K mt) (te := trP X.K ml) hc hN hy hyl hsw hi (blkOk_by ok) hg ht he hs) fun De σ H h => by
    have q := asg_rd (X := X) hP h
    obtain ⟨env, d, e', hm, r, s, w, k⟩ := q
    obtain ⟨x, hx, e1⟩ := map_some hm
    cases e1
    exact lc_rd hsl (goP (Cf.start r s w) hx fun t H' e1 x c => k t env H' e1 rfl c fun _ _ => rfl)
theorem ss_ret (h : SE X [] e me) : SS X P (.Return (some e) pos) (sRet me) := PS.weak (ps_ret h) fun De σ H ⟨env, o, e', hm, r, s, w, k⟩ => by
  obtain ⟨x, hx, e1⟩ := map_some hm
  cases e1
  exact goE (d := x.1) (e' := x.2) (Cf.start r s w) hx fun t env1 H1 e1 e2 c1 _ => (k [t] σ env1 H1 e2 c1 (fun _ _ => rfl)).1 t rfl e1
theorem ss_if {c : Expr} {mc : TM} (hc : SET X c mc) (h1 : SSs X P body mS) (h2 : SSs X P orelse nS) : SS X P (.If c body orelse pos) (sIf mc mS nS) := PS.weak (ps_if hc h1 h2) fun De σ H ⟨env, o, e', hm, r, s, w, k⟩ => by
  obtain ⟨x, hx, hm⟩ := bind_some hm
  refine goET (b := x.1) (e' := x.2) (Cf.start r s w) hx fun env1 H1 e1 c1 => ?_
  have fin : ∀ {n : SM}, n x.2 = some (o, e') → trS X P n De σ H1 := fun {n} hn => ⟨env1, o, e', by rw [e1]; exact hn, c1.rel, c1.satE, c1.base, fun F σ2 env2 H2 e2 c2 p2 => k F σ2 env2 H2 e2 (by
    have := c1.step c2
    rw [List.append_nil] at this
    exact this) p2⟩
  cases hb : x.1 with
  | true =>
    rw [hb, if_pos rfl] at hm
    rw [if_pos rfl]
    exact fin hm
  | false =>
    rw [hb, if_neg Bool.false_ne_true] at hm
    rw [if_neg Bool.false_ne_true]
    exact fin hm
@[simp] def sAsg (g : Tg) (m : PM) : SM := fun env => (m env).bind fun d => if d.pure = true then (bD g d env).map fun e' => (.nx, e') else none
def sAug (i : Nat) (f : Int → Int → Int) (m : PM) : SM := fun env => (m env).bind fun y => match env[i]?.join, y with
  | some (.s (.int a)), .s (.int b) => some (.nx, env.set i (some (.s (.int (f a b)))))
  | _, _ => none

def forD (g : Tg) (mb : SM) : List D → SM
  | [], env => some (.nx, env)
  | d :: ds, env => (bD g d env).bind fun e1 => (mb e1).bind fun x => match x.1 with
    | .nx => forD g mb ds x.2
    | .ct => forD g mb ds x.2
    | .bk => some (.nx, x.2)
    | .rt r => some (.rt r, x.2)
@[simp] def sFor (mi : LM) (g : Tg) (mb : SM) : SM := fun env => (mi env).bind fun ds => if pureL ds = true then forD g mb ds env else none
theorem pureL_at : ∀ {ds : List D} {i : Nat} {d : D}, pureL ds = true → ds[i]? = some d → d.pure = true
  | [], _, _, _, h => by simp at h
  | x :: ds, 0, d, hp, h => by
    rw [pureL, Bool.and_eq_true] at hp
    cases h
    exact hp.1
  | x :: ds, i + 1, d, hp, h => by
    rw [pureL, Bool.and_eq_true] at hp
    exact pureL_at hp.2 (by simpa using h)
theorem ss_for {mi : LM} {g : Tg} (hc : X.calm = true) (hp : PassesOwn (model X.prog X.w) X.A X.env X.xe) (hi : SJ X tg iter mi) (hg : SG X tg g) (hb : SSs X P body mS) (hP : ∀ i ∈ g.sl, i ∉ P) (hs : ∀ x, foldedSetIterable iter X.env x = pure x := by intro _; rfl) :
    SS X P (.For tg iter body [] pos) (sFor mi g mS) := PS.weak (ps_for hp hc hi hg hb hs) fun De σ H ⟨env, o, e', hm, r, s, w, k⟩ => by
  obtain ⟨ds, hds, hm⟩ := bind_some hm
  split at hm
  case isFalse => cases hm
  rename_i hpu
  refine ⟨env, ds, hds, r, s, fun J src H1 x1 ss os wk => ?_⟩
  refine ⟨fun i mm σi Hi => i ≤ ds.length ∧ mm = ds.length - i ∧ ∃ envi, forD g mS (ds.drop i) (erE envi) = some (o, e') ∧ Cf X.K H env σi Hi src envi ∧ ∀ j ∈ P, σi[j]? = σ[j]?,
    ⟨ds.length, Nat.zero_le _, rfl, env, hm, Cf.pureL r s w x1 ss os, fun _ _ => rfl⟩, fun i mm σi Hi W => ?_⟩
  obtain ⟨le, ms, envi, hf, c, pi⟩ := W
  by_cases hlt : i < ds.length
  · refine .inr ⟨wk.go i Hi c.satF hlt, fun σ' H' => ∃ m', m' < mm ∧ (i + 1 ≤ ds.length ∧ m' = ds.length - (i + 1) ∧ ∃ envi, forD g mS (ds.drop (i + 1)) (erE envi) = some (o, e') ∧ Cf X.K H env σ' H' src envi ∧ ∀ j ∈ P, σ'[j]? = σ[j]?), fun σ' H' h => h, fun x H3 hy => ?_⟩
    have hd := List.getElem?_eq_getElem hlt
    obtain ⟨t, rfl, et, x3, s3, c3, u3⟩ := wk.yld i Hi x H3 c.satF hy _ hd
    rw [List.drop_eq_getElem_cons hlt, forD] at hf
    obtain ⟨e1, hb1, hf⟩ := bind_some hf
    obtain ⟨y, hb2, hf⟩ := bind_some hf
    rw [← et] at hb1
    have pt : t.er.pure = true := by rw [et]; exact pureL_at hpu hd
    refine g_run g t σi envi e1 _ c.rel s3 hb1 fun σ2 env2 B => ?_
    have c2 : Cf X.K H env σ2 H3 src env2 := Cf.bind c x3 (fun a => pure_co t pt) (fun a q => (u3 a q).elim .inl fun z => .inr (.inr z)) s3 B
    refine ⟨env2, y.1, y.2, by rw [B.er]; exact hb2, c2.rel, c2.satE, c2.base, fun F σ3 env3 H4 e3 c4 p4 => ?_⟩
    have c5 := c2.step c4
    have p5 : ∀ j ∈ P, σ3[j]? = σ[j]? := fun j hj => (p4 j hj).trans ((B.out j fun z => hP j z hj).1.trans (pi j hj))
    obtain ⟨yo, ye⟩ := y
    cases yo with
    | nx =>
      intro hF
      subst hF
      exact ⟨mm - 1, by omega, hlt, by omega, env3, by rw [e3]; exact hf, c5, p5⟩
    | ct =>
      intro hF
      subst hF
      exact ⟨mm - 1, by omega, hlt, by omega, env3, by rw [e3]; exact hf, c5, p5⟩
    | bk =>
      intro hF
      subst hF
      cases hf
      exact k [] σ3 env3 H4 e3 c5.toNil p5 rfl
    | rt d =>
      cases hf
      exact k F σ3 env3 H4 e3 c5.dropB p5
  · have hi3 : ds.length ≤ i := Nat.le_of_not_lt hlt
    refine .inl ⟨wk.stop i Hi c.satF hi3, ?_⟩
    rw [List.drop_eq_nil_of_le hi3, forD] at hf
    cases hf
    exact k [] σi envi Hi rfl c.toNil pi rfl
def whD (mc : TM) (mb : SM) : Nat → SM
  | 0, _ => none
  | n + 1, env => (mc env).bind fun x => if x.1 = true then (mb x.2).bind fun y => match y.1 with
      | .nx => whD mc mb n y.2
      | .ct => whD mc mb n y.2
      | .bk => some (.nx, y.2)
      | .rt r => some (.rt r, y.2)
    else some (.nx, x.2)
theorem ss_while {c : Expr} {mc : TM} (n : Nat) (hp : PassesOwn (model X.prog X.w) X.A X.env X.xe) (hc : SET X c mc) (hb : SSs X P body mS) : SS X P (.While c body [] pos) (whD mc mS n) := PS.weak (ps_while hp hc hb) fun De σ H ⟨env, o, e', hm, r, s, w, k⟩ => by
  refine ⟨fun mm σi Hi => ∃ envi, whD mc mS mm (erE envi) = some (o, e') ∧ Cf X.K H env σi Hi [] envi ∧ ∀ j ∈ P, σi[j]? = σ[j]?, ⟨n, env, hm, Cf.start r s w, fun _ _ => rfl⟩, fun mm σi Hi W => ?_⟩
  obtain ⟨envi, hf, ci, pi⟩ := W
  cases mm with
  | zero => cases hf
  | succ mm =>
    rw [whD] at hf
    obtain ⟨x, hx, hf⟩ := bind_some hf
    refine goET (b := x.1) (e' := x.2) ci hx fun env1 H1 e1 c1 => ?_
    obtain ⟨xb, xe⟩ := x
    cases xb with
    | true =>
      dsimp only at hf ⊢
      rw [if_pos rfl] at hf ⊢
      obtain ⟨y, hy, hf⟩ := bind_some hf
      refine ⟨fun σ' H' => ∃ m', m' < mm + 1 ∧ ∃ envi, whD mc mS m' (erE envi) = some (o, e') ∧ Cf X.K H env σ' H' [] envi ∧ ∀ j ∈ P, σ'[j]? = σ[j]?, fun σ' H' h => h, ?_⟩
      refine ⟨env1, y.1, y.2, by rw [e1]; exact hy, c1.rel, c1.satE, c1.base, fun F σ3 env3 H4 e3 c4 p4 => ?_⟩
      have c5 := c1.step c4
      rw [List.append_nil] at c5
      have p5 : ∀ j ∈ P, σ3[j]? = σ[j]? := fun j hj => (p4 j hj).trans (pi j hj)
      obtain ⟨yo, ye⟩ := y
      cases yo with
      | nx =>
        intro hF
        subst hF
        exact ⟨mm, by omega, env3, by rw [e3]; exact hf, c5, p5⟩
      | ct =>
        intro hF
        subst hF
        exact ⟨mm, by omega, env3, by rw [e3]; exact hf, c5, p5⟩
      | bk =>
        intro hF
        subst hF
        cases hf
        exact k [] σ3 env3 H4 e3 c5 p5 rfl
      | rt d =>
        cases hf
        exact k F σ3 env3 H4 e3 c5 p5
    | false =>
      dsimp only at hf ⊢
      rw [if_neg Bool.false_ne_true] at hf ⊢
      cases hf
      exact k [] σi env1 H1 e1 c1 pi rfl


@[simp] def frzAt (i : Nat) (env : Env) : Env := match env[i]?.join with
  | some d => env.set i (some d.frz)
  | none => env
theorem sss_weakE (h : SSs X P rest mS) {nS : SM} (w : ∀ (De : Ends) σ H, trS X P nS De σ H → trS X P mS De σ H) : SSs X P rest nS := PSs.weak h fun De σ H z => w De σ H z
theorem sss_frz (i : Nat) (h : SSs X P rest mS) : SSs X P rest (fun env => mS (frzAt i env)) := sss_weakE h fun De σ H ⟨env, o, e', hm, r, s, w, k⟩ => by
  unfold frzAt at hm
  dsimp only at hm
  split at hm
  · rename_i d hd
    obtain ⟨t, h1, h2⟩ := join_get hd
    have h1' : env[i]? = some (some t) := h1
    have l1 : ∀ a, coE a (env.set i (some t.frz)) + t.co a = coE a env := fun a => by
      have := coE_set (a := a) (some t.frz) h1'
      simp only [oT, frz_co] at this
      omega
    have l2 : ∀ a, cuE a (env.set i (some t.frz)) = t.co a + cuE a env := fun a => by
      have := cuE_set (a := a) (some t.frz) h1'
      simp only [oT, frz_cu] at this
      omega
    have l3 : ∀ a, t.co a ≤ coE a env := fun a => coE_get h1'
    refine ⟨env.set i (some t.frz), o, e', ?_, r.swap h1' (frz_val t), s.set fun u hu => by cases hu; exact frz_sat t (s.get h1'), fun a => ?_, fun F σ' env' H' e1 c1 p1 => ?_⟩
    · rw [erE_set]
      show mS ((erE env).set i (some t.frz.er)) = _
      rw [frz_er, h2]
      exact hm
    · have := w a
      have := l1 a
      have := l2 a
      have := l3 a
      simp only [coL, cuL, Nat.zero_add] at *
      omega
    · refine k F σ' env' H' e1 ⟨c1.rel, c1.satF, c1.satE, c1.wf, ?_⟩ p1
      refine Stp.trans (H1 := H) (c1 := fun a => coL a [] + coE a (env.set i (some t.frz))) (u1 := fun a => cuL a [] + cuE a (env.set i (some t.frz))) ⟨fun a o h _ => h, fun a h => h, fun a => ?_⟩ c1.stp
      have := l1 a
      have := l2 a
      have := l3 a
      simp only [coL, cuL, Nat.zero_add]
      exact ⟨fun q => .inl (by omega), fun q => if z : 0 < t.co a then .inl (by omega) else .inr (.inl (by omega))⟩
  · exact ⟨env, o, e', hm, r, s, w, k⟩
end
end Ow

namespace Ow
open PySem L2


@[simp] def initD (n : Nat) (ds : List D) : Env := ds.map some ++ List.replicate (n - ds.length) none
@[simp] def runP (n : Nat) (mS : SM) : FM := fun ds => (mS (initD n ds)).bind fun x => match x.1 with
  | .rt d => if d.isx = true then none else some d
  | .nx => some (.s .non)
  | _ => none
theorem start_eq {N : List Str} {vs : List V} (h : vs.length ≤ N.length) : L2.start N vs = vs.map some ++ List.replicate (N.length - vs.length) none := by
  unfold L2.start
  rfl
section
variable {K : PySem.W.Frag} {H H' : Hp} {a : Addr}
def initT (n : Nat) (ts : List T) : TEnv := ts.map some ++ List.replicate (n - ts.length) none
theorem init_er (n : Nat) (ts : List T) : erE (initT n ts) = initD n (erL ts) := by
  rw [erE, initT, initD, List.map_append, List.map_replicate, erL_length, erL_map, List.map_map, List.map_map]
  rfl
theorem init_co (n : Nat) (ts : List T) : coE a (initT n ts) = coL a ts := by
  rw [initT]
  induction ts with
  | nil =>
    rw [List.map_nil, List.nil_append, coL]
    generalize n - ([] : List T).length = k
    induction k with
    | zero => rfl
    | succ k ih => rw [List.replicate_succ, coE, ih]; rfl
  | cons t ts ih =>
    have : ∀ k, coE a (ts.map some ++ List.replicate k none) = coL a ts := fun k => by
      clear ih
      induction ts with
      | nil =>
        rw [List.map_nil, List.nil_append, coL]
        induction k with
        | zero => rfl
        | succ k ih => rw [List.replicate_succ, coE, ih]; rfl
      | cons u us ih2 => rw [List.map_cons, List.cons_append, coE, coL, ih2]; rfl
    rw [List.map_cons, List.cons_append, coE, coL, this]; rfl
theorem init_cu (n : Nat) (ts : List T) : cuE a (initT n ts) = cuL a ts := by
  have : ∀ k, cuE a (ts.map some ++ List.replicate k none) = cuL a ts := fun k => by
    induction ts with
    | nil =>
      rw [List.map_nil, List.nil_append, cuL]
      induction k with
      | zero => rfl
      | succ k ih => rw [List.replicate_succ, cuE, ih]; rfl
    | cons u us ih2 => rw [List.map_cons, List.cons_append, cuE, cuL, ih2]; rfl
  rw [initT, this]
theorem init_sat {n : Nat} {ts : List T} (h : satL K H ts) : SatE K H (initT n ts) := fun t ht => by
  rcases List.mem_append.mp ht with q | q
  · obtain ⟨u, hu, e⟩ := List.mem_map.mp q
    cases e
    exact satL_iff.mp h _ hu
  · exact absurd (List.eq_of_mem_replicate q) (by simp)
theorem init_rel {N : List Str} {ts : List T} (h : ts.length ≤ N.length) : Rel (L2.start N (vals ts)) (initT N.length ts) := by
  rw [start_eq (by rw [List.length_map]; exact h), initT]
  refine ⟨by simp, fun i t ht => ?_⟩
  by_cases q : i < ts.length
  · rw [List.getElem?_append_left (by rw [List.length_map]; exact q), List.getElem?_map] at ht
    rw [List.getElem?_append_left (by rw [List.length_map, List.length_map]; exact q), List.getElem?_map, List.getElem?_map]
    obtain ⟨u, hu, e⟩ := map_some ht
    cases e
    rw [hu]; rfl
  · rw [List.getElem?_append_right (by rw [List.length_map]; omega)] at ht
    exact absurd (List.eq_of_mem_replicate (List.mem_of_getElem? ht)) (by simp)
end
section
variable {P : Program} {w : World} {K : PySem.W.Frag} {mg : Str → Option Value} {base : Heap}
theorem fn_pure {x qual : Str} {st : Stmt} {f : Addr} {fd : FuncData} {N ps : List Str} {k : Nat} {mS : SM} (F : Fun K x qual st f fd) (S : FnScope N ps (defScope st)) (hl : ps.length ≤ N.length)
    (hbody : ∀ (cdv : Value) (A : Around) (outer : List PySem.Env) (s : Shared) (H : Hp) (E : XK), Room k (A.deeper (PyProof.Rows.envOfC qual (defScope st) s.heap.objs.size f cdv)) → SSs (cxOf CX0 P w K mg base N qual (defScope st) f cdv A outer s H E).nox [] (defBody st) mS) :
    FnOk P w K mg base CX0 (k + 1) f fd ps (spP K ps.length (runP N.length mS)) := by
  refine F.ok S (fun vs H Q E ⟨ts, d, e1, e2, _⟩ => by rw [e1, List.length_map, e2]) fun cdv A outer s H vs Q E hr ⟨ts, d, e1, e2, s1, hf, kk⟩ => ⟨_, hbody cdv A outer s H E hr, ?_⟩
  subst e1
  obtain ⟨x, hx, hm⟩ := bind_some hf
  rw [← frzL_er] at hx
  have hv : vals ts = vals (frzL ts) := (frzL_vals ts).symm
  have hlen : (frzL ts).length = ts.length := by
    have := congrArg List.length hv
    simpa using this.symm
  rw [hv]
  have nc : ∀ a, coE a (initT N.length (frzL ts)) = 0 := fun a => by rw [init_co, frzL_co]
  refine ⟨initT N.length (frzL ts), x.1, x.2, by rw [init_er]; exact hx, init_rel (by rw [hlen, e2]; exact hl), init_sat (frzL_sat ts s1), fun a => ?_, fun F σ' env' H' e3 c _ => ?_⟩
  · simp only [coL, cuL, Nat.zero_add, nc]
    simp
  · have hx2 : Ex H H' := fun a o h => c.stp.1 a o h (by simp only [coL, nc])
    have fin : ∀ t : T, F = [t] → t.er = d → Q t.val H' := fun t hF et => by
      subst hF
      refine kk t H' et hx2 c.satF.1 fun a => ?_
      have w1 := c.wf a
      have s2 := c.stp.2.2 a
      simp only [coL, cuL, Nat.zero_add, Nat.add_zero, nc, init_cu, frzL_cu] at w1 s2
      refine ⟨by omega, fun q => ?_, fun q => ?_⟩
      · rcases s2.1 (by omega) with z | z
        · exact absurd z (Nat.lt_irrefl _)
        · exact z
      · rcases s2.2 (by omega) with z | z | z
        · exact absurd z (Nat.lt_irrefl _)
        · by_cases q2 : 0 < coL a ts
          · exact .inl q2
          · exact .inr (.inl (by omega))
        · exact .inr (.inr z)
    obtain ⟨xo, xe⟩ := x
    cases xo with
    | nx =>
      intro hF
      cases hm
      subst hF
      exact kk (.s .non) H' rfl hx2 trivial fun a => ⟨⟨Nat.zero_le _, .inl rfl⟩, fun q => absurd q (by simp [T.co]), fun q => absurd q (by simp [T.cu])⟩
    | bk => cases hm
    | ct => cases hm
    | rt d' =>
      dsimp only at hm
      split at hm
      case isTrue => cases hm
      rename_i hx3
      cases hm
      exact ⟨fin, fun n C hC _ _ => by subst hC; exact absurd rfl hx3⟩
end
end Ow

namespace Ow
open PySem L2


@[simp] def pickD : List Nat → Env → Option (List D)
  | [], _ => some []
  | i :: is, env => (env[i]?.join).bind fun d => (pickD is (env.set i none)).map (d :: ·)
@[simp] def runM (n : Nat) (mu : List Nat) (mS : SM) : List D → Option (D × List D) := fun ds => (mS (initD n ds)).bind fun x => match x.1 with
  | .rt d => if d.isx = true then none else (pickD mu x.2).map fun os => (d, os)
  | .nx => (pickD mu x.2).map fun os => (.s .non, os)
  | _ => none
abbrev FMu := List D → Option (D × List D)
def spM (K : PySem.W.Frag) (n : Nat) (mu : List Nat) (f : FMu) : Sp := fun vs H Q _ => ∃ ts d os, vs = vals ts ∧ ts.length = n ∧ satL K H ts ∧ Wf (fun a => coL a ts) (fun a => cuL a ts) ∧ f (erL ts) = some (d, os) ∧
  ∀ (t : T) (us : List T) H', t.er = d → erL us = os → (∀ j i : Nat, mu[j]? = some i → ∀ v, vs[i]? = some v → (vals us)[j]? = some v) → t.sat K H' → satL K H' us → Wf (fun a => t.co a + coL a us) (fun a => t.cu a + cuL a us) →
    Stp H (fun a => coL a ts) (fun a => cuL a ts) H' (fun a => t.co a + coL a us) (fun a => t.cu a + cuL a us) → Q t.val H'
section
variable {K : PySem.W.Frag} {H H' : Hp}
theorem pick_run : ∀ {mu : List Nat} {env : TEnv} {os : List D}, SatE K H env → pickD mu (erE env) = some os →
    ∃ us, erL us = os ∧ satL K H us ∧ (∀ a, coL a us ≤ coE a env) ∧ (∀ a, cuL a us ≤ cuE a env) ∧ ∀ j i : Nat, mu[j]? = some i → ∃ t, us[j]? = some t ∧ env[i]? = some (some t)
  | [], env, os, s, h => by
    rw [pickD] at h
    cases h
    exact ⟨[], rfl, trivial, fun a => Nat.zero_le _, fun a => Nat.zero_le _, fun j i hj => by simp at hj⟩
  | i :: is, env, os, s, h => by
    rw [pickD] at h
    obtain ⟨d, h1, h⟩ := bind_some h
    obtain ⟨os', h2, rfl⟩ := map_some h
    obtain ⟨t, e1, e2⟩ := join_get h1
    rw [show (erE env).set i none = erE (env.set i none) from (erE_set (o := none)).symm] at h2
    obtain ⟨us, g1, g2, g3, g4, g5⟩ := pick_run (mu := is) (s.set fun u hu => by cases hu) h2
    refine ⟨t :: us, by rw [erL, e2, g1], ⟨s.get e1, g2⟩, fun a => ?_, fun a => ?_, fun j k hj => ?_⟩
    · have := coE_set (a := a) none e1
      have := g3 a
      simp only [oT] at *
      rw [coL]; omega
    · have := cuE_set (a := a) none e1
      have := g4 a
      simp only [oT] at *
      rw [cuL]; omega
    · cases j with
      | zero =>
        simp at hj
        subst hj
        exact ⟨t, rfl, e1⟩
      | succ j =>
        simp at hj
        obtain ⟨u, hu, hk⟩ := g5 j k hj
        refine ⟨u, by simpa using hu, ?_⟩
        rw [List.getElem?_set] at hk
        split at hk
        · split at hk <;> cases hk
        · exact hk
end
section
variable {P : Program} {w : World} {K : PySem.W.Frag} {mg : Str → Option Value} {base : Heap}
theorem fn_mut {x qual : Str} {st : Stmt} {f : Addr} {fd : FuncData} {N ps : List Str} {k : Nat} {mS : SM} {mu : List Nat} (F : Fun K x qual st f fd) (S : FnScope N ps (defScope st)) (hl : ps.length ≤ N.length) (hmu : ∀ i ∈ mu, i < ps.length)
    (hbody : ∀ (cdv : Value) (A : Around) (outer : List PySem.Env) (s : Shared) (H : Hp) (E : XK), Room k (A.deeper (PyProof.Rows.envOfC qual (defScope st) s.heap.objs.size f cdv)) → SSs (cxOf CX0 P w K mg base N qual (defScope st) f cdv A outer s H E).nox mu (defBody st) mS) :
    FnOk P w K mg base CX0 (k + 1) f fd ps (spM K ps.length mu (runM N.length mu mS)) := by
  refine F.ok S (fun vs H Q E ⟨ts, d, os, e1, e2, _⟩ => by rw [e1, List.length_map, e2]) fun cdv A outer s H vs Q E hr ⟨ts, d, os, e1, e2, s1, wf, hf, kk⟩ => ⟨_, hbody cdv A outer s H E hr, ?_⟩
  subst e1
  obtain ⟨x, hx, hm⟩ := bind_some hf
  have r0 : Rel (L2.start N (vals ts)) (initT N.length ts) := init_rel (by rw [e2]; exact hl)
  refine ⟨initT N.length ts, x.1, x.2, by rw [init_er]; exact hx, r0, init_sat s1, fun a => ?_, fun F σ' env' H' e3 c p => ?_⟩
  · have := wf a
    simp only [coL, cuL, Nat.zero_add, init_co, init_cu] at this ⊢
    exact this
  · have fin : ∀ (t : T) (F' : List T) (os' : List D), (∀ a, t.co a + coE a env' ≤ coL a F + coE a env') → (∀ a, t.cu a + cuE a env' ≤ cuL a F + cuE a env') → t.sat K H' → t.er = d → pickD mu x.2 = some os' → os' = os → Q t.val H' := fun t F' os' n1 n2 st et ho eo => by
      subst eo
      rw [← e3] at ho
      obtain ⟨us, g1, g2, g3, g4, g5⟩ := pick_run c.satE ho
      have c2 := c.less (F' := t :: us) (env' := []) (σ' := []) ⟨rfl, fun i t h => by simp at h⟩ ⟨st, g2⟩ (fun u hu => by cases hu) (fun a => by have := n1 a; have := g3 a; simp only [coL, coE]; omega) (fun a => by have := n2 a; have := g4 a; simp only [cuL, cuE]; omega)
      refine kk t us H' et g1 (fun j i hj v hv => ?_) st g2 (fun a => ?_) ?_
      · obtain ⟨u, hu, hi⟩ := g5 j i hj
        have q := c.rel.2 i u hi
        rw [p i (List.mem_of_getElem? hj)] at q
        have hi2 := hmu i (List.mem_of_getElem? hj)
        rw [vals, List.getElem?_map] at hv
        obtain ⟨tv, htv, rfl⟩ := map_some hv
        have q0 := r0.2 i tv (by rw [initT, List.getElem?_append_left (by rw [List.length_map, e2]; exact hi2), List.getElem?_map, htv]; rfl)
        rw [q0] at q
        have q1 : tv.val = u.val := Option.some.inj (Option.some.inj q)
        rw [vals, List.getElem?_map, hu, q1]; rfl
      · have := c2.wf a
        simp only [coL, cuL, coE, cuE, Nat.add_zero] at this
        exact this
      · have := c2.stp
        simp only [StpF, coL, cuL, coE, cuE, Nat.add_zero, Nat.zero_add, init_co, init_cu] at this
        exact this
    obtain ⟨xo, xe⟩ := x
    cases xo with
    | nx =>
      intro hF
      obtain ⟨os', ho, e4⟩ := map_some hm
      cases e4
      exact fin (.s .non) [] os (fun a => by simp [T.co]) (fun a => by simp [T.cu]) trivial rfl ho rfl
    | bk => cases hm
    | ct => cases hm
    | rt d' =>
      dsimp only at hm
      split at hm
      case isTrue => cases hm
      rename_i hx3
      obtain ⟨os', ho, e4⟩ := map_some hm
      cases e4
      refine ⟨fun t hF et => ?_, fun n C hC _ _ => by subst hC; exact absurd rfl hx3⟩
      subst hF
      exact fin t [] os (fun a => by simp only [coL]; omega) (fun a => by simp only [cuL]; omega) c.satF.1 et ho rfl
end


inductive As where
  | ev (m : EM)
  | tm (m : EM)
  | bor (i : Nat)
  | mv (i : Nat)
@[simp] def evA : List As → Env → Option (List D × Env)
  | [], env => some ([], env)
  | .ev m :: r, env => (m env).bind fun x => (evA r x.2).map fun y => (x.1 :: y.1, y.2)
  | .tm m :: r, env => (m env).bind fun x => (evA r x.2).map fun y => (x.1 :: y.1, y.2)
  | .bor _ :: r, env => evA r env
  | .mv _ :: r, env => evA r env
@[simp] def insA : List As → List D → Env → Option (List D × Env)
  | [], _, env => some ([], env)
  | .ev _ :: r, d :: ds, env => (insA r ds env).map fun y => (d.frz :: y.1, y.2)
  | .ev _ :: _, [], _ => none
  | .tm _ :: r, d :: ds, env => (insA r ds env).map fun y => (d :: y.1, y.2)
  | .tm _ :: _, [], _ => none
  | .bor i :: r, ds, env => (env[i]?.join).bind fun d => (insA r ds env).map fun y => (d.frz :: y.1, y.2)
  | .mv i :: r, ds, env => (env[i]?.join).bind fun d => (insA r ds (env.set i none)).map fun y => (d :: y.1, y.2)
@[simp] def putA : List As → List D → Env → Option Env
  | [], [], env => some env
  | .mv i :: r, o :: os, env => putA r os (env.set i (some o))
  | .tm _ :: r, _ :: os, env => putA r os env
  | .ev _ :: r, os, env => putA r os env
  | .bor _ :: r, os, env => putA r os env
  | _, _, _ => none
@[simp] def muS : List As → List Nat
  | [] => []
  | .mv i :: r => i :: muS r
  | .ev _ :: r => muS r
  | .tm _ :: r => muS r
  | .bor _ :: r => muS r
@[simp] def boS : List As → List Nat
  | [] => []
  | .bor i :: r => i :: boS r
  | .ev _ :: r => boS r
  | .tm _ :: r => boS r
  | .mv _ :: r => boS r
def muP : Nat → List As → List Nat
  | _, [] => []
  | n, .mv _ :: r => n :: muP (n + 1) r
  | n, .ev _ :: r => muP (n + 1) r
  | n, .tm _ :: r => n :: muP (n + 1) r
  | n, .bor _ :: r => muP (n + 1) r
@[simp] def eCallM (f : FMu) (as : List As) : EM := fun env => if ((muS as ++ boS as).all fun i => (env[i]?.join).isSome) = false then none else (evA as env).bind fun x => (insA as x.1 x.2).bind fun y => (f y.1).bind fun z => if (z.1.noF && noFL z.2) = true then (putA as z.2 y.2).map fun e => (z.1, e) else none
def ArgV (σ : L2.St) : List As → List T → List V → Prop
  | [], F, vs => F = [] ∧ vs = []
  | .ev _ :: r, t :: F, vs => ∃ vs', vs = t.val :: vs' ∧ ArgV σ r F vs'
  | .ev _ :: _, [], _ => False
  | .tm _ :: r, t :: F, vs => ∃ vs', vs = t.val :: vs' ∧ ArgV σ r F vs'
  | .tm _ :: _, [], _ => False
  | .bor i :: r, F, vs => ∃ v vs', vs = v :: vs' ∧ σ[i]? = some (some v) ∧ ArgV σ r F vs'
  | .mv i :: r, F, vs => ∃ v vs', vs = v :: vs' ∧ σ[i]? = some (some v) ∧ ArgV σ r F vs'
def trEA (K : PySem.W.Frag) (U : List Nat) (as : List As) : TA := fun σ H Q => ∃ env ds e', evA as (erE env) = some (ds, e') ∧ Rel σ env ∧ SatE K H env ∧ WfF [] env ∧ (∀ i ∈ muS as ++ boS as, ∃ v, σ[i]? = some (some v)) ∧
  ∀ F env' H' vs, erL F = ds → erE env' = e' → Cf K H env σ H' F env' → (∀ i ∈ U, env'[i]? = env[i]?) → ArgV σ as F vs → Q vs H'
def SEA (X : Cx) (U : List Nat) (es : List Expr) (as : List As) : Prop := PA X es (trEA X.K U as)
section
variable {X : Cx} {e : Expr} {es : List Expr} {pos p : Pos} {U : List Nat} {as : List As}
theorem sea_nil : SEA X U [] [] := PA.weak pa_nil fun σ H Q ⟨env, ds, e', hm, r, s, w, hv, k⟩ => by
  cases hm
  exact k [] env H [] rfl rfl (Cf.start r s w) (fun _ _ => rfl) ⟨rfl, rfl⟩
theorem sea_ev {m : EM} (h : SE X U e m) (hr : SEA X U es as) (hs : starEach (e :: es) X.env = (false, eval e X.env) :: starEach es X.env := by rfl) : SEA X U (e :: es) (.ev m :: as) := PA.weak (pa_cons h hr hs) fun σ H Q ⟨env, ds, e', hm, r, s, w, hv, k⟩ => by
  rw [evA] at hm
  obtain ⟨x, hx, hm⟩ := bind_some hm
  obtain ⟨y, hy, e1⟩ := map_some hm
  cases e1
  refine goE (d := x.1) (e' := x.2) (Cf.start r s w) hx fun t env1 H1 e1 e2 c1 u1 => ?_
  refine ⟨env1, y.1, y.2, by rw [e2]; exact hy, c1.rel, c1.satE, c1.base, hv, fun F env2 H2 vs e3 e4 c2 u2 av => ?_⟩
  have c3 := c1.step c2
  have c4 : Cf X.K H env σ H2 (t :: F) env2 := c3.less c3.rel ⟨(satL_append.mp c3.satF).2.1, (satL_append.mp c3.satF).1⟩ c3.satE (fun a => by simp only [coL_append, coL]; omega) (fun a => by simp only [cuL_append, cuL]; omega)
  exact k (t :: F) env2 H2 (t.val :: vs) (by rw [erL, e1, e3]) e4 c4 (fun i hi => (u2 i hi).trans (u1 i hi)) ⟨vs, rfl, av⟩
theorem sea_nm {x : Str} {i : Nat} {mk : Nat → As} (hmk : mk = .bor ∨ mk = .mv) (hr : SEA X U es as) (hN : X.N[i]? = some x := by rfl) (hv : Vis X.env.scope x := by first | exact .inl rfl | exact .inr (.inl rfl) | exact .inr (.inr rfl))
    (hd : (x == ("__debug__" : Str)) = false := by decide) (hcd : (x == ("__classdict__" : Str)) = false := by decide) (hs : starEach (.Name x p :: es) X.env = (false, eval (.Name x p) X.env) :: starEach es X.env := by rfl) : SEA X U (.Name x p :: es) (mk i :: as) :=
  PA.weak (pa_cons (pe_var (i := i) hN hv hd hcd) hr hs) fun σ H Q ⟨env, ds, e', hm, r, s, w, hv, k⟩ => by
    have hm2 : evA as (erE env) = some (ds, e') := by
      rcases hmk with q | q <;> (subst q; rw [evA] at hm; exact hm)
    have hin : i ∈ muS (mk i :: as) ++ boS (mk i :: as) := by
      rcases hmk with q | q <;> (subst q; simp [muS, boS])
    obtain ⟨v, hvi⟩ := hv i hin
    refine ⟨v, hvi, env, ds, e', hm2, r, s, w, fun j hj => hv j ?_, fun F env' H' vs e1 e2 c u av => k F env' H' (v :: vs) e1 e2 c u ?_⟩
    · rcases hmk with q | q <;> (subst q; simp [muS, boS] at hj ⊢; rcases hj with h | h <;> simp [h])
    · rcases hmk with q | q <;> (subst q; exact ⟨v, vs, rfl, hvi, av⟩)
theorem sea_bor {x : Str} (i : Nat) (hr : SEA X U es as) (hN : X.N[i]? = some x := by rfl) (hv : Vis X.env.scope x := by first | exact .inl rfl | exact .inr (.inl rfl) | exact .inr (.inr rfl))
    (hd : (x == ("__debug__" : Str)) = false := by decide) (hcd : (x == ("__classdict__" : Str)) = false := by decide) (hs : starEach (.Name x p :: es) X.env = (false, eval (.Name x p) X.env) :: starEach es X.env := by rfl) : SEA X U (.Name x p :: es) (.bor i :: as) := sea_nm (.inl rfl) hr hN hv hd hcd hs
theorem sea_mut {x : Str} (i : Nat) (hr : SEA X U es as) (hN : X.N[i]? = some x := by rfl) (hv : Vis X.env.scope x := by first | exact .inl rfl | exact .inr (.inl rfl) | exact .inr (.inr rfl))
    (hd : (x == ("__debug__" : Str)) = false := by decide) (hcd : (x == ("__classdict__" : Str)) = false := by decide) (hs : starEach (.Name x p :: es) X.env = (false, eval (.Name x p) X.env) :: starEach es X.env := by rfl) : SEA X U (.Name x p :: es) (.mv i :: as) := sea_nm (.inr rfl) hr hN hv hd hcd hs
end
structure Ins (K : PySem.W.Frag) (σ : L2.St) (H : Hp) (as : List As) (vs : List V) (F : List T) (env : TEnv) (ins : List T) (envR : TEnv) (is : List D) (eR : Env) (evc : Addr → Nat) : Prop where
  er : erL ins = is
  erR : erE envR = eR
  rel : Rel σ envR
  vl : vals ins = vs
  sat : satL K H ins
  satR : SatE K H envR
  co : ∀ a, coL a ins + coE a envR + evc a = coE a env + coL a F
  cuR : ∀ a, cuE a envR ≤ cuE a env
  cu : ∀ a, 0 < cuL a ins → 0 < evc a ∨ 0 < cuL a F ∨ 0 < cuE a env ∨ ∃ j ∈ boS as, ∃ t : T, env[j]? = some (some t) ∧ 0 < t.co a
  out : ∀ i, i ∉ muS as → envR[i]? = env[i]?
  len : envR.length = env.length
section
variable {K : PySem.W.Frag} {H : Hp} {σ : L2.St}
theorem ins_run : ∀ {as : List As} {vs : List V} {F : List T} {env : TEnv} {is : List D} {eR : Env}, Rel σ env → satL K H F → SatE K H env → ArgV σ as F vs → insA as (erL F) (erE env) = some (is, eR) → ∃ ins envR evc, Ins K σ H as vs F env ins envR is eR evc
  | [], vs, F, env, is, eR, r, sF, s, av, h => by
    obtain ⟨rfl, rfl⟩ := av
    rw [insA] at h
    cases h
    exact ⟨[], env, fun _ => 0, rfl, rfl, r, rfl, trivial, s, fun a => by rw [coL]; omega, fun a => Nat.le_refl _, fun a h => absurd h (by rw [cuL]; omega), fun _ _ => rfl, rfl⟩
  | .ev m :: as, vs, [], env, is, eR, r, sF, s, av, h => by cases av
  | .tm m :: as, vs, [], env, is, eR, r, sF, s, av, h => by cases av
  | .ev m :: as, vs, t :: F, env, is, eR, r, sF, s, av, h => by
    obtain ⟨vs', rfl, av⟩ := av
    rw [erL, insA] at h
    obtain ⟨y, hy, e1⟩ := map_some h
    cases e1
    obtain ⟨ins, envR, evc, I⟩ := ins_run r sF.2 s av hy
    refine ⟨t.frz :: ins, envR, fun a => t.co a + evc a, by rw [erL, frz_er, I.er], I.erR, I.rel, by rw [vals, List.map_cons, frz_val]; exact congrArg _ I.vl, ⟨frz_sat t sF.1, I.sat⟩, I.satR, fun a => by have := I.co a; rw [coL, frz_co, coL]; omega, I.cuR, fun a h => ?_, I.out, I.len⟩
    rw [cuL, frz_cu] at h
    rw [cuL]
    by_cases q : 0 < cuL a ins
    · rcases I.cu a q with z | z | z | z
      · exact .inl (by omega)
      · exact .inr (.inl (by omega))
      · exact .inr (.inr (.inl z))
      · exact .inr (.inr (.inr z))
    · by_cases q2 : 0 < t.co a
      · exact .inl (by omega)
      · exact .inr (.inl (by omega))
  | .tm m :: as, vs, t :: F, env, is, eR, r, sF, s, av, h => by
    obtain ⟨vs', rfl, av⟩ := av
    rw [erL, insA] at h
    obtain ⟨y, hy, e1⟩ := map_some h
    cases e1
    obtain ⟨ins, envR, evc, I⟩ := ins_run r sF.2 s av hy
    refine ⟨t :: ins, envR, evc, by rw [erL, I.er], I.erR, I.rel, by rw [vals, List.map_cons]; exact congrArg _ I.vl, ⟨sF.1, I.sat⟩, I.satR, fun a => by have := I.co a; rw [coL, coL]; omega, I.cuR, fun a h => ?_, I.out, I.len⟩
    rw [cuL] at h
    rw [cuL]
    by_cases q : 0 < cuL a ins
    · rcases I.cu a q with z | z | z | z
      · exact .inl z
      · exact .inr (.inl (by omega))
      · exact .inr (.inr (.inl z))
      · exact .inr (.inr (.inr z))
    · exact .inr (.inl (by omega))
  | .bor i :: as, vs, F, env, is, eR, r, sF, s, av, h => by
    obtain ⟨v, vs', rfl, hv, av⟩ := av
    rw [insA] at h
    obtain ⟨d, hd, h⟩ := bind_some h
    obtain ⟨y, hy, e1⟩ := map_some h
    cases e1
    obtain ⟨t, h1, rfl⟩ := join_get hd
    obtain ⟨ins, envR, evc, I⟩ := ins_run r sF s av hy
    have hval : t.val = v := by
      have := r.2 i t h1
      rw [hv] at this
      exact (Option.some.inj (Option.some.inj this)).symm
    refine ⟨t.frz :: ins, envR, evc, by rw [erL, frz_er, I.er], I.erR, I.rel, by rw [vals, List.map_cons, frz_val, hval]; exact congrArg _ I.vl, ⟨frz_sat t (s.get h1), I.sat⟩, I.satR, fun a => by have := I.co a; rw [coL, frz_co]; omega, I.cuR, fun a h => ?_, I.out, I.len⟩
    rw [cuL, frz_cu] at h
    by_cases q : 0 < cuL a ins
    · rcases I.cu a q with z | z | z | ⟨j, hj, z⟩
      · exact .inl z
      · exact .inr (.inl z)
      · exact .inr (.inr (.inl z))
      · exact .inr (.inr (.inr ⟨j, by rw [boS]; exact List.mem_cons_of_mem _ hj, z⟩))
    · by_cases q2 : 0 < t.co a
      · exact .inr (.inr (.inr ⟨i, by rw [boS]; exact List.mem_cons_self .., t, h1, q2⟩))
      · have := cuE_get (a := a) h1
        exact .inr (.inr (.inl (by omega)))
  | .mv i :: as, vs, F, env, is, eR, r, sF, s, av, h => by
    obtain ⟨v, vs', rfl, hv, av⟩ := av
    rw [insA] at h
    obtain ⟨d, hd, h⟩ := bind_some h
    obtain ⟨y, hy, e1⟩ := map_some h
    cases e1
    obtain ⟨t, h1, rfl⟩ := join_get hd
    rw [show (erE env).set i none = erE (env.set i none) from (erE_set (o := none)).symm] at hy
    obtain ⟨ins, envR, evc, I⟩ := ins_run r.drop sF (s.set fun u hu => by cases hu) av hy
    have hval : t.val = v := by
      have := r.2 i t h1
      rw [hv] at this
      exact (Option.some.inj (Option.some.inj this)).symm
    have l1 : ∀ a, coE a (env.set i none) + t.co a = coE a env := fun a => by
      have := coE_set (a := a) none h1
      simp only [oT] at this; omega
    have l2 : ∀ a, cuE a (env.set i none) + t.cu a = cuE a env := fun a => by
      have := cuE_set (a := a) none h1
      simp only [oT] at this; omega
    refine ⟨t :: ins, envR, evc, by rw [erL, I.er], I.erR, I.rel, by rw [vals, List.map_cons, hval]; exact congrArg _ I.vl, ⟨s.get h1, I.sat⟩, I.satR, fun a => ?_, fun a => ?_, fun a h => ?_, fun j hj => ?_, I.len.trans List.length_set⟩
    · have := I.co a
      have := l1 a
      rw [coL]; omega
    · have := I.cuR a
      have := l2 a
      omega
    · rw [cuL] at h
      have := l2 a
      by_cases q : 0 < cuL a ins
      · rcases I.cu a q with z | z | z | ⟨j, hj, u, hu, z⟩
        · exact .inl z
        · exact .inr (.inl z)
        · exact .inr (.inr (.inl (by omega)))
        · refine .inr (.inr (.inr ⟨j, by rw [boS]; exact hj, u, ?_, z⟩))
          rw [List.getElem?_set] at hu
          split at hu
          · split at hu <;> cases hu
          · exact hu
      · exact .inr (.inr (.inl (by omega)))
    · rw [muS] at hj
      rw [I.out j fun z => hj (List.mem_cons_of_mem _ z), List.getElem?_set, if_neg (fun z => hj (by rw [z]; exact List.mem_cons_self ..))]
def muO : List As → List (Option Nat)
  | [] => []
  | .mv i :: r => some i :: muO r
  | .tm _ :: r => none :: muO r
  | .ev _ :: r => muO r
  | .bor _ :: r => muO r
theorem put_run : ∀ (as : List As) {us : List T} {env : TEnv} {e2 : Env}, Rel σ env → SatE K H env → satL K H us → putA as (erL us) (erE env) = some e2 → (∀ (j i : Nat), (muO as)[j]? = some (some i) → ∀ t, us[j]? = some t → σ[i]? = some (some t.val)) →
    ∃ env2, erE env2 = e2 ∧ Rel σ env2 ∧ SatE K H env2 ∧ (∀ a, coE a env2 ≤ coL a us + coE a env) ∧ (∀ a, cuE a env2 ≤ cuL a us + cuE a env) ∧ ∀ i, i ∉ muS as → env2[i]? = env[i]?
  | [], [], env, e2, r, s, su, h, hv => by
    rw [erL, putA] at h
    cases h
    exact ⟨env, rfl, r, s, fun a => by rw [coL]; omega, fun a => by rw [cuL]; omega, fun _ _ => rfl⟩
  | [], u :: us, env, e2, r, s, su, h, hv => by simp [erL, putA] at h
  | .ev m :: as, us, env, e2, r, s, su, h, hv => by
    have h' : putA as (erL us) (erE env) = some e2 := by
      cases us <;> simpa [putA] using h
    exact put_run as r s su h' hv
  | .bor i :: as, us, env, e2, r, s, su, h, hv => by
    have h' : putA as (erL us) (erE env) = some e2 := by
      cases us <;> simpa [putA] using h
    exact put_run as r s su h' hv
  | .tm m :: as, [], env, e2, r, s, su, h, hv => by simp [erL, putA] at h
  | .tm m :: as, u :: us, env, e2, r, s, su, h, hv => by
    rw [erL, putA] at h
    obtain ⟨env2, g1, g2, g3, g4, g5, g6⟩ := put_run as r s su.2 h fun j k hj t ht => hv (j + 1) k (by rw [muO]; simpa using hj) t (by simpa using ht)
    exact ⟨env2, g1, g2, g3, fun a => by have := g4 a; rw [coL]; omega, fun a => by have := g5 a; rw [cuL]; omega, fun j hj => g6 j (by rw [muS] at hj; exact hj)⟩
  | .mv i :: as, [], env, e2, r, s, su, h, hv => by simp [erL, putA] at h
  | .mv i :: as, u :: us, env, e2, r, s, su, h, hv => by
    rw [erL, putA, show (erE env).set i (some u.er) = erE (env.set i (some u)) from (erE_set (o := some u)).symm] at h
    have hu : σ[i]? = some (some u.val) := hv 0 i rfl u rfl
    have r1 : Rel σ (env.set i (some u)) := by
      refine ⟨by rw [List.length_set, r.1], fun j x g => ?_⟩
      rw [List.getElem?_set] at g
      by_cases q : i = j
      · subst q
        rw [if_pos rfl] at g
        split at g
        · cases g; exact hu
        · cases g
      · rw [if_neg q] at g
        exact r.2 j x g
    obtain ⟨env2, g1, g2, g3, g4, g5, g6⟩ := put_run as r1 (s.set fun x hx => by cases hx; exact su.1) su.2 h fun j k hj t ht => hv (j + 1) k (by rw [muO]; simpa using hj) t (by simpa using ht)
    refine ⟨env2, g1, g2, g3, fun a => ?_, fun a => ?_, fun j hj => ?_⟩
    · have := g4 a
      have := set_co (env := env) (j := i) (t := u) (a := a)
      rw [coL]; omega
    · have := g5 a
      have := set_cu (env := env) (j := i) (t := u) (a := a)
      rw [cuL]; omega
    · rw [muS] at hj
      rw [g6 j fun z => hj (List.mem_cons_of_mem _ z), List.getElem?_set, if_neg (fun z => hj (by rw [z]; exact List.mem_cons_self ..))]
  termination_by as => as.length
theorem argv_mu : ∀ {as : List As} {F : List T} {vs : List V} {n j i : Nat}, ArgV σ as F vs → (muO as)[j]? = some (some i) → ∃ q v, (muP n as)[j]? = some (n + q) ∧ vs[q]? = some v ∧ σ[i]? = some (some v)
  | [], F, vs, n, j, i, av, h => by simp [muO] at h
  | .ev m :: as, [], vs, n, j, i, av, h => by cases av
  | .tm m :: as, [], vs, n, j, i, av, h => by cases av
  | .ev m :: as, t :: F, vs, n, j, i, av, h => by
    obtain ⟨vs', rfl, av⟩ := av
    rw [muO] at h
    obtain ⟨q, v, h1, h2, h3⟩ := argv_mu (n := n + 1) av h
    exact ⟨q + 1, v, by rw [muP, h1]; congr 1; omega, by simpa using h2, h3⟩
  | .bor k :: as, F, vs, n, j, i, av, h => by
    obtain ⟨v', vs', rfl, hv, av⟩ := av
    rw [muO] at h
    obtain ⟨q, v, h1, h2, h3⟩ := argv_mu (n := n + 1) av h
    exact ⟨q + 1, v, by rw [muP, h1]; congr 1; omega, by simpa using h2, h3⟩
  | .tm m :: as, t :: F, vs, n, j, i, av, h => by
    obtain ⟨vs', rfl, av⟩ := av
    rw [muO] at h
    cases j with
    | zero => simp at h
    | succ j =>
      obtain ⟨q, v, h1, h2, h3⟩ := argv_mu (n := n + 1) av (by simpa using h)
      refine ⟨q + 1, v, ?_, by simpa using h2, h3⟩
      rw [muP, List.getElem?_cons_succ, h1]
      congr 1
      omega
  | .mv k :: as, F, vs, n, j, i, av, h => by
    obtain ⟨v', vs', rfl, hv, av⟩ := av
    rw [muO] at h
    cases j with
    | zero =>
      simp at h
      subst h
      exact ⟨0, v', by rw [muP]; rfl, rfl, hv⟩
    | succ j =>
      obtain ⟨q, v, h1, h2, h3⟩ := argv_mu (n := n + 1) av (by simpa using h)
      refine ⟨q + 1, v, ?_, by simpa using h2, h3⟩
      rw [muP, List.getElem?_cons_succ, h1]
      congr 1
      omega
end
section
variable {X : Cx} {e : Expr} {es : List Expr} {pos p : Pos} {U : List Nat} {as : List As}
theorem se_callM {k n : Nat} {x : Str} {f : Addr} {fd : FuncData} {ps : List Str} {fm : FMu} {mu : List Nat} {CX : CXT} {E : XK} (F : FnOk X.prog X.w X.K X.mg X.base CX k f fd ps (spM X.K n mu fm)) (hr : Room k X.A) (hm : X.mg x = some (.ref f)) (hk : PySem.W.keepIn X.K (.ref f) = true)
    (hb : Binds X.K fd ps []) (hx : Passes CX X E) (hmu : mu = muP 0 as) (hln : as.length = n) (hdis : ∀ i ∈ muS as, i ∉ boS as ∧ i ∉ U) (ha : SEA X U (e :: es) as) (hg : Gl X x := by rfl) (hdb : (x == ("__debug__" : Str)) = false := by decide) (he : starEach (e :: es) X.env = (false, eval e X.env) :: starEach es X.env := by rfl) (hpl : (backTo pos (starEach es X.env)).any (·.1) = false := by rfl) :
    SE X U (.Call (.Name x p) (e :: es) [] pos) (eCallM fm as) := PE.weak (pe_call F hr hg hm hk hb .nil hx ha hdb he hpl) fun σ H Q ⟨env, d, e', hm, r, s, w, k⟩ => by
  unfold eCallM at hm
  split at hm
  case isTrue => cases hm
  rename_i hall
  rw [Bool.not_eq_false, List.all_eq_true] at hall
  obtain ⟨x1, h1, hm⟩ := bind_some hm
  obtain ⟨y, h2, hm⟩ := bind_some hm
  obtain ⟨z, h3, hm⟩ := bind_some hm
  split at hm
  case isFalse => cases hm
  rename_i hno
  rw [Bool.and_eq_true] at hno
  obtain ⟨e2, h4, e5⟩ := map_some hm
  cases e5
  refine ⟨env, x1.1, x1.2, h1, r, s, w, fun i hi => ?_, fun F env1 H1 vs e1 e2' c1 u1 av => ?_⟩
  · have := hall i hi
    rw [Option.isSome_iff_exists] at this
    obtain ⟨d, hd⟩ := this
    obtain ⟨t, ht, _⟩ := join_get hd
    exact ⟨t.val, r.2 i t ht⟩
  rw [← e1, ← e2'] at h2
  obtain ⟨ins, envR, evc, I⟩ := ins_run c1.rel c1.satF c1.satE av h2
  have bo : ∀ a, (∃ j ∈ boS as, ∃ t : T, env1[j]? = some (some t) ∧ 0 < t.co a) → 0 < coE a envR := fun a ⟨j, hj, t, ht, hc⟩ => by
    have hn : j ∉ muS as := fun q => (hdis j q).1 hj
    rw [← I.out j hn] at ht
    exact Nat.lt_of_lt_of_le hc (coE_get ht)
  have cuI : ∀ a, 0 < cuL a ins → 0 < evc a + cuL a F ∨ 0 < cuE a env1 ∨ 0 < coE a envR := fun a h => by
    rcases I.cu a h with q | q | q | q
    · exact .inl (by omega)
    · exact .inl (by omega)
    · exact .inr (.inl q)
    · exact .inr (.inr (bo a q))
  have hlen : vs.length = as.length := by
    have : ∀ {as : List As} {F : List T} {vs : List V}, ArgV σ as F vs → vs.length = as.length := by
      intro as
      induction as with
      | nil => intro F vs av; rw [av.2]; rfl
      | cons x as ih =>
        intro F vs av
        cases x with
        | ev m =>
          cases F with
          | nil => cases av
          | cons t F => obtain ⟨vs', rfl, av⟩ := av; rw [List.length_cons, List.length_cons, ih av]
        | tm m =>
          cases F with
          | nil => cases av
          | cons t F => obtain ⟨vs', rfl, av⟩ := av; rw [List.length_cons, List.length_cons, ih av]
        | bor i => obtain ⟨v, vs', rfl, _, av⟩ := av; rw [List.length_cons, List.length_cons, ih av]
        | mv i => obtain ⟨v, vs', rfl, _, av⟩ := av; rw [List.length_cons, List.length_cons, ih av]
    exact this av
  refine ⟨ins, z.1, z.2, by rw [List.append_nil, I.vl], by rw [← hln, ← hlen, ← I.vl, List.length_map], I.sat, fun a => ?_, by rw [I.er]; exact h3, fun t us H' et eu hv st su wf' stp => ?_⟩
  · have w1 := c1.wf a
    have i1 := I.co a
    have i2 := cuI a
    simp only at w1 ⊢
    by_cases q : 0 < coL a ins
    · by_cases q2 : 0 < cuL a ins
      · rcases i2 q2 with y | y | y <;> omega
      · omega
    · omega
  rw [List.append_nil] at hv
  have keepR : ∀ a o, 0 < coE a envR + cuE a envR → H1 a = some o → H' a = some o := fun a o h ho => stp.1 a o ho (by
    have w1 := c1.wf a
    have i1 := I.co a
    have i2 := I.cuR a
    simp only at w1 ⊢
    omega)
  have sR : SatE X.K H' envR := satE_keep keepR I.satR
  have someR : ∀ a, 0 < coE a envR + cuE a envR → H1 a ≠ none := fun a h => by
    by_cases q : 0 < coE a envR
    · exact coE_some I.satR q
    · exact cuE_some I.satR (by omega)
  rw [← eu, ← I.erR] at h4
  obtain ⟨env2, g1, g2, g3, g4, g5, g6⟩ := put_run as I.rel sR su h4 fun j i hj u hu => by
    obtain ⟨q, v, p1, p2, p3⟩ := argv_mu (n := 0) av hj
    have := hv j (0 + q) (by rw [hmu]; exact p1) v (by rw [Nat.zero_add]; exact p2)
    rw [vals, List.getElem?_map, hu] at this
    rw [p3]
    cases this
    rfl
  rw [← et, ← eu] at hno
  have tupB : ∀ a, 0 < t.cu a + cuL a us → ∃ o, H' a = some o ∧ isTupO o = true := fun a h => by
    by_cases q : 0 < t.cu a
    · exact noF_cu t hno.1 st q
    · exact noFL_cu us hno.2 su (by omega)
  refine k t env2 H' et g1 ⟨g2, ⟨st, trivial⟩, g3, fun a => ?_, Stp.trans c1.stp ⟨fun a o h hc => stp.1 a o h ?_, stp.2.1, fun a => ?_⟩⟩ fun i hi => ?_
  · have w1 := c1.wf a
    have i1 := I.co a
    have i2 := I.cuR a
    have s1 := (stp.2.2 a).1
    have s2 := (stp.2.2 a).2
    have wf1 := wf' a
    have j1 := g4 a
    have j2 := g5 a
    have ci := cuI a
    simp only [coL, cuL, Nat.add_zero] at w1 s1 s2 wf1 ⊢
    by_cases q : 0 < coE a envR
    · have nn := someR a (by omega)
      simp only [nn, or_false] at s1 s2
      have nb : ¬ 0 < t.cu a + cuL a us := fun h => by
        obtain ⟨o, ho, hb⟩ := tupB a h
        obtain ⟨o', ho', hb'⟩ := coE_no sR q
        rw [ho] at ho'
        cases ho'
        rw [hb] at hb'
        cases hb'
      omega
    · by_cases q2 : 0 < t.co a + coL a us
      · by_cases q3 : 0 < cuE a envR
        · have nn := someR a (by omega)
          simp only [nn, or_false] at s1 s2
          have := s1 q2
          omega
        · omega
      · omega
  · have i1 := I.co a
    simp only at hc ⊢
    omega
  · have i1 := I.co a
    have i2 := I.cuR a
    have s1 := (stp.2.2 a).1
    have s2 := (stp.2.2 a).2
    have j1 := g4 a
    have j2 := g5 a
    have ci := cuI a
    simp only [coL, cuL, Nat.add_zero] at s1 s2 ⊢
    refine ⟨fun h => ?_, fun h => ?_⟩
    · by_cases q : 0 < coE a envR
      · exact .inl (by omega)
      · rcases s1 (by omega) with y | y
        · exact .inl (by omega)
        · exact .inr y
    · by_cases q : 0 < cuE a envR
      · exact .inr (.inl (by omega))
      · rcases s2 (by omega) with y | y | y
        · exact .inl (by omega)
        · rcases ci y with y | y | y
          · by_cases q3 : 0 < evc a
            · exact .inl (by omega)
            · exact .inr (.inl (by omega))
          · exact .inr (.inl (by omega))
          · exact .inl (by omega)
        · exact .inr (.inr y)
  · have hn : i ∉ muS as := fun q => (hdis i q).2 hi
    rw [g6 i hn, I.out i hn, u1 i hi]
end
end Ow

namespace Ow
open PySem L2


def atT : List Nat → T → Option T
  | [], t => some t
  | j :: p, t => (t.kids[j]?).bind fun u => atT p u
def D.kids : D → List D
  | .s _ => []
  | .n _ ds => ds
@[simp] def atD : List Nat → D → Option D
  | [], d => some d
  | j :: p, d => (d.kids[j]?).bind fun u => atD p u
theorem kids_er (t : T) : t.er.kids = erL t.kids := by
  cases t <;> simp [T.er, D.kids, T.kids, erL]
section
variable {K : PySem.W.Frag} {H H' : Hp}
theorem kids_sat {t : T} (h : t.sat K H) : satL K H t.kids := by
  cases t with
  | s v => trivial
  | n k a ts => exact h.2
  | w z k a ts => exact h.2
theorem kids_co {t : T} {a : Addr} : coL a t.kids ≤ t.co a := by
  cases t with
  | s v => exact Nat.zero_le _
  | n k b ts => rw [T.kids, T.co]; omega
  | w z k b ts => rw [T.kids, T.co]; omega
theorem kids_cu {t : T} {a : Addr} : cuL a t.kids ≤ t.cu a := by
  cases t with
  | s v => exact Nat.zero_le _
  | n k b ts => rw [T.kids, T.cu]; omega
  | w z k b ts => rw [T.kids, T.cu]; omega
theorem atD_run : ∀ {p : List Nat} {t : T} {d : D}, t.sat K H → atD p t.er = some d → ∃ u, atT p t = some u ∧ u.er = d ∧ u.sat K H
  | [], t, d, s, h => by
    rw [atD] at h
    cases h
    exact ⟨t, rfl, rfl, s⟩
  | j :: p, t, d, s, h => by
    rw [atD, kids_er] at h
    obtain ⟨c, h1, h⟩ := bind_some h
    obtain ⟨u, hu, rfl⟩ := er_at rfl h1
    obtain ⟨v, g1, g2, g3⟩ := atD_run (sat_at (kids_sat s) hu) h
    exact ⟨v, by rw [atT, hu]; exact g1, g2, g3⟩
theorem atT_snoc : ∀ {p : List Nat} {j : Nat} {t u : T}, atT p t = some u → atT (p ++ [j]) t = u.kids[j]?
  | [], j, t, u, h => by
    rw [atT] at h
    cases h
    rw [List.nil_append, atT]
    cases t.kids[j]? <;> rfl
  | i :: p, j, t, u, h => by
    rw [atT] at h
    obtain ⟨v, h1, h⟩ := bind_some h
    rw [List.cons_append, atT, h1]
    exact atT_snoc h
@[simp] def modD : List Nat → (List D → Option (List D)) → D → Option D
  | [], f, .n (.lst .o) ds => (f ds).map (.n (.lst .o) ·)
  | j :: p, f, .n (.lst .o) ds => (ds[j]?).bind fun x => (modD p f x).map fun y => .n (.lst .o) (ds.set j y)
  | j :: p, f, .n .tup ds => (ds[j]?).bind fun x => (modD p f x).map fun y => .n .tup (ds.set j y)
  | _, _, _ => none
structure Md (K : PySem.W.Frag) (H : Hp) (p : List Nat) (f : List D → Option (List D)) (t : T) (d' : D) (a : Addr) (ts : List T) : Prop where
  at_ : atT p t = some (.n (.lst .o) a ts)
  nd : H a = some (.lst (vals ts))
  sat : satL K H ts
  own : coL a ts + 1 ≤ t.co a
  leo : ∀ b, coL b ts ≤ t.co b
  leu : ∀ b, cuL b ts ≤ t.cu b
  new : ∃ ds', f (erL ts) = some ds' ∧ ∀ ts', erL ts' = ds' → ∃ t' : T, t'.er = d' ∧ t'.val = t.val ∧ (∀ b, t'.co b + coL b ts = t.co b + coL b ts') ∧ (∀ b, t'.cu b + cuL b ts = t.cu b + cuL b ts') ∧
    ∀ H', (∀ b o, b ≠ a → 0 < t.co b + t.cu b → H b = some o → H' b = some o) → t.co a ≤ 1 → t.cu a = 0 → H' a = some (.lst (vals ts')) → satL K H' ts' → t'.sat K H'
theorem coL_set {ts : List T} {j : Nat} {u v : T} {b : Addr} (h : ts[j]? = some u) : coL b (ts.set j v) + u.co b = coL b ts + v.co b := by
  induction ts generalizing j with
  | nil => simp at h
  | cons t ts ih =>
    cases j with
    | zero =>
      simp at h
      subst h
      rw [List.set_cons_zero, coL, coL]; omega
    | succ j =>
      have := ih (j := j) (by simpa using h)
      rw [List.set_cons_succ, coL, coL]; omega
theorem cuL_set {ts : List T} {j : Nat} {u v : T} {b : Addr} (h : ts[j]? = some u) : cuL b (ts.set j v) + u.cu b = cuL b ts + v.cu b := by
  induction ts generalizing j with
  | nil => simp at h
  | cons t ts ih =>
    cases j with
    | zero =>
      simp at h
      subst h
      rw [List.set_cons_zero, cuL, cuL]; omega
    | succ j =>
      have := ih (j := j) (by simpa using h)
      rw [List.set_cons_succ, cuL, cuL]; omega
theorem vals_set {ts : List T} {j : Nat} {u v : T} (h : ts[j]? = some u) (e : v.val = u.val) : vals (ts.set j v) = vals ts := by
  rw [vals, List.map_set, e]
  apply List.ext_getElem?
  intro i
  rw [List.getElem?_set]
  by_cases q : j = i
  · subst q
    rw [if_pos rfl, List.getElem?_map, h]
    split
    · rfl
    · rename_i hl
      rw [List.length_map] at hl
      exact absurd (List.getElem?_eq_some_iff.mp h).1 hl
  · rw [if_neg q]
theorem erL_set {ts : List T} {j : Nat} {v : T} : erL (ts.set j v) = (erL ts).set j v.er := by rw [erL_map, erL_map, List.map_set]
theorem satL_set {ts : List T} {j : Nat} {u v : T} (hu : ts[j]? = some u) (a : Addr) (hv : v.sat K H') (s : satL K H ts) (co1 : coL a ts ≤ 1) (co2 : 1 ≤ u.co a) (cu0 : cuL a ts = 0) (hk : ∀ b o, b ≠ a → 0 < coL b ts + cuL b ts → H b = some o → H' b = some o) : satL K H' (ts.set j v) := by
  induction ts generalizing j with
  | nil => simp at hu
  | cons t ts ih =>
    rw [coL] at co1
    rw [cuL] at cu0
    have hk1 : ∀ b o, b ≠ a → 0 < coL b ts + cuL b ts → H b = some o → H' b = some o := fun b o hb h => hk b o hb (by rw [coL, cuL]; omega)
    cases j with
    | zero =>
      simp at hu
      subst hu
      rw [List.set_cons_zero]
      refine ⟨hv, satL_keep ts (fun b o h e => hk1 b o (fun z => ?_) h e) s.2⟩
      subst z; omega
    | succ j =>
      have hu' : ts[j]? = some u := by simpa using hu
      have := coL_mem (a := a) (List.mem_of_getElem? hu')
      rw [List.set_cons_succ]
      refine ⟨sat_keep t (fun b o h e => hk b o (fun z => ?_) (by rw [coL, cuL]; omega) e) s.1, ih hu' s.2 (by omega) (by omega) hk1⟩
      subst z; omega
def rek : T → List T → T
  | .s v, _ => .s v
  | .n k a _, ts => .n k a ts
  | .w z k a _, ts => .w z k a ts
theorem rek_val {t : T} {ts : List T} : (rek t ts).val = t.val := by cases t <;> rfl
theorem rek_er {t : T} {ts' : List T} {k : Kd} {ds : List D} (h : t.er = .n k ds) : (rek t ts').er = .n k (erL ts') := by
  cases t with
  | s v => rw [T.er] at h; cases h
  | n k' a ts => rw [T.er] at h; cases h; rw [rek, T.er]
  | w z k' a ts => rw [T.er] at h; cases h; rw [rek, T.er]
theorem rek_co {t : T} {ts' : List T} {k : Kd} {ds : List D} {b : Addr} (h : t.er = .n k ds) : (rek t ts').co b + coL b t.kids = t.co b + coL b ts' := by
  cases t with
  | s v => rw [T.er] at h; cases h
  | n k' a ts => rw [rek, T.co, T.co, T.kids]; omega
  | w z k' a ts => rw [rek, T.co, T.co, T.kids]; omega
theorem rek_cu {t : T} {ts' : List T} {k : Kd} {ds : List D} {b : Addr} (h : t.er = .n k ds) : (rek t ts').cu b + cuL b t.kids = t.cu b + cuL b ts' := by
  cases t with
  | s v => rw [T.er] at h; cases h
  | n k' a ts => rw [rek, T.cu, T.cu, T.kids]; omega
  | w z k' a ts => rw [rek, T.cu, T.cu, T.kids]; omega
theorem rek_sat {t : T} {ts' : List T} {a : Addr} (s : t.sat K H) (hv : vals ts' = vals t.kids) (hs : satL K H' ts') (k1 : ∀ b o, b ≠ a → 0 < t.co b + t.cu b → H b = some o → H' b = some o) (c1 : 1 ≤ coL a t.kids) (c2 : t.co a ≤ 1) (c3 : t.cu a = 0) : (rek t ts').sat K H' := by
  cases t with
  | s v => trivial
  | n k b ts =>
    rw [T.kids] at hv c1
    rw [T.co] at c2
    rw [T.cu] at c3
    have hb : b ≠ a := fun z => by
      subst z
      cases e : k.own <;> rw [e] at c2 c3 <;> simp at c2 c3 <;> omega
    refine ⟨⟨?_, s.1.2⟩, hs⟩
    rw [hv]
    exact k1 b _ hb (by rw [T.co, T.cu]; cases k.own <;> simp <;> omega) s.1.1
  | w z k b ts =>
    rw [T.kids] at hv c1
    rw [T.cu] at c3
    refine ⟨?_, hs⟩
    rw [hv]
    cases z with
    | true => have := s.1; cases k <;> exact this
    | false =>
      have hb : b ≠ a := fun y => by
        subst y
        simp at c3
      obtain ⟨nk, o, ho⟩ := s.1
      exact ⟨nk, o, k1 b _ hb (by rw [T.co, T.cu]; simp; omega) ho⟩
theorem mod_run : ∀ {p : List Nat} {f : List D → Option (List D)} {t : T} {d' : D}, t.sat K H → modD p f t.er = some d' → ∃ a ts, Md K H p f t d' a ts
  | [], f, t, d', s, h => by
    cases t with
    | s v => simp [T.er, modD] at h
    | w z k a ts =>
      rw [T.er] at h
      cases k <;> simp [Kd.wri, modD] at h
    | n k a ts =>
      rw [T.er] at h
      cases k with
      | lst o =>
        cases o with
        | o =>
          rw [modD] at h
          obtain ⟨ds', h1, rfl⟩ := map_some h
          refine ⟨a, ts, rfl, s.1.1, s.2, by rw [T.co]; simp [Kd.own]; omega, fun b => by rw [T.co]; omega, fun b => by rw [T.cu]; omega, ds', h1, fun ts' e => ⟨.n (.lst .o) a ts', by rw [T.er, e], rfl, fun b => by rw [T.co, T.co]; omega, fun b => by rw [T.cu, T.cu]; omega, fun H' _ _ _ hn hs => ⟨⟨hn, rfl⟩, hs⟩⟩⟩
        | s => simp [modD] at h
        | w => simp [modD] at h
      | tup => simp [modD] at h
      | ktp => simp [modD] at h
      | dic o ks => simp [modD] at h
      | dct o ks => simp [modD] at h
  | j :: p, f, t, d', s, h => by
    have hk : ∃ k ds, t.er = .n k ds ∧ (k = .lst .o ∨ k = .tup) ∧ ((ds[j]?).bind fun x => (modD p f x).map fun y => D.n k (ds.set j y)) = some d' := by
      cases e : t.er with
      | s v => rw [e] at h; simp [modD] at h
      | n k ds =>
        rw [e] at h
        cases k with
        | lst o =>
          cases o with
          | o => rw [modD] at h; exact ⟨_, _, rfl, .inl rfl, h⟩
          | s => simp [modD] at h
          | w => simp [modD] at h
        | tup => rw [modD] at h; exact ⟨_, _, rfl, .inr rfl, h⟩
        | ktp => simp [modD] at h
        | dic o ks => simp [modD] at h
        | dct o ks => simp [modD] at h
    obtain ⟨k, ds, e1, hkk, h⟩ := hk
    obtain ⟨c, h1, h⟩ := bind_some h
    obtain ⟨y, h2, rfl⟩ := map_some h
    have hkids : erL t.kids = ds := by rw [← kids_er, e1]; rfl
    obtain ⟨u, hu, rfl⟩ := er_at hkids h1
    have su := sat_at (kids_sat s) hu
    have mu := List.mem_of_getElem? hu
    obtain ⟨a, ts, M⟩ := mod_run su h2
    refine ⟨a, ts, by rw [atT, hu]; exact M.at_, M.nd, M.sat, Nat.le_trans M.own (Nat.le_trans (coL_mem mu) kids_co), fun b => Nat.le_trans (M.leo b) (Nat.le_trans (coL_mem mu) kids_co), fun b => Nat.le_trans (M.leu b) (Nat.le_trans (cuL_mem mu) kids_cu), ?_⟩
    obtain ⟨ds', h3, hn⟩ := M.new
    refine ⟨ds', h3, fun ts' ets' => ?_⟩
    obtain ⟨u', g1, g2, g3, g4, g5⟩ := hn ts' ets'
    have n1 : ∀ b, coL b (t.kids.set j u') + u.co b = coL b t.kids + u'.co b := fun b => coL_set hu
    have n2 : ∀ b, cuL b (t.kids.set j u') + u.cu b = cuL b t.kids + u'.cu b := fun b => cuL_set hu
    refine ⟨rek t (t.kids.set j u'), ?_, rek_val, fun b => ?_, fun b => ?_, fun H' k1 k2 k3 k4 k5 => ?_⟩
    · rw [rek_er e1, erL_set, g1, hkids]
    · have := rek_co (b := b) (ts' := t.kids.set j u') e1
      have := n1 b
      have := g3 b
      omega
    · have := rek_cu (b := b) (ts' := t.kids.set j u') e1
      have := n2 b
      have := g4 b
      omega
    · have c1 := Nat.le_trans (coL_mem (a := a) mu) kids_co
      have c2 := M.own
      have c3 : coL a t.kids ≤ t.co a := kids_co
      have c4 : cuL a t.kids ≤ t.cu a := kids_cu
      have c5 : u.co a ≤ coL a t.kids := coL_mem mu
      have c6 : u.cu a ≤ cuL a t.kids := cuL_mem mu
      refine rek_sat s (vals_set hu g2) (satL_set hu a ?_ (kids_sat s) (by omega) (by omega) (by omega) fun b o hb hp => k1 b o hb ?_) k1 (by omega) k2 k3
      · refine g5 H' (fun b o hb hp => k1 b o hb ?_) (by omega) (by omega) k4 k5
        have d1 := Nat.le_trans (coL_mem (a := b) mu) kids_co
        have d2 := Nat.le_trans (cuL_mem (a := b) mu) kids_cu
        omega
      · have d1 : coL b t.kids ≤ t.co b := kids_co
        have d2 : cuL b t.kids ≤ t.cu b := kids_cu
        omega
end
end Ow

namespace Ow
open PySem L2

section
variable {K : PySem.W.Frag} {H0 H H' : Hp} {env0 env : TEnv} {σ : L2.St} {F' G G' : List T} {i : Nat} {p : List Nat} {f : List D → Option (List D)} {t : T} {d' : D} {a : Addr} {ts ts' : List T}
theorem mut_step (c : Cf K H0 env0 σ H (G ++ F') env) (hi : env[i]? = some (some t)) (M : Md K H p f t d' a ts) (hf : f (erL ts) = some (erL ts')) (s1 : satL K H ts') (s2 : satL K H G')
    (n1 : ∀ b, coL b ts' + coL b G' ≤ coL b ts + coL b G) (n2 : ∀ b, 0 < cuL b ts' + cuL b G' → 0 < cuL b (G ++ F') + cuE b env) :
    ∃ env', erE env' = (erE env).set i (some d') ∧ (∀ j, j ≠ i → env'[j]? = env[j]?) ∧ Cf K H0 env0 σ (upd H a (.lst (vals ts'))) (G' ++ F') env' := by
  obtain ⟨ds', h1, hn⟩ := M.new
  rw [hf] at h1
  cases h1
  obtain ⟨t', g1, g2, g3, g4, g5⟩ := hn ts' rfl
  have m1 := M.own
  have wa := c.wf a
  have ei : ∀ b, coE b (env.set i (some t')) + t.co b = coE b env + t'.co b := fun b => by
    have := coE_set (a := b) (some t') hi
    simpa only [oT] using this
  have ui : ∀ b, cuE b (env.set i (some t')) + t.cu b = cuE b env + t'.cu b := fun b => by
    have := cuE_set (a := b) (some t') hi
    simpa only [oT] using this
  have ti : ∀ b, t.co b ≤ coE b env := fun b => coE_get hi
  have tu : ∀ b, t.cu b ≤ cuE b env := fun b => cuE_get hi
  simp only [coL_append, cuL_append] at wa
  have ta := ti a
  have tua := tu a
  have la := M.leo a
  have lua := M.leu a
  have n1a := n1 a
  have n2a := n2 a
  rw [cuL_append] at n2a
  have keep : ∀ b o, b ≠ a → H b = some o → upd H a (.lst (vals ts')) b = some o := fun b o hb h => by rw [upd_ne hb]; exact h
  have nt : ∀ b, 0 < coL b ts' + cuL b ts' → b ≠ a := fun b h z => by subst z; omega
  have sF := satL_append.mp c.satF
  have st' : t'.sat K (upd H a (.lst (vals ts'))) := g5 _ (fun b o hb _ h => keep b o hb h) (by omega) (by omega) upd_same (satL_keep ts' (fun b o h e => keep b o (nt b h) e) s1)
  refine ⟨env.set i (some t'), by rw [erE_set, ← g1]; rfl, fun j hj => by rw [List.getElem?_set, if_neg (fun z => hj z.symm)], c.rel.swap hi g2, satL_append.mpr ⟨satL_keep G' (fun b o h e => keep b o (fun z => by subst z; omega) e) s2, satL_keep F' (fun b o h e => keep b o (fun z => by subst z; omega) e) sF.2⟩, ?_, fun b => ?_, Stp.trans c.stp ⟨fun b o h hc => ?_, fun b h => ?_, fun b => ?_⟩⟩
  · -- the other slots
    intro u hu
    obtain ⟨j, hj⟩ := List.mem_iff_getElem?.mp hu
    rw [List.getElem?_set] at hj
    by_cases q : i = j
    · rw [if_pos q] at hj
      split at hj
      · cases hj; exact st'
      · cases hj
    · rw [if_neg q] at hj
      have e2 : (env.set i none)[j]? = some (some u) := by rw [List.getElem?_set, if_neg q]; exact hj
      refine sat_keep u (fun b o h e => keep b o (fun z => ?_) e) (c.satE u (List.mem_of_getElem? hj))
      subst z
      have w1 := coE_get (a := b) e2
      have w2 := cuE_get (a := b) e2
      have w3 := coE_set (a := b) none hi
      have w4 := cuE_set (a := b) none hi
      simp only [oT] at w3 w4
      omega
  · have w1 := c.wf b
    have := ei b
    have := ui b
    have := ti b
    have := tu b
    have := g3 b
    have := g4 b
    have := n1 b
    have n2b := n2 b
    have := M.leo b
    have := M.leu b
    simp only [coL_append, cuL_append] at w1 n2b ⊢
    by_cases q : 0 < cuL b ts' + cuL b G'
    · have := n2b q
      omega
    · omega
  · refine keep b o (fun z => ?_) h
    subst z
    simp only at hc
    omega
  · by_cases q : b = a
    · subst q
      rw [upd_same] at h
      cases h
    · rw [upd_ne q] at h
      exact h
  · have := ei b
    have := ui b
    have := ti b
    have := tu b
    have := g3 b
    have := g4 b
    have := n1 b
    have n2b := n2 b
    have := M.leo b
    have := M.leu b
    simp only [coL_append, cuL_append] at n2b ⊢
    refine ⟨fun q => .inl (by omega), fun q => .inr (.inl ?_)⟩
    by_cases q : 0 < cuL b ts' + cuL b G'
    · exact n2b q
    · omega
end
def trPl (K : PySem.W.Frag) (i : Nat) (pm : Env → Option (List Nat)) : TE := fun σ H Q => ∃ env p, pm (erE env) = some p ∧ Rel σ env ∧ SatE K H env ∧ ∀ H', Ex H H' → ∀ t u, env[i]? = some (some t) → atT p t = some u → Q u.val H'
def okPl (i : Nat) (pm : Env → Option (List Nat)) : Prop := ∀ env p, pm env = some p → ∃ d c, env[i]?.join = some d ∧ atD p d = some c
structure SPl (X : Cx) (i : Nat) (e : Expr) (pm : Env → Option (List Nat)) : Prop where
  ok : okPl i pm
  pe : PE X e (trPl X.K i pm)
@[simp] def plName (i : Nat) : Env → Option (List Nat) := fun env => (env[i]?.join).map fun _ => []
@[simp] def plItem (i : Nat) (pm : Env → Option (List Nat)) (mb : PM) : Env → Option (List Nat) := fun env => (pm env).bind fun p => (mb env).bind fun y => (toI y).bind fun n => (env[i]?.join).bind fun d => (atD p d).bind fun c => match c with
  | .n (.lst _) ds => (ixN ds.length n).map fun j => p ++ [j]
  | .n .tup ds => (ixN ds.length n).map fun j => p ++ [j]
  | _ => none
theorem atD_snoc : ∀ {p : List Nat} {j : Nat} {d c : D}, atD p d = some c → atD (p ++ [j]) d = c.kids[j]?
  | [], j, d, c, h => by
    rw [atD] at h
    cases h
    rw [List.nil_append, atD]
    cases d.kids[j]? <;> rfl
  | i :: p, j, d, c, h => by
    rw [atD] at h
    obtain ⟨v, h1, h⟩ := bind_some h
    rw [List.cons_append, atD, h1]
    exact atD_snoc h
theorem ixN_lt {n : Nat} {k : Int} {j : Nat} (h : ixN n k = some j) : j < n := (ixN_seq h).2.1
section
variable {X : Cx} {m ma mb : PM} {me m1 m2 : EM} {e a b : Expr} {pos apos cpos : Pos} {U P : List Nat} {i : Nat} {pm : Env → Option (List Nat)}
theorem spl_name {x : Str} (i : Nat) (hN : X.N[i]? = some x := by rfl) (hv : Vis X.env.scope x := by first | exact .inl rfl | exact .inr (.inl rfl) | exact .inr (.inr rfl))
    (hd : (x == ("__debug__" : Str)) = false := by decide) (hcd : (x == ("__classdict__" : Str)) = false := by decide) : SPl X i (.Name x pos) (plName i) where
  ok := fun env p h => by
    obtain ⟨d, h1, rfl⟩ := map_some h
    exact ⟨d, d, h1, rfl⟩
  pe := PE.weak (pe_var (i := i) hN hv hd hcd) fun σ H Q ⟨env, p, hm, r, s, k⟩ => by
    obtain ⟨d, h1, rfl⟩ := map_some hm
    obtain ⟨t, e1, e2⟩ := join_get h1
    exact ⟨t.val, r.2 i t e1, k H (Evl.Ex.refl H) t t e1 rfl⟩
theorem spl_item (ha : SPl X i a pm) (hb : SB X b mb) (hs : PlainIx b := by exact fun _ _ => rfl) : SPl X i (.Subscript a b pos) (plItem i pm mb) where
  ok := fun env q h => by
    obtain ⟨p, h1, h⟩ := bind_some h
    obtain ⟨y, h2, h⟩ := bind_some h
    obtain ⟨n, h3, h⟩ := bind_some h
    obtain ⟨d, h4, h⟩ := bind_some h
    obtain ⟨c, h5, h⟩ := bind_some h
    split at h
    · rename_i o ds
      obtain ⟨j, h6, rfl⟩ := map_some h
      exact ⟨d, _, h4, by rw [atD_snoc h5]; exact List.getElem?_eq_getElem (ixN_lt h6)⟩
    · rename_i ds
      obtain ⟨j, h6, rfl⟩ := map_some h
      exact ⟨d, _, h4, by rw [atD_snoc h5]; exact List.getElem?_eq_getElem (ixN_lt h6)⟩
    · cases h
  pe := PE.weak (pe_ix ix_it ha.pe hb hs) fun σ H Q ⟨env, q, hm, r, s, k⟩ => by
    obtain ⟨p, h1, h⟩ := bind_some hm
    obtain ⟨y, h2, h⟩ := bind_some h
    obtain ⟨n, h3, h⟩ := bind_some h
    obtain ⟨d, h4, h⟩ := bind_some h
    obtain ⟨c, h5, hh⟩ := bind_some h
    clear h
    refine ⟨env, p, h1, r, s, fun H1 x1 t u e1 e2 => ⟨env, y, h2, r, s.ex x1, fun v H2 e3 x2 s2 _ => ?_⟩⟩
    obtain ⟨t', f1, f2⟩ := join_get h4
    rw [e1] at f1
    cases f1
    subst f2
    have st := sat_ex (x1.trans x2) (s.get e1)
    obtain ⟨u', g1, g2, g3⟩ := atD_run st h5
    rw [e2] at g1
    cases g1
    have ev : v.er = .s (.int n) := e3.trans (toI_some h3)
    rw [er_int ev]
    split at hh
    · rename_i o ds
      obtain ⟨j, h6, rfl⟩ := map_some hh
      obtain ⟨a, w1, w2, w3, w4, _⟩ := rdLk g3 g2
      have hj := ixN_lt h6
      rw [← len_er w2] at hj h6
      have hw := List.getElem?_eq_getElem hj
      rw [w1]
      refine .inl (.inl ⟨a, _, n, (u.kids[j]).val, rfl, rfl, w3, ?_, k H2 (x1.trans x2) t _ e1 (by rw [atT_snoc e2]; exact hw)⟩)
      unfold atI
      rw [List.length_map, h6]
      exact vals_at hw
    · rename_i ds
      obtain ⟨j, h6, rfl⟩ := map_some hh
      obtain ⟨a, w1, w2, w3, w4, _⟩ := rdTk g3 g2
      have hj := ixN_lt h6
      rw [← len_er w2] at hj h6
      have hw := List.getElem?_eq_getElem hj
      rw [w1]
      refine .inl (.inr ⟨a, _, n, (u.kids[j]).val, rfl, rfl, w3, ?_, k H2 (x1.trans x2) t _ e1 (by rw [atT_snoc e2]; exact hw)⟩)
      unfold atI
      rw [List.length_map, h6]
      exact vals_at hw
    · cases hh
theorem goPl {K : PySem.W.Frag} {H0 H : Hp} {env0 env : TEnv} {σ : L2.St} {F : List T} {p : List Nat} {Q : VK} (ho : okPl i pm) (c : Cf K H0 env0 σ H F env) (hm : pm (erE env) = some p)
    (k : ∀ t u H', env[i]? = some (some t) → atT p t = some u → Ex H H' → Cf K H0 env0 σ H' F env → Q u.val H') : trPl K i pm σ H Q :=
  ⟨env, p, hm, c.rel, c.satE, fun H' x t u h1 h2 => k t u H' h1 h2 x (c.ex x)⟩
@[simp] def sApp (i : Nat) (pm : Env → Option (List Nat)) (me : EM) : SM := fun env => (pm env).bind fun p => (me env).bind fun x => (env[i]?.join).bind fun d =>
  (modD p (fun ds => if ds.length < 16777216 then some (ds ++ [x.1]) else none) d).map fun d' => (.nx, x.2.set i (some d'))
theorem sizeLine_lt {n : Nat} (h : n < 16777216) : n < sizeLine := by rw [sizeLine_eq]; exact h
theorem if_some' {α : Type} {c : Prop} [Decidable c] {o : Option α} {z : α} (h : (if c then o else none) = some z) : c ∧ o = some z := by
  split at h
  · exact ⟨by assumption, h⟩
  · cases h
theorem if_some {α : Type} {c : Prop} [Decidable c] {x z : α} (h : (if c then some x else none) = some z) : c ∧ x = z := by
  split at h
  · cases h; exact ⟨by assumption, rfl⟩
  · cases h
theorem ss_append (ho : SPl X i a pm) (h : SE X [i] e me) (hbase : attributeBase a "append" X.env (eval a X.env) = eval a X.env := by rfl)
    (hfew : ((backTo cpos (starEach [e] X.env)).all (fun x => !x.1) && (backToKw cpos (keywordEach [] X.env)).all (fun x => x.1.isSome)
      && decide (([e] : List Expr).length + ([] : List Keyword).length + (if ([] : List Keyword).isEmpty then 0 else 1) < 30)) = true := by rfl)
    (hline : (apos.endLine == cpos.line) = true := by rfl) (hs : starEach [e] X.env = (false, eval e X.env) :: starEach [] X.env := by rfl) (hplain : (backTo cpos (starEach [] X.env)).any (·.1) = false := by rfl)
    (hsw : swapsWith (.Call (.Attribute a "append" apos) [e] [] cpos) none pos.line X.env = pure false := by rfl) : SS X P (.Expr (.Call (.Attribute a "append" apos) [e] [] cpos) pos) (sApp i pm me) :=
  PS.weak (ps_expr (pe_bm PySem.F.plainAttrs_list PySem.F.slot_list_append PySem.F.type_list_append mt_append ho.pe (pa_cons h pa_nil hs) hbase hfew hline hs hplain) hsw) fun De σ H ⟨env, o, e', hm, r, s, w, k⟩ => by
    obtain ⟨p, hp, hm⟩ := bind_some hm
    obtain ⟨x, hx, hm⟩ := bind_some hm
    obtain ⟨d, hd, hm⟩ := bind_some hm
    obtain ⟨d', hmd, e1⟩ := map_some hm
    cases e1
    obtain ⟨t, h1, rfl⟩ := join_get hd
    unfold tDrop tBM
    refine goPl ho.ok (Cf.start r s w) hp fun t' u H1 h1' h2 x1 c1 => ?_
    rw [h1] at h1'
    cases h1'
    obtain ⟨a1, ts1, M1⟩ := mod_run (c1.satE.get h1) hmd
    have ha1 := M1.at_
    rw [h2] at ha1
    cases ha1
    refine ⟨.inl ⟨rfl, _, .inl (.inl M1.nd)⟩, ?_⟩
    unfold tCons
    refine goE (d := x.1) (e' := x.2) c1 hx fun v env1 H2 e1 e2 c2 u1 => ?_
    have f3 : env1[i]? = some (some t) := (u1 i (by simp)).trans h1
    obtain ⟨a2, ts, M⟩ := mod_run (c2.satE.get f3) hmd
    have := M.at_
    rw [h2] at this
    cases this
    obtain ⟨ds', g1, _⟩ := M.new
    obtain ⟨g2, rfl⟩ := if_some g1
    refine ⟨a1, _, v.val, rfl, rfl, M.nd, sizeLine_lt (by rw [List.length_map, ← erL_length]; exact g2), ?_⟩
    obtain ⟨env2, w1, _, c3⟩ := mut_step (G := [v]) (F' := []) (G' := []) (ts' := ts1 ++ [v]) c2 f3 M (by rw [g1, erL_append, erL, erL, e1]) (satL_append.mpr ⟨M.sat, c2.satF.1, trivial⟩) trivial (fun b => by simp only [coL_append, coL]; omega)
      (fun b h => by have := M.leu b; have := cuE_get (a := b) f3; simp only [cuL_append, cuL] at h ⊢; omega)
    have ev : vals (ts1 ++ [v]) = vals ts1 ++ [v.val] := by simp [vals]
    rw [ev] at c3
    exact k [] σ env2 _ (by rw [w1, e2]) c3 (fun _ _ => rfl) rfl
@[simp] def ePopAt (i : Nat) (pm : Env → Option (List Nat)) (me : EM) : EM := fun env => (pm env).bind fun p => (me env).bind fun x => (toI x.1).bind fun n => (env[i]?.join).bind fun d => (atD p d).bind fun c => match c with
  | .n (.lst .o) ds => if ds.length ≤ 16777216 then (ixN ds.length n).bind fun j => (ds[j]?).bind fun z => (modD p (fun _ => some (ds.eraseIdx j)) d).map fun d' => (z, x.2.set i (some d')) else none
  | _ => none
@[simp] def sIns (i : Nat) (pm : Env → Option (List Nat)) (mn me : EM) : SM := fun env => (pm env).bind fun p => (mn env).bind fun y => (me y.2).bind fun x => (toI y.1).bind fun n => (env[i]?.join).bind fun d =>
  (modD p (fun ds => if (ds.length < 16777216 ∧ 0 ≤ n ∧ n < 2 ^ 63) then some (ds.take n.toNat ++ [x.1] ++ ds.drop n.toNat) else none) d).map fun d' => (.nx, x.2.set i (some d'))
@[simp] def sPut (i : Nat) (pm : Env → Option (List Nat)) (mb : PM) (me : EM) : SM := fun env => (me env).bind fun x => (pm x.2).bind fun p => (mb x.2).bind fun y => (toI y).bind fun n => (x.2[i]?.join).bind fun d =>
  (modD p (fun ds => (ixN ds.length n).map fun j => ds.set j x.1) d).map fun d' => (.nx, x.2.set i (some d'))
theorem ss_put {b : Expr} {spos : Pos} (h : SE X [] e me) (ho : SPl X i a pm) (hb : SB X b mb) (ha : ∀ v, assign (.Subscript a b pos) X.env v = (do
      let ov ← holding [v] (eval a X.env)
      let iv ← holding [v, ov] (eval b X.env)
      standAt pos
      holding [v, ov, iv] (setItem ov iv v)
      release [v, ov, iv] []) := by intro _; rfl) (hs : swapsWithSole [.Subscript a b pos] e spos.line X.env = pure false := by rfl) (hw : swappedStores [.Subscript a b pos] e X.env = pure none := by rfl)
    (h1 : (assignEach [.Subscript a b pos] X.env).map (·.2) = [assign (.Subscript a b pos) X.env] := by rfl) : SS X P (.Assign [.Subscript a b pos] e spos) (sPut i pm mb me) :=
  PS.weak (ps_asg h (pg_sub ho.pe hb set_list ha) hs hw h1) fun De σ H ⟨env, o, e', hm, r, s, w, k⟩ => by
    obtain ⟨x, hx, hm⟩ := bind_some hm
    obtain ⟨p, hp, hm⟩ := bind_some hm
    obtain ⟨y, hy, hm⟩ := bind_some hm
    obtain ⟨n, hn, hm⟩ := bind_some hm
    obtain ⟨d, hd, hm⟩ := bind_some hm
    obtain ⟨d', hmd, e1⟩ := map_some hm
    cases e1
    unfold tAsg gSub
    refine goE (d := x.1) (e' := x.2) (Cf.start r s w) hx fun v env1 H1 e1 e2 c1 u1 => ?_
    rw [← e2] at hd hp hy
    obtain ⟨t, f3, rfl⟩ := join_get hd
    refine goPl ho.ok c1 hp fun t' u H2 h1' h2 x2 c2 => ?_
    rw [f3] at h1'
    cases h1'
    refine goB c2 hy fun v2 H3 e3 x3 s3 _ c3 => ?_
    rw [er_int (e3.trans (toI_some hn))]
    obtain ⟨a1, ts1, M⟩ := mod_run (c3.satE.get f3) hmd
    have := M.at_
    rw [h2] at this
    cases this
    obtain ⟨ds', g1, _⟩ := M.new
    obtain ⟨j, g2, rfl⟩ := map_some g1
    have hj := ixN_lt g2
    rw [erL_length] at hj
    have hu := List.getElem?_eq_getElem hj
    refine ⟨a1, vals ts1, n, j, rfl, rfl, M.nd, by rw [List.length_map, ← erL_length]; exact g2, ?_⟩
    obtain ⟨env2, w1, _, c4⟩ := mut_step (G := [v]) (F' := []) (G' := []) (ts' := ts1.set j v) c3 f3 M (by rw [g1, erL_set, e1]) (satL_iff.mpr fun y hy => by
        rcases List.mem_or_eq_of_mem_set hy with q | q
        · exact satL_iff.mp M.sat y q
        · subst q; exact c3.satF.1) trivial
      (fun b => by have := coL_set (b := b) (v := v) hu; simp only [coL]; omega) (fun b hb => by have := cuL_set (b := b) (v := v) hu; have := M.leu b; have := cuE_get (a := b) f3; simp only [cuL_append, cuL] at hb ⊢; omega)
    have ev : vals (ts1.set j v) = (vals ts1).set j v.val := by rw [vals, List.map_set]
    rw [ev] at c4
    exact k [] σ env2 _ (by rw [w1, e2]) c4 (fun _ _ => rfl) rfl
@[simp] def eMove (i : Nat) : EM := fun env => (env[i]?.join).map fun d => (d, env.set i none)
theorem se_move {x : Str} (i : Nat) (hU : i ∉ U) (hN : X.N[i]? = some x := by rfl) (hv : Vis X.env.scope x := by first | exact .inl rfl | exact .inr (.inl rfl) | exact .inr (.inr rfl))
    (hd : (x == ("__debug__" : Str)) = false := by decide) (hcd : (x == ("__classdict__" : Str)) = false := by decide) : SE X U (.Name x pos) (eMove i) := PE.weak (pe_var (i := i) hN hv hd hcd) fun σ H Q ⟨env, d, e', hm, r, s, w, k⟩ => by
  obtain ⟨d', h1, e1⟩ := map_some hm
  cases e1
  obtain ⟨t, f1, f2⟩ := join_get h1
  refine ⟨t.val, r.2 i t f1, k t (env.set i none) H f2 erE_set ((Cf.start r s w).less r.drop ⟨s.get f1, trivial⟩ (s.set fun u hu => by cases hu) (fun a => ?_) fun a => ?_) fun j hj => ?_⟩
  · have := coE_set (a := a) none f1
    simp only [coL, oT] at this ⊢; omega
  · have := cuE_set (a := a) none f1
    simp only [cuL, oT] at this ⊢; omega
  · rw [List.getElem?_set, if_neg (fun (z : i = j) => hU (by rw [z]; exact hj))]
end
end Ow

namespace Ow
open PySem L2


def tyN : D → Option String
  | .s .non => some "NoneType"
  | .s (.bl _) => some "bool"
  | .s (.int _) => some "int"
  | .s (.str _) => some "str"
  | .n (.lst _) _ => some "list"
  | .n .tup _ => some "tuple"
  | .n (.dic _ _) _ => some "dict"
  | _ => none
@[simp] theorem tyN_c0  : tyN (.s .non) = some "NoneType" := rfl
@[simp] theorem tyN_c1 {b : Bool} : tyN (.s (.bl b)) = some "bool" := rfl
@[simp] theorem tyN_c2 {i : Int} : tyN (.s (.int i)) = some "int" := rfl
@[simp] theorem tyN_c3 {z : PySem.Str} : tyN (.s (.str z)) = some "str" := rfl
@[simp] theorem tyN_c4 {ds : List D} {o : Fl} : tyN (.n (.lst o) ds) = some "list" := rfl
@[simp] theorem tyN_c5 {ds : List D} : tyN (.n .tup ds) = some "tuple" := rfl
theorem ty_of {K : PySem.W.Frag} {H : Hp} {t : T} {n : String} (s : t.sat K H) (h : tyN t.er = some n) : TyX K H t.val (.type n) := by
  cases t with
  | s v =>
    rw [T.er] at h
    unfold hid at h
    cases v with
    | non => cases h; exact .base .non
    | bl b => cases h; exact .base (.bl b)
    | int i => cases h; exact .base (.int i)
    | str x => cases h; exact .base (.str x)
    | byt _ => cases h
    | flt _ => cases h
    | ref _ => cases h
    | ty _ => cases h
  | n k a ts =>
    rw [T.er] at h
    have h1 := s.1.1
    cases k with
    | lst o => cases h; exact .base (.lst h1)
    | tup => cases h; exact .base (.tup h1)
    | ktp => cases h
    | dic o ks => cases h; exact .base (.dK h1)
    | dct o ks => cases h
  | w z k a ts =>
    rw [T.er] at h
    have h1 := s.1
    cases z with
    | true =>
      cases k with
      | lst o =>
        cases h
        rcases h1 with (q | ⟨_, q⟩) | ⟨ob, its, n, e1, e2, _⟩
        · cases q
        · cases q
        · exact .kList e1 e2
      | tup => exact h1.elim
      | ktp => cases h
      | dic o ks => cases h1
      | dct o ks => cases h1
    | false =>
      obtain ⟨nk, ob, h1⟩ := h1
      cases k with
      | lst o => cases h; exact .base (.frz h1)
      | tup => cases h; exact .fTuple h1
      | ktp => cases h
      | dic o ks => cases h; exact .fDict h1
      | dct o ks => cases h
@[simp] def isiD (T : String) (d : D) : Option V := (tyN d).bind fun n => (kitB n T).map .bl
@[simp] def mIsi (T : String) (m : PM) : PM := fun env => (m env).bind fun d => (isiD T d).bind sv
section
variable {X : Cx} {e : Expr} {m : PM} {pos p q : Pos}
theorem sp_isi {x : Str} {n : String} (hm : X.mg "isinstance" = none) (hmT : X.mg x = none) (hb : bootBuiltins x = some (.type n)) (h : SB X e m) (hi : bootBuiltins "isinstance" = some (.builtin "isinstance")) (hg : Gl X "isinstance" := by rfl) (hgT : Gl X x := by rfl) (hn : x ≠ "__name__" := by decide) (hd : (x == ("__debug__" : Str)) = false := by decide)
    (he : starEach [e, .Name x q] X.env = (false, eval e X.env) :: starEach [.Name x q] X.env := by rfl) (he2 : starEach [.Name x q] X.env = (false, eval (.Name x q) X.env) :: starEach [] X.env := by rfl) (hpl : (backTo pos (starEach [.Name x q] X.env)).any (·.1) = false := by rfl) :
    SP X (.Call (.Name "isinstance" p) [e, .Name x q] [] pos) (mIsi n m) := PE.weak (pe_callB call_isi hg hm hi (pa_cons h (pa_cons (pe_bltn (v := .ty n) hgT hmT hb rfl hn hd) pa_nil he2) he) (by decide) (by decide) he hpl) fun σ H Q ⟨env, d, hm, r, s, k⟩ => by
  obtain ⟨c, h1, hm⟩ := bind_some hm
  obtain ⟨v, h2, hm⟩ := bind_some hm
  obtain ⟨h3, rfl⟩ := sv_some hm
  obtain ⟨a, h4, h2⟩ := bind_some h2
  obtain ⟨b, h5, rfl⟩ := map_some h2
  unfold tCB tCons
  refine ⟨env, c, h1, r, s, fun t H1 e1 x1 s1 _ => ?_⟩
  subst e1
  exact ⟨t.val, .ty n, _, .type n, b, rfl, .ty n, ty_of s1 h4, kit_ty h5, k (.s (.bl b)) H1 rfl x1 trivial own_s⟩
end


def forMD (j : Nat) (mb : SM) : List D → List D → Env → Option (List D × Env)
  | done, [], env => some (done, env)
  | done, d :: ds, env => (mb (env.set j (some d))).bind fun x => match x.1 with
    | .nx => (x.2[j]?.join).bind fun d' => forMD j mb (done ++ [d']) ds (x.2.set j none)
    | .ct => (x.2[j]?.join).bind fun d' => forMD j mb (done ++ [d']) ds (x.2.set j none)
    | _ => none
@[simp] def sForM (i j : Nat) (mb : SM) : SM := fun env => (env[i]?.join).bind fun d => match d with
  | .n (.lst .o) ds => (forMD j mb [] ds (env.set i none)).map fun x => (.nx, x.2.set i (some (.n (.lst .o) x.1)))
  | _ => none
section
variable {X : Cx} {pos p : Pos} {P : List Nat} {mb : SM} {body : List Stmt}
end
end Ow

namespace Ow
open PySem L2 PyProof.Rows

section
variable {X : Cx} {a b e : Expr} {ma mb m : PM} {pos : Pos}
def fNeg : D → Option V
  | .s (.int i) => some (.int (-i))
  | _ => none
@[simp] theorem fNeg_c0 {i : Int} : fNeg (.s (.int i)) = some (.int (-i)) := rfl
theorem sp_neg (ha : SB X a ma) : SP X (.UnaryOp .USub a pos) (mOp1 fNeg ma) := PE.weak (pe_un un_neg ha) fun σ H Q ⟨env, d, hm, hr, hs, k⟩ => by
  obtain ⟨x, hx, hm⟩ := bind_some hm
  obtain ⟨v, hv, hm⟩ := bind_some hm
  obtain ⟨s1, rfl⟩ := sv_some hm
  refine ⟨env, x, hx, hr, hs, fun t H1 e1 x1 s2 _ => ?_⟩
  subst e1
  unfold fNeg at hv
  split at hv
  · rename_i i e
    cases hv
    rw [er_int e]
    exact ⟨i, rfl, k (.s (.int (-i))) H1 rfl x1 trivial own_s⟩
  · cases hv

variable {m1 m2 : EM} {k : Nat} {P : List Nat}
theorem st_cmp {op : CmpOp} {r : R2} {f : D → D → Option V} (ho : OpR X (compareOp op) r) (hf : Op2 X.K r f) (ha : SB X a ma) (hb : SB X b mb) (hm : behindInMarks op b = false) : ST X (.Compare a [op] [b] pos) (mB (mOp2 f ma mb)) :=
  PT.weak (pt_cmpR ho ha hb hm) fun σ H Q ⟨env, c, hc, hr, hs, k⟩ => by
    obtain ⟨d, hd, hc⟩ := bind_some hc
    have hd2 := toB_some hc
    subst hd2
    exact rd2 (ta := trB X.K ma) (tb := trB X.K mb) (Q := fun x H' => ∃ k, x = .bl k ∧ Q k H') hf ⟨env, .s (.bl c), hd, hr, hs, fun t H' e1 x1 s1 _ => ⟨c, by rw [er_scl e1 rfl]; rfl, k H' x1⟩⟩
theorem set_cmp {op : CmpOp} {r : R2} {f : D → D → Option V} (ho : OpR X (compareOp op) r) (hf : Op2 X.K r f) (ha : SE X [] a m1) (hb : SE X [] b m2) (hm : behindInMarks op b = false) : SET X (.Compare a [op] [b] pos) (eB (eOp2 f m1 m2)) :=
  PT.weak (pt_cmpR ho ha hb hm) fun σ H Q ⟨env, c, e', hc, hr, hs, w, k⟩ => by
    obtain ⟨x, hx, hc⟩ := bind_some hc
    obtain ⟨b', hb', e1⟩ := map_some hc
    cases e1
    exact eop_rd (U := []) (Q := fun x H' => ∃ k, x = .bl k ∧ Q k H') hf ⟨env, x.1, x.2, hx, hr, hs, w, fun t env' H' e1 e2 c' _ => ⟨c, by rw [er_scl (e1.trans (toB_some hb')) rfl]; rfl, k env' H' e2 c'.toNil⟩⟩
theorem st_eq (hr : Room k X.A) (ha : SB X a ma) (hb : SB X b mb) : ST X (.Compare a [.Eq] [b] pos) (mB (mOp2 fEq ma mb)) := st_cmp (op_eqD (hu64 hr)) op2_eq ha hb (nomark _)
theorem st_ne (hr : Room k X.A) (ha : SB X a ma) (hb : SB X b mb) : ST X (.Compare a [.NotEq] [b] pos) (mB (mOp2 fNe ma mb)) := st_cmp (op_neD (hu64 hr)) op2_ne ha hb (nomark _)
theorem st_lt (ha : SB X a ma) (hb : SB X b mb) : ST X (.Compare a [.Lt] [b] pos) (mB (mOp2 fLt ma mb)) := st_cmp op_lt op2_I0 ha hb (nomark _)
theorem st_gt (ha : SB X a ma) (hb : SB X b mb) : ST X (.Compare a [.Gt] [b] pos) (mB (mOp2 fGt ma mb)) := st_cmp op_gt op2_I0 ha hb (nomark _)
theorem st_ge (ha : SB X a ma) (hb : SB X b mb) : ST X (.Compare a [.GtE] [b] pos) (mB (mOp2 fGe ma mb)) := st_cmp op_ge op2_I0 ha hb (nomark _)
theorem set_eq (hr : Room k X.A) (ha : SE X [] a m1) (hb : SE X [] b m2) : SET X (.Compare a [.Eq] [b] pos) (eB (eOp2 fEq m1 m2)) := set_cmp (op_eqD (hu64 hr)) op2_eq ha hb (nomark _)

@[simp] def sAugF (i : Nat) (f : D → D → Option V) (m : PM) : SM := fun env => (m env).bind fun y => (env[i]?.join).bind fun x => (f x y).bind fun v => (sv v).map fun d => (.nx, env.set i (some d))
theorem ss_augF {x : Str} {pos' : Pos} {op : Operator} {r : R2} {f : D → D → Option V} (i : Nat) (hN : X.N.Nodup) (hP : i ∉ P) (ho : PIp X op r) (hf : Op2 X.K r f) (h : SB X e m) (hi : X.N[i]? = some x := by rfl) (hx : Loc X.env.scope x := by first | exact .inl rfl | exact .inr rfl)
    (hfn : X.fn x = true ∨ X.env.scope.names.lookup x = some .local := by first | exact .inl rfl | exact .inr rfl | assumption) : SS X P (.AugAssign (.Name x pos') op e pos) (sAugF i f m) := PS.weak (ps_aug (i := i) hN hi hx h ho hfn) fun De σ H ⟨env, o, e', hm, r, s, w, k⟩ => by
  obtain ⟨y, hy, hm⟩ := bind_some hm
  obtain ⟨z, hz, hm⟩ := bind_some hm
  obtain ⟨v, hv, hm⟩ := bind_some hm
  obtain ⟨d, hd, e1⟩ := map_some hm
  cases e1
  obtain ⟨hs1, rfl⟩ := sv_some hd
  obtain ⟨t, h1, rfl⟩ := join_get hz
  refine ⟨_, r.2 i _ h1, env, _, hy, r, s, fun u H1 e1 x1 s1 _ => ?_⟩
  subst e1
  have c1 : Cf X.K H env σ H1 [] env := (Cf.start r s w).ex x1
  refine hf t u v H1 _ (sat_ex x1 (s.get h1)) s1 hv ?_
  refine k [] (σ.set i (some v)) (env.set i (some (.s v))) H1 ?_ (c1.less (Rel.set (t := .s v) c1.rel) trivial (c1.satE.set fun u hu => by cases hu; trivial) (fun a' => ?_) fun a' => ?_) (set_pin hP) rfl
  · rw [erE_set]
    show (erE env).set i (some (T.er (.s v))) = _
    rw [T.er, hid_scl hs1]
  · have := set_co (env := env) (j := i) (t := .s v) (a := a')
    simp only [coL, T.co] at this ⊢; omega
  · have := set_cu (env := env) (j := i) (t := .s v) (a := a')
    simp only [cuL, T.cu] at this ⊢; omega
theorem ipw_add : PIp X .Add (rI0 fun i j => .int (i + j)) := iop_add
theorem ss_augAdd {x : Str} {pos' : Pos} (i : Nat) (hN : X.N.Nodup) (hP : i ∉ P) (h : SB X e m) (hi : X.N[i]? = some x := by rfl) (hx : Loc X.env.scope x := by first | exact .inl rfl | exact .inr rfl) (hfn : X.fn x = true ∨ X.env.scope.names.lookup x = some .local := by first | exact .inl rfl | exact .inr rfl | assumption) :
    SS X P (.AugAssign (.Name x pos') .Add e pos) (sAugF i fAdd m) := ss_augF i hN hP ipw_add op2_I0 h hi hx hfn
end
theorem okb {N : List Str} {sc scope : Scope} {own : List (Str × Nat)} (h : blkC N sc scope own = true) : blkC N sc scope own = true := h
theorem lnl : ∀ (env : Env) (ds : List D), lNil env = some ds → ds.length = 0 := fun env ds h => by cases h; rfl
theorem lcl {m : PM} {n : LM} {k : Nat} (h : ∀ (env : Env) (ds : List D), n env = some ds → ds.length = k) : ∀ (env : Env) (ds : List D), lCons m n env = some ds → ds.length = k + 1 := fun env ds e => by
  obtain ⟨x, _, e⟩ := bind_some e
  obtain ⟨ys, hy, rfl⟩ := map_some e
  rw [List.length_cons, h env ys hy]
theorem bt_sum : bootBuiltins "sum" = some (.builtin "sum") := by decide +kernel
theorem bt_len : bootBuiltins "len" = some (.builtin "len") := by decide +kernel
theorem bt_min : bootBuiltins "min" = some (.builtin "min") := by decide +kernel
theorem bt_all : bootBuiltins "all" = some (.builtin "all") := by decide +kernel
theorem bt_isinstance : bootBuiltins "isinstance" = some (.builtin "isinstance") := by decide +kernel
theorem bt_list : bootBuiltins "list" = some (.type "list") := by decide +kernel
theorem bt_tuple : bootBuiltins "tuple" = some (.type "tuple") := by decide +kernel
theorem bt_int : bootBuiltins "int" = some (.type "int") := by decide +kernel
theorem bt_bool : bootBuiltins "bool" = some (.type "bool") := by decide +kernel
theorem bt_str : bootBuiltins "str" = some (.type "str") := by decide +kernel
def scriptT (K : PySem.W.Frag) (H : Hp) (a : Addr) (ns : List Int) : Prop := ∃ t : T, t.val = .ref a ∧ t.er = .n (.lst .w) (ns.map fun i => .s (.int i)) ∧ t.sat K H
theorem er_ints (ns : List Int) : erL (ns.map fun i => T.s (.int i)) = ns.map fun i => D.s (.int i) := by
  rw [erL_map, List.map_map]
  rfl
theorem script_t {K : PySem.W.Frag} {H : Hp} {a : Addr} {ns : List Int} (ho : Only H) (h : SqL K H a (ns.map V.int)) : scriptT K H a ns := by
  have hs : ∀ {H}, satL K H (ns.map fun i => T.s (.int i)) := satL_iff.mpr fun t ht => by
    obtain ⟨i, _, rfl⟩ := List.mem_map.mp ht
    trivial
  rcases h with (q | ⟨o, q⟩) | q
  · rcases ho a with z | ⟨o, xs, z⟩
    · rw [z] at q; cases q
    · rw [z] at q; cases q
  · exact ⟨.w false (.lst .w) a (ns.map fun i => T.s (.int i)), rfl, by rw [T.er, er_ints]; rfl, ⟨by simp, o, by rw [vals_ints]; exact q⟩, hs⟩
  · refine ⟨.w true (.lst .w) a (ns.map fun i => T.s (.int i)), rfl, by rw [T.er, er_ints]; rfl, ?_, hs⟩
    show SqL K (fun _ => none) a (vals _)
    rw [vals_ints]
    exact .inr q
def scriptD (ns : List Int) : D := .n (.lst .w) (ns.map fun i => .s (.int i))
def spLaw (K : PySem.W.Frag) (f : FM) : Sp := fun vs H Q E => ∃ (a : Addr) (ns : List Int), vs = [.ref a] ∧ Only H ∧ SqL K H a (ns.map V.int) ∧ f [scriptD ns] = some (.s (.bl true)) ∧ ∀ H', Q (.bl true) H'
theorem frz_ints (ns : List Int) : (ns.map fun i => D.s (.int i)).map D.frz = ns.map fun i => D.s (.int i) := by
  rw [List.map_map]
  congr 1
theorem frzD_map : ∀ ds : List D, frzD ds = ds.map D.frz
  | [] => rfl
  | d :: ds => by rw [frzD, frzD_map ds, List.map_cons]
theorem law_end {P : Program} {w : World} {K : PySem.W.Frag} {mg : Str → Option Value} {base : Heap} {k : Nat} {f : Addr} {fd : FuncData} {x : Str} {fm : FM} (h : FnOk P w K mg base CX0 k f fd [x] (spP K 1 fm)) : FnOk P w K mg base CX0 k f fd [x] (spLaw K fm) := by
  refine ⟨fun vs H Q E ⟨a, ns, e, _⟩ => by rw [e]; rfl, fun A outer s H args us vs Q E hr e0 hb r ⟨a, ns, e, ho, hs, hf, q⟩ => h.run A outer s H args us vs Q E hr e0 hb r ?_⟩
  obtain ⟨t, h1, h2, h3⟩ := script_t ho hs
  refine ⟨[t], .s (.bl true), by rw [e, vals, List.map_cons, h1]; rfl, rfl, ⟨h3, trivial⟩, ?_, fun u H' eu x su _ => ?_⟩
  · rw [erL, erL, frzD, frzD, h2, D.frz, frzD_map, frz_ints]
    exact hf
  · rw [er_scl eu rfl]
    exact q H'
end Ow

namespace Ow
open PySem L2


section
variable {i j : Int}
theorem fI_ok {C : Int → Int → Bool} {g : Int → Int → V} (h : C i j = true) : fI C g (.s (.int i)) (.s (.int j)) = some (g i j) := if_pos h
@[simp] theorem fAdd_int : fAdd (.s (.int i)) (.s (.int j)) = some (.int (i + j)) := rfl
@[simp] theorem fSub_int : fSub (.s (.int i)) (.s (.int j)) = some (.int (i - j)) := rfl
@[simp] theorem fLt_int : fLt (.s (.int i)) (.s (.int j)) = some (.bl (decide (i < j))) := rfl
@[simp] theorem fLe_int : fLe (.s (.int i)) (.s (.int j)) = some (.bl (decide (i ≤ j))) := rfl
@[simp] theorem fGt_int : fGt (.s (.int i)) (.s (.int j)) = some (.bl (decide (j < i))) := rfl
@[simp] theorem fGe_int : fGe (.s (.int i)) (.s (.int j)) = some (.bl (decide (j ≤ i))) := rfl
@[simp] theorem fMul_int (h : CMulB i j) : fMul (.s (.int i)) (.s (.int j)) = some (.int (i * j)) := fI_ok (decide_eq_true h)
@[simp] theorem fMod_int (h : 0 < j) : fMod (.s (.int i)) (.s (.int j)) = some (.int (i % j)) := fI_ok (C := fun _ j => decide (0 < j)) (decide_eq_true h)
theorem fDiv_int (h : 0 < j) (h2 : j.natAbs.log2 < 9000) : fDiv (.s (.int i)) (.s (.int j)) = some (.int (i / j)) := fI_ok (C := fun i j => decide (0 < j ∧ j.natAbs.log2 < 9000)) (decide_eq_true ⟨h, h2⟩)
theorem fPow_int (h : 0 ≤ j ∧ j ≤ 1000000 ∧ i.natAbs < 2 ^ 64) : fPow (.s (.int i)) (.s (.int j)) = some (.int (i ^ j.toNat)) := fI_ok (C := fun i j => decide (0 ≤ j ∧ j ≤ 1000000 ∧ i.natAbs < 2 ^ 64)) (decide_eq_true h)
end
theorem log2_lt {n k : Nat} (hk : 0 < k) (h : n < 2 ^ k) : n.log2 < k := PySem.Flt.log2_lt_of hk h

class Enc (α : Type) where
  en : Fl → α → D
  pd : α → PyData
  dep : Nat
  dat : ∀ o x, (en o x).dat = some (pd x)
  can : ∀ x, (pd x).canLay0 = true
  deep : ∀ x, (pd x).depth ≤ dep
  inj : ∀ x y, PyData.eqv (pd x) (pd y) = true ↔ x = y
  frz : ∀ o x, (en o x).frz = en o.frz x
  noF : ∀ x, (en .o x).noF = true
  pureS : ∀ o x, o ≠ .o → (en o x).pure = true
open Enc
instance : Enc Int where
  en _ i := .s (.int i)
  pd i := .int i
  dep := 0
  dat _ _ := rfl
  can _ := rfl
  deep _ := Nat.le_refl _
  inj x y := by simp [PyData.eqv]
  frz _ _ := rfl
  noF _ := rfl
  pureS _ _ _ := rfl
instance : Enc Bool where
  en _ i := .s (.bl i)
  pd i := .bool i
  dep := 0
  dat _ _ := rfl
  can _ := rfl
  deep _ := Nat.le_refl _
  inj x y := by simp [PyData.eqv]
  frz _ _ := rfl
  noF _ := rfl
  pureS _ _ _ := rfl
theorem datL_map {α : Type} [Enc α] (o : Fl) : ∀ xs : List α, datL (xs.map (en o)) = some (xs.map pd)
  | [] => rfl
  | x :: xs => by rw [List.map_cons, datL, dat, datL_map o xs]; rfl
theorem canL_map {α : Type} [Enc α] : ∀ xs : List α, PyData.canLayAll0 (xs.map pd) = true
  | [] => rfl
  | x :: xs => by rw [List.map_cons, PyData.canLayAll0, can, canL_map xs]; rfl
theorem deepL_map {α : Type} [Enc α] : ∀ xs : List α, PyData.depthAll (xs.map pd) ≤ dep α
  | [] => Nat.zero_le _
  | x :: xs => by rw [List.map_cons, PyData.depthAll]; exact Nat.max_le.mpr ⟨deep x, deepL_map xs⟩
theorem injL_map {α : Type} [Enc α] : ∀ xs ys : List α, PyData.eqvAll (xs.map pd) (ys.map pd) = true ↔ xs = ys
  | [], [] => by simp [PyData.eqvAll]
  | [], y :: ys => by simp [PyData.eqvAll]
  | x :: xs, [] => by simp [PyData.eqvAll]
  | x :: xs, y :: ys => by
    rw [List.map_cons, List.map_cons, PyData.eqvAll, Bool.and_eq_true, inj, injL_map xs ys]
    simp
theorem frzL_map {α : Type} [Enc α] (o : Fl) (xs : List α) : frzD (xs.map (en o)) = xs.map (en o.frz) := by
  rw [frzD_map, List.map_map]
  exact List.map_congr_left fun x _ => frz o x
theorem noFL_map {α : Type} [Enc α] : ∀ xs : List α, noFL (xs.map (en .o)) = true
  | [] => rfl
  | x :: xs => by rw [List.map_cons, noFL, noF, noFL_map xs]; rfl
theorem pureL_map {α : Type} [Enc α] {o : Fl} (h : o ≠ .o) : ∀ xs : List α, pureL (xs.map (en o)) = true
  | [] => rfl
  | x :: xs => by rw [List.map_cons, pureL, pureS o x h, pureL_map h xs]; rfl
instance {α : Type} [Enc α] : Enc (List α) where
  en o xs := .n (.lst o) (xs.map (en o))
  pd xs := .list (xs.map pd)
  dep := dep α + 1
  dat o xs := by rw [D.dat, datL_map]; rfl
  can xs := by rw [PyData.canLay0, canL_map]
  deep xs := by rw [PyData.depth]; exact Nat.add_le_add_right (deepL_map xs) 1
  inj xs ys := by rw [PyData.eqv, injL_map]
  frz o xs := by rw [D.frz, frzL_map]; rfl
  noF xs := by rw [D.noF, noFL_map]; rfl
  pureS o xs h := by
    rw [D.pure, pureL_map h]
    cases o <;> first | rfl | exact absurd rfl h
instance {α β : Type} [Enc α] [Enc β] : Enc (α × β) where
  en o x := .n .tup [en o x.1, en o x.2]
  pd x := .tuple [pd x.1, pd x.2]
  dep := max (dep α) (dep β) + 1
  dat o x := by simp [D.dat, datL, dat]
  can x := by simp [PyData.canLay0, PyData.canLayAll0, can]
  deep x := by
    have := deep x.1
    have := deep x.2
    simp only [PyData.depth, PyData.depthAll]
    omega
  inj x y := by
    simp only [PyData.eqv, PyData.eqvAll, Bool.and_eq_true, inj, Bool.and_true]
    exact Prod.ext_iff.symm
  frz o x := by simp [D.frz, frzD, frz]
  noF x := by simp [D.noF, noFL, noF]
  pureS o x h := by simp [D.pure, pureL, pureS o _ h]
@[simp] theorem en_int (o : Fl) (i : Int) : en o i = D.s (.int i) := rfl
@[simp] theorem en_bool (o : Fl) (i : Bool) : en o i = D.s (.bl i) := rfl
theorem shaped_en {α : Type} [Enc α] (h : dep α ≤ 64) (x : α) : SeqAt.shaped (pd x) = true := by
  unfold SeqAt.shaped
  rw [can, decide_eq_true (Nat.le_trans (deep x) h)]
  rfl
theorem eqB_en {α : Type} [Enc α] [DecidableEq α] (h : dep α ≤ 64) (o o' : Fl) (x y : α) : fEqB (en o x) (en o' y) = some (decide (x = y)) := by
  unfold fEqB
  rw [dat, dat]
  simp only [Option.bind_some]
  rw [shaped_en h, shaped_en h]
  simp only [Bool.and_self, if_true]
  congr 1
  rw [Bool.eq_iff_iff, inj, decide_eq_true_iff]
theorem eq_en {α : Type} [Enc α] [DecidableEq α] (h : dep α ≤ 64) (o o' : Fl) (x y : α) : fEq (en o x) (en o' y) = some (.bl (decide (x = y))) := by
  rw [fEq, eqB_en h]; rfl
theorem ne_en {α : Type} [Enc α] [DecidableEq α] (h : dep α ≤ 64) (o o' : Fl) (x y : α) : fNe (en o x) (en o' y) = some (.bl (!decide (x = y))) := by
  rw [fNe, eqB_en h]; rfl
@[simp] theorem eq_int (i j : Int) : fEq (.s (.int i)) (.s (.int j)) = some (.bl (decide (i = j))) := eq_en (α := Int) (by decide) .s .s i j
@[simp] theorem ne_int (i j : Int) : fNe (.s (.int i)) (.s (.int j)) = some (.bl (!decide (i = j))) := ne_en (α := Int) (by decide) .s .s i j
theorem intsD_map : ∀ xs : List Int, intsD (xs.map fun i => D.s (.int i)) = some xs
  | [] => rfl
  | x :: xs => by rw [List.map_cons, intsD, intsD_map xs]; rfl
theorem boolsD_map : ∀ xs : List Bool, boolsD (xs.map fun i => D.s (.bl i)) = some xs
  | [] => rfl
  | x :: xs => by rw [List.map_cons, boolsD, boolsD_map xs]; rfl


end Ow

namespace Ow
open PySem L2 Enc


section
variable {α : Type} [Enc α]
end
end Ow

namespace Ow
open PySem L2 Enc


theorem bD_nm (j : Nat) (d : D) (e : Env) : bD (.nm j) d e = some (e.set j (some d)) := by rw [bD]

section
variable {α : Type} [Enc α]
end

section
variable {m n : PM} {ml : LM} {e : Env} {d d2 : D}
end
end Ow

namespace Ow
open PySem L2 Enc
section
variable {X : Cx} {P : List Nat} {st : Stmt}
theorem ss_none : SS X P st (fun _ => none) := ⟨fun pins s σ H D I ⟨env, o, e', hm, _⟩ => by cases hm⟩
end

def fIdx (x y : D) : Option V := match x, y with
  | .n (.lst _) ds, .s (.int i) => (intsD ds).bind fun ns => if i ∈ ns then some (.int (ns.idxOf i : Nat)) else none
  | _, _ => none
def mIdx (ma mb : PM) : PM := fun env => (ma env).bind fun x => (mb env).bind fun y => (fIdx x y).bind sv
theorem eqV_ii (i j : Int) : eqV (.int i) (.int j) = decide (i = j) := by
  first | rfl | (simp [eqV]) | (unfold eqV; rfl)
theorem idx_first : ∀ (ns : List Int) (i : Int) (m : Nat) (z : Int), m < ns.idxOf i → ns[m]? = some z → z ≠ i
  | [], _, _, _, h, _ => by simp at h
  | x :: xs, i, m, z, h, hz => by
    rw [List.idxOf_cons] at h
    by_cases e : x = i
    · simp [e] at h
    · have e0 : (x == i) = false := by simp [e]
      rw [e0] at h
      dsimp only [cond_false] at h
      cases m with
      | zero => rw [List.getElem?_cons_zero] at hz; cases hz; exact e
      | succ m =>
        rw [List.getElem?_cons_succ] at hz
        exact idx_first xs i m z (by omega) hz
section
variable {X : Cx} {o e : Expr} {ma mb : PM} {apos cpos : Pos}
theorem sp_index (ho : SB X o ma) (ha : SB X e mb)
    (hbase : attributeBase o "index" X.env (eval o X.env) = eval o X.env := by rfl)
    (hfew : ((backTo cpos (starEach ([e]) X.env)).all (fun x => !x.1) && (backToKw cpos (keywordEach [] X.env)).all (fun x => x.1.isSome)
      && decide (([e] : List Expr).length + ([] : List Keyword).length + (if ([] : List Keyword).isEmpty then 0 else 1) < 30)) = true := by rfl)
    (hline : (apos.endLine == cpos.line) = true := by rfl) (hs : starEach [e] X.env = (false, eval e X.env) :: starEach [] X.env := by rfl) : SP X (.Call (.Attribute o "index" apos) [e] [] cpos) (mIdx ma mb) :=
  PE.weak (pe_bm (T := "list") PySem.F.plainAttrs_list PySem.F.slot_list_index PySem.F.type_list_index mt_index ho (pa_cons ha pa_nil hs) hbase hfew hline hs (by rfl)) fun σ H Q ⟨env, d, hm, r, s, k⟩ => by
    obtain ⟨x, hx, hm⟩ := bind_some hm
    obtain ⟨y, hy, hm⟩ := bind_some hm
    obtain ⟨v, hv, hm⟩ := bind_some hm
    obtain ⟨s1, rfl⟩ := sv_some hm
    refine ⟨env, x, hx, r, s, fun t H1 e1 x1 s1' b1 => ?_⟩
    subst e1
    unfold fIdx at hv
    split at hv
    case h_2 => cases hv
    rename_i oo ds i g1
    obtain ⟨ns, g3, hv⟩ := bind_some hv
    split at hv
    case isFalse => cases hv
    rename_i hi
    cases hv
    obtain ⟨a, ts, f1, f2, f3, f4, f5, f6⟩ := rdL s1' g1
    rw [f1]
    refine ⟨.inl ⟨rfl, _, f3⟩, ?_⟩
    refine ⟨env, _, hy, r, s.ex x1, fun u H2 e2 x2 s2 b2 => ?_⟩
    have hu := er_int e2
    rw [← f2] at g3
    rw [intsD_of g3, vals_ints] at f3
    have hlt : ns.idxOf i < ns.length := List.idxOf_lt_length_of_mem hi
    obtain ⟨a', ts', f1', f2', f3', _⟩ := rdL (sat_ex x2 s1') g1
    rw [f1] at f1'
    cases f1'
    refine ⟨a, ns.map V.int, .int i, ns.idxOf i, .int i, rfl, by rw [hu]; rfl, ?_, rfl, ?_, ?_, ?_, ?_, ?_⟩
    · have : ts' = ns.map fun i => T.s (.int i) := intsD_of (by rw [f2', ← f2]; exact g3)
      rw [this, vals_ints] at f3'
      exact f3'
    · rw [List.all_map, List.all_eq_true]; intro _ _; rfl
    · rw [List.getElem?_map, List.getElem?_eq_getElem hlt, List.getElem_idxOf hlt]; rfl
    · rw [eqV_ii]; exact decide_eq_true rfl
    · intro m z' hm' hz'
      rw [List.getElem?_map] at hz'
      obtain ⟨z, hz, rfl⟩ := map_some hz'
      rw [eqV_ii]
      exact decide_eq_false (idx_first ns i m z hm' hz)
    · exact k (.s (.int (ns.idxOf i : Nat))) H2 rfl (x1.trans x2) trivial own_s
end
end Ow

namespace Ow
open PySem L2 Enc

section
variable {K : PySem.W.Frag} {H0 H H' : Hp} {env0 env : TEnv} {σ : L2.St} {F' G G' : List T} {i : Nat} {t : T} {a : Addr} {ts ts' : List T}
theorem mut_gen {o' : HO} {t' : T} (c : Cf K H0 env0 σ H (G ++ F') env) (hi : env[i]? = some (some t)) (g2 : t'.val = t.val) (m1 : coL a ts + 1 ≤ t.co a) (leo : ∀ b, coL b ts ≤ t.co b) (leu : ∀ b, cuL b ts ≤ t.cu b)
    (g3 : ∀ b, t'.co b + coL b ts = t.co b + coL b ts') (g4 : ∀ b, t'.cu b + cuL b ts = t.cu b + cuL b ts')
    (g5 : ∀ H', (∀ b o, b ≠ a → 0 < t.co b + t.cu b → H b = some o → H' b = some o) → t.co a ≤ 1 → t.cu a = 0 → H' a = some o' → satL K H' ts' → t'.sat K H') (s1 : satL K H ts') (s2 : satL K H G')
    (n1 : ∀ b, coL b ts' + coL b G' ≤ coL b ts + coL b G) (n2 : ∀ b, 0 < cuL b ts' + cuL b G' → 0 < cuL b (G ++ F') + cuE b env) :
    ∃ env', erE env' = (erE env).set i (some t'.er) ∧ (∀ j, j ≠ i → env'[j]? = env[j]?) ∧ Cf K H0 env0 σ (upd H a o') (G' ++ F') env' := by
  have wa := c.wf a
  have ei : ∀ b, coE b (env.set i (some t')) + t.co b = coE b env + t'.co b := fun b => by
    have := coE_set (a := b) (some t') hi
    simpa only [oT] using this
  have ui : ∀ b, cuE b (env.set i (some t')) + t.cu b = cuE b env + t'.cu b := fun b => by
    have := cuE_set (a := b) (some t') hi
    simpa only [oT] using this
  have ti : ∀ b, t.co b ≤ coE b env := fun b => coE_get hi
  have tu : ∀ b, t.cu b ≤ cuE b env := fun b => cuE_get hi
  simp only [coL_append, cuL_append] at wa
  have ta := ti a
  have tua := tu a
  have la := leo a
  have lua := leu a
  have n1a := n1 a
  have n2a := n2 a
  rw [cuL_append] at n2a
  have keep : ∀ b o, b ≠ a → H b = some o → upd H a o' b = some o := fun b o hb h => by rw [upd_ne hb]; exact h
  have nt : ∀ b, 0 < coL b ts' + cuL b ts' → b ≠ a := fun b h z => by subst z; omega
  have sF := satL_append.mp c.satF
  have st' : t'.sat K (upd H a o') := g5 _ (fun b o hb _ h => keep b o hb h) (by omega) (by omega) upd_same (satL_keep ts' (fun b o h e => keep b o (nt b h) e) s1)
  refine ⟨env.set i (some t'), by rw [erE_set]; rfl, fun j hj => by rw [List.getElem?_set, if_neg (fun z => hj z.symm)], c.rel.swap hi g2, satL_append.mpr ⟨satL_keep G' (fun b o h e => keep b o (fun z => by subst z; omega) e) s2, satL_keep F' (fun b o h e => keep b o (fun z => by subst z; omega) e) sF.2⟩, ?_, fun b => ?_, Stp.trans c.stp ⟨fun b o h hc => ?_, fun b h => ?_, fun b => ?_⟩⟩
  · -- the other slots
    intro u hu
    obtain ⟨j, hj⟩ := List.mem_iff_getElem?.mp hu
    rw [List.getElem?_set] at hj
    by_cases q : i = j
    · rw [if_pos q] at hj
      split at hj
      · cases hj; exact st'
      · cases hj
    · rw [if_neg q] at hj
      have e2 : (env.set i none)[j]? = some (some u) := by rw [List.getElem?_set, if_neg q]; exact hj
      refine sat_keep u (fun b o h e => keep b o (fun z => ?_) e) (c.satE u (List.mem_of_getElem? hj))
      subst z
      have w1 := coE_get (a := b) e2
      have w2 := cuE_get (a := b) e2
      have w3 := coE_set (a := b) none hi
      have w4 := cuE_set (a := b) none hi
      simp only [oT] at w3 w4
      omega
  · have w1 := c.wf b
    have := ei b
    have := ui b
    have := ti b
    have := tu b
    have := g3 b
    have := g4 b
    have := n1 b
    have n2b := n2 b
    have := leo b
    have := leu b
    simp only [coL_append, cuL_append] at w1 n2b ⊢
    by_cases q : 0 < cuL b ts' + cuL b G'
    · have := n2b q
      omega
    · omega
  · refine keep b o (fun z => ?_) h
    subst z
    simp only at hc
    omega
  · by_cases q : b = a
    · subst q
      rw [upd_same] at h
      cases h
    · rw [upd_ne q] at h
      exact h
  · have := ei b
    have := ui b
    have := ti b
    have := tu b
    have := g3 b
    have := g4 b
    have := n1 b
    have n2b := n2 b
    have := leo b
    have := leu b
    simp only [coL_append, cuL_append] at n2b ⊢
    refine ⟨fun q => .inl (by omega), fun q => .inr (.inl ?_)⟩
    by_cases q : 0 < cuL b ts' + cuL b G'
    · exact n2b q
    · omega
end
def keyD : D → Option Key
  | .s (.int i) => some (.inl i)
  | .s (.str z) => some (.inr z)
  | _ => none
@[simp] theorem keyD_int {i : Int} : keyD (.s (.int i)) = some (.inl i) := rfl
@[simp] theorem keyD_str {z : PySem.Str} : keyD (.s (.str z)) = some (.inr z) := rfl
theorem keyD_some {d : D} {k : Key} (h : keyD d = some k) : d = .s (kV k) := by
  unfold keyD at h
  split at h
  · cases h; rfl
  · cases h; rfl
  · cases h
def sclD : List D → Option (List V)
  | [] => some []
  | .s v :: ds => if scl v = true then (sclD ds).map (v :: ·) else none
  | _ => none
def dicD (o : Fl) (kvs : List (Key × V)) : D := .n (.dic o (kvs.map (·.1))) (kvs.map fun p => .s p.2)
def dicP : D → Option (List (Key × V))
  | .n (.dic o ks) ds => if (nw o && decide (ks.length = ds.length)) = true then (sclD ds).map (ks.zip ·) else none
  | _ => none
theorem sclD_er : ∀ {ts : List T} {vs : List V}, sclD (erL ts) = some vs → ts = vs.map T.s ∧ vs.all scl = true
  | [], vs, h => by cases h; exact ⟨rfl, rfl⟩
  | t :: ts, vs, h => by
    rw [erL] at h
    cases t with
    | s v =>
      rw [T.er, sclD] at h
      split at h
      · rename_i hv
        obtain ⟨us, h1, rfl⟩ := map_some h
        obtain ⟨rfl, h2⟩ := sclD_er h1
        have hv2 : scl v = true := by
          unfold hid at hv
          split at hv
          · assumption
          · cases hv
        rw [hid_scl hv2]
        refine ⟨rfl, ?_⟩
        rw [List.all_cons, hv2, h2]; rfl
      · cases h
    | n k a us => rw [T.er] at h; cases h
    | w z k a us => rw [T.er] at h; cases h
theorem rdD {K : PySem.W.Frag} {H : Hp} {t : T} {kvs : List (Key × V)} (hs : t.sat K H) (h : dicP t.er = some kvs) : ∃ o a ts, t = .n (.dic o (kvs.map (·.1))) a ts ∧ ts = kvs.map (fun p => T.s p.2) ∧ H a = some (.dK kvs) ∧ (kvs.map (·.2)).all scl = true := by
  unfold dicP at h
  split at h
  case h_2 => cases h
  rename_i o ks ds he
  split at h
  case isFalse => cases h
  rename_i hc
  rw [Bool.and_eq_true, decide_eq_true_iff] at hc
  obtain ⟨vs, h1, rfl⟩ := map_some h
  obtain ⟨a, ts, rfl, f2, f3, f4⟩ := rdN hs he (by cases o <;> first | rfl | cases hc.1) (by simp)
  rw [← f2] at h1 hc
  obtain ⟨rfl, hv⟩ := sclD_er h1
  have hl : ks.length = vs.length := by rw [hc.2, erL_length, List.length_map]
  have z1 : (ks.zip vs).map (·.1) = ks := List.map_fst_zip (Nat.le_of_eq hl)
  have z2 : (ks.zip vs).map (·.2) = vs := List.map_snd_zip (Nat.le_of_eq hl.symm)
  refine ⟨o, a, _, by rw [z1], ?_, ?_, by rw [z2]; exact hv⟩
  · have : ((ks.zip vs).map fun p => T.s p.2) = ((ks.zip vs).map (·.2)).map T.s := by rw [List.map_map]; rfl
    rw [this, z2]
  · rw [f3]
    show some (HO.dK (ks.zip (vals (vs.map T.s)))) = _
    have : vals (vs.map T.s) = vs := by
      show (vs.map T.s).map T.val = vs
      rw [List.map_map]
      exact List.map_id _
    rw [this]
def mDin (mx my : PM) : BM := fun env => (mx env).bind fun x => (my env).bind fun y => (keyD x).bind fun k => (dicP y).map fun kvs => (valV kvs k).isSome
def mDnin (mx my : PM) : BM := fun env => (mx env).bind fun x => (my env).bind fun y => (keyD x).bind fun k => (dicP y).map fun kvs => !(valV kvs k).isSome
def mDget (my mx : PM) : PM := fun env => (my env).bind fun y => (mx env).bind fun x => (keyD x).bind fun k => (dicP y).bind fun kvs => (valV kvs k).bind sv
theorem key_er {u : T} {d : D} {k : Key} (e : u.er = d) (h : keyD d = some k) : u.val = kV k := by
  subst e
  have := keyD_some h
  cases u with
  | s v =>
    rw [T.er] at this
    injection this with this
    show v = kV k
    unfold hid at this
    split at this
    · exact this
    · cases k <;> cases this
  | n k' a ts => rw [T.er] at this; cases this
  | w z k' a ts => rw [T.er] at this; cases this
section
variable {X : Cx} {k : Nat} {i o : Expr} {mx my : PM} {pos : Pos}
theorem st_din (hr : Room k X.A) (hi : SB X i mx) (ho : SB X o my) (h1 : behindInMarks .In o = false := by first | exact nobehind _ (by decide) (by decide) | rfl) : ST X (.Compare i [.In] [o] pos) (mDin mx my) :=
  PT.weak (pt_cmp (pc_din (hu_of hr) hi ho) h1) fun σ H Q ⟨env, b, hm, r, s, q⟩ => by
    obtain ⟨x, hx, hm⟩ := bind_some hm
    obtain ⟨y, hy, hm⟩ := bind_some hm
    obtain ⟨kk, hk, hm⟩ := bind_some hm
    obtain ⟨kvs, hd, rfl⟩ := map_some hm
    refine ⟨env, x, hx, r, s, fun u H1 e1 x1 s1 b1 => ⟨env, y, hy, r, s.ex x1, fun t H2 e2 x2 s2 b2 => ?_⟩⟩
    subst e2
    obtain ⟨oo, a, ts, f1, f2, f3, f4⟩ := rdD s2 hd
    rw [key_er e1 hk, f1]
    exact ⟨a, valV kvs kk, rfl, DGet.k f3, _, rfl, q H2 (x1.trans x2)⟩
end
def dicO : D → Option (List (Key × V))
  | .n (.dic .o ks) ds => dicP (.n (.dic .o ks) ds)
  | _ => none
theorem rdO {K : PySem.W.Frag} {H : Hp} {t : T} {kvs : List (Key × V)} (hs : t.sat K H) (h : dicO t.er = some kvs) : ∃ a, t = .n (.dic .o (kvs.map (·.1))) a (kvs.map fun p => T.s p.2) ∧ H a = some (.dK kvs) ∧ (kvs.map (·.2)).all scl = true := by
  unfold dicO at h
  split at h
  case h_2 => cases h
  rename_i ks ds he
  rw [← he] at h
  obtain ⟨o, a, ts, f1, f2, f3, f4⟩ := rdD hs h
  rw [f1, T.er] at he
  injection he with e1 e2
  injection e1 with e3 e4
  subst e3 f2
  exact ⟨a, f1, f3, f4⟩
theorem coL_sc (b : Addr) : ∀ vs : List (Key × V), coL b (vs.map fun p => T.s p.2) = 0
  | [] => rfl
  | v :: vs => by rw [List.map_cons, coL, coL_sc b vs, T.co]
theorem cuL_sc (b : Addr) : ∀ vs : List (Key × V), cuL b (vs.map fun p => T.s p.2) = 0
  | [] => rfl
  | v :: vs => by rw [List.map_cons, cuL, cuL_sc b vs, T.cu]
theorem satL_sc {K : PySem.W.Frag} {H : Hp} : ∀ vs : List (Key × V), satL K H (vs.map fun p => T.s p.2)
  | [] => trivial
  | v :: vs => ⟨trivial, satL_sc vs⟩
theorem ho_sc (kvs : List (Key × V)) : (Kd.dic .o (kvs.map (·.1))).ho (vals (kvs.map fun p => T.s p.2)) = .dK kvs := by
  show HO.dK ((kvs.map (·.1)).zip (vals (kvs.map fun p => T.s p.2))) = _
  have : vals (kvs.map fun p => T.s p.2) = kvs.map (·.2) := by
    show (kvs.map fun p => T.s p.2).map T.val = _
    rw [List.map_map]; rfl
  rw [this]
  congr 1
  induction kvs with
  | nil => rfl
  | cons p kvs ih =>
    rw [List.map_cons, List.map_cons, List.zip_cons_cons, ih (by show (kvs.map fun p => T.s p.2).map T.val = _; rw [List.map_map]; rfl)]
theorem er_sc {kvs : List (Key × V)} {a : Addr} (h : (kvs.map (·.2)).all scl = true) : (T.n (.dic .o (kvs.map (·.1))) a (kvs.map fun p => T.s p.2)).er = dicD .o kvs := by
  rw [T.er, dicD]
  congr 1
  induction kvs with
  | nil => rfl
  | cons p kvs ih =>
    rw [List.map_cons, List.all_cons, Bool.and_eq_true] at h
    rw [List.map_cons, List.map_cons, erL, ih h.2, T.er, hid_scl h.1]
theorem dic_step {K : PySem.W.Frag} {H0 H : Hp} {env0 env : TEnv} {σ : L2.St} {F : List T} {j : Nat} {t : T} {a : Addr} {kvs kvs' : List (Key × V)} (c : Cf K H0 env0 σ H F env) (hi : env[j]? = some (some t)) (ht : t = .n (.dic .o (kvs.map (·.1))) a (kvs.map fun p => T.s p.2)) (h' : (kvs'.map (·.2)).all scl = true) :
    ∃ env', erE env' = (erE env).set j (some (dicD .o kvs')) ∧ (∀ i, i ≠ j → env'[i]? = env[i]?) ∧ Cf K H0 env0 σ (upd H a (.dK kvs')) F env' := by
  subst ht
  have key := mut_gen (a := a) (G := []) (G' := []) (F' := F) (ts := kvs.map fun p => T.s p.2) (ts' := kvs'.map fun p => T.s p.2) (o' := .dK kvs') (t' := .n (.dic .o (kvs'.map (·.1))) a (kvs'.map fun p => T.s p.2)) c hi rfl (by rw [T.co, coL_sc]; simp) (fun b => by rw [coL_sc]; omega) (fun b => by rw [cuL_sc]; omega)
    (fun b => by rw [T.co, T.co, coL_sc, coL_sc]; simp) (fun b => by rw [T.cu, T.cu, cuL_sc, cuL_sc]; simp)
    (fun H' _ _ _ h _ => ⟨⟨by rw [ho_sc]; exact h, rfl⟩, satL_sc _⟩) (satL_sc _) trivial (fun b => by rw [coL_sc]; simp [coL]) (fun b h => by rw [cuL_sc] at h; simp [cuL] at h)
  rw [er_sc h'] at key
  exact key
def sDput (j : Nat) (mx mv : PM) : SM := fun env => (mv env).bind fun v => (env[j]?.join).bind fun d => (mx env).bind fun x => (keyD x).bind fun k => (dicO d).bind fun kvs => match v with
  | .s w => if (scl w && decide (kvs.length < 16777216)) = true then some (.nx, env.set j (some (dicD .o (putK kvs k w)))) else none
  | _ => none
def sDdel (j : Nat) (mx : PM) : SM := fun env => (env[j]?.join).bind fun d => (mx env).bind fun x => (keyD x).bind fun k => (dicO d).bind fun kvs => if (valV kvs k).isSome = true then some (.nx, env.set j (some (dicD .o (dropK kvs k)))) else none
theorem putK_scl {kvs : List (Key × V)} {k : Key} {w : V} (h : (kvs.map (·.2)).all scl = true) (hw : scl w = true) : ((putK kvs k w).map (·.2)).all scl = true := by
  rw [List.all_map, List.all_eq_true] at *
  intro p hp
  unfold putK at hp
  split at hp
  · obtain ⟨q, hq, rfl⟩ := List.mem_map.mp hp
    dsimp only [Function.comp]
    split
    · exact hw
    · exact h q hq
  · rw [List.mem_append, List.mem_singleton] at hp
    rcases hp with hp | rfl
    · exact h p hp
    · exact hw
theorem dropK_scl {kvs : List (Key × V)} {k : Key} (h : (kvs.map (·.2)).all scl = true) : ((dropK kvs k).map (·.2)).all scl = true := by
  rw [List.all_map, List.all_eq_true] at *
  intro p hp
  exact h p (List.mem_filter.mp hp).1
section
variable {X : Cx} {k : Nat} {P : List Nat} {i o e : Expr} {mx mv : PM} {pos tpos : Pos} {j : Nat}
theorem ss_ddel (ho : SPl X j o (plName j)) (hi : SB X i mx) : SS X P (.Delete [.Subscript o i tpos] pos) (sDdel j mx) :=
  PS.weak (ps_ddel ho.pe hi) fun De σ H ⟨env, oo, e', hm, r, s, w, q⟩ => by
    obtain ⟨d, hd, hm⟩ := bind_some hm
    obtain ⟨x, hx, hm⟩ := bind_some hm
    obtain ⟨kk, hk, hm⟩ := bind_some hm
    obtain ⟨kvs, hp, hm⟩ := bind_some hm
    split at hm
    case isFalse => cases hm
    rename_i hv
    cases hm
    obtain ⟨t, f3, rfl⟩ := join_get hd
    have c := Cf.start (σ := σ) r s w
    have hpl : plName j (erE env) = some [] := by unfold plName; rw [hd]; rfl
    unfold sDDel
    refine goPl ho.ok c hpl fun t' u H2 h1' h2 x2 c2 => ?_
    rw [f3] at h1'
    cases h1'
    cases h2
    refine goB c2 hx fun v2 H3 e3 x3 s3 _ c3 => ?_
    obtain ⟨a, g1, g2, g3⟩ := rdO (c3.satE.get f3) hp
    rw [key_er e3 hk]
    refine ⟨a, kvs, kk, by rw [g1]; rfl, g2, rfl, hv, ?_⟩
    obtain ⟨env2, w1, _, c4⟩ := dic_step (kvs' := dropK kvs kk) c3 f3 g1 (dropK_scl g3)
    exact q [] σ env2 _ w1 c4 (fun _ _ => rfl) rfl
end
end Ow

namespace Ow
open PySem L2 Enc

def srt (ns : List Int) : List Int := ns.mergeSort fun a b => decide (a ≤ b)
theorem srt_perm (ns : List Int) : (srt ns).Perm ns := List.mergeSort_perm ..
theorem srt_rise (ns : List Int) : (srt ns).Pairwise (· ≤ ·) := by
  have := List.pairwise_mergeSort (le := fun a b : Int => decide (a ≤ b)) (fun a b c h1 h2 => by simp at *; omega) (fun a b => by simp; omega) ns
  exact this.imp (fun h => by simpa using h)
theorem srt_eq {ns ms : List Int} (h : ms.Perm ns) (h2 : ms.Pairwise (· ≤ ·)) : ms = srt ns := List.Perm.eq_of_pairwise (le := (· ≤ ·)) (fun a b _ _ h1 h2 => by omega) h2 (srt_rise ns) (h.trans (srt_perm ns).symm)
def fSorted (ds : List D) : Option (List D) := (li ds).map fun ns => (srt ns).map fun i => .s (.int i)
theorem erL_ints (ns : List Int) : erL (ns.map fun i => T.s (.int i)) = ns.map fun i => D.s (.int i) := by
  induction ns with
  | nil => rfl
  | cons n ns ih => rw [List.map_cons, List.map_cons, erL, ih]; rfl
theorem sat_ints {K : PySem.W.Frag} {H : Hp} (ns : List Int) : satL K H (ns.map fun i => T.s (.int i)) := by
  induction ns with
  | nil => trivial
  | cons n ns ih => exact ⟨trivial, ih⟩
theorem co_ints (b : Addr) (ns : List Int) : coL b (ns.map fun i => T.s (.int i)) = 0 := by
  induction ns with
  | nil => rfl
  | cons n ns ih => rw [List.map_cons, coL, ih, T.co]
theorem cu_ints (b : Addr) (ns : List Int) : cuL b (ns.map fun i => T.s (.int i)) = 0 := by
  induction ns with
  | nil => rfl
  | cons n ns ih => rw [List.map_cons, cuL, ih, T.cu]
section
variable {X : Cx} {e : Expr} {ml : LM} {p pos : Pos}
end
end Ow

namespace Ow
open PySem L2 Enc

def svD : D → Option V
  | .s w => if scl w = true then some w else none
  | _ => none
theorem svD_er {u : T} {d : D} {w : V} (e : u.er = d) (h : svD d = some w) : u.val = w ∧ scl w = true := by
  subst e
  cases u with
  | s z =>
    rw [T.er, svD] at h
    split at h
    · rename_i hz
      cases h
      have : scl z = true := by
        unfold hid at hz
        split at hz
        · assumption
        · cases hz
      rw [hid_scl this]
      exact ⟨rfl, this⟩
    · cases h
  | n k' a ts => rw [T.er] at h; cases h
  | w z k' a ts => rw [T.er] at h; cases h
def dcD (g : Tg) (mt : BM) (mx mv : PM) (e0 : Env) : List D → List (Key × V) → Option (List (Key × V))
  | [], kvs => some kvs
  | d :: ds, kvs => (bD g d e0).bind fun e1 => (mt e1).bind fun b => if b = true then (mx e1).bind fun x => (keyD x).bind fun k => (mv e1).bind fun v => (svD v).bind fun w => dcD g mt mx mv e0 ds (putK kvs k w) else dcD g mt mx mv e0 ds kvs
def mDc (mi : LM) (g : Tg) (mt : BM) (mx mv : PM) (vs : List Nat) : PM := fun env => (mi env).bind fun ds => if ds.length ≤ 16777216 then (dcD g mt mx mv (wipeD env vs) ds []).map fun kvs => dicD .o kvs else none
structure DcW (H H1 : Hp) (Dl : Addr) (g : Tg) (mt : BM) (mx mv : PM) (e0 : Env) (ds : List D) (rs : List (Key × V)) (i m : Nat) (H' : Hp) : Prop where
  le : i ≤ ds.length
  ms : m = ds.length - i
  ex : Ex H1 H'
  acc : ∃ kvs, H' Dl = some (.dK kvs) ∧ (kvs.map (·.2)).all scl = true ∧ kvs.length ≤ i ∧ dcD g mt mx mv e0 (ds.drop i) kvs = some rs
theorem putK_len (kvs : List (Key × V)) (k : Key) (w : V) : (putK kvs k w).length ≤ kvs.length + 1 := by
  unfold putK
  split
  · rw [List.length_map]; omega
  · rw [List.length_append]; exact Nat.le_refl _
section
variable {X : Cx} {kx vx tg iter : Expr} {ifs : List Expr} {scope : Scope} {own : List (Str × Nat)} {pos : Pos} {mi : LM} {g : Tg} {mt : BM} {mx mv : PM}
theorem dc_rd {K : PySem.W.Frag} {σ : L2.St} {H : Hp} {Q : VK} {vs : List Nat} (hsl : ∀ i ∈ g.sl, i ∈ vs) (h : trP K (mDc mi g mt mx mv vs) σ H Q) : tDc (trI K mi) (gOf K g) (trT K mt) (trB K mx) (trB K mv) vs σ H Q := by
  obtain ⟨env, d, hm, r, s, k⟩ := h
  obtain ⟨ds, hi, hm⟩ := bind_some hm
  split at hm
  case isFalse => cases hm
  rename_i hlen
  obtain ⟨rs, hrs, rfl⟩ := map_some hm
  refine ⟨env, ds, hi, r, s, fun J src H1 x1 ss bs w Dl hD => ?_⟩
  rw [← wipe_er] at hrs
  refine ⟨DcW H H1 Dl g mt mx mv (erE (wipeT env vs)) ds rs, ⟨ds.length, ?_⟩, fun i m H2 W => ?_⟩
  · exact ⟨Nat.zero_le _, rfl, Evl.Ex.new hD, [], upd_same, rfl, Nat.le_refl _, hrs⟩
  obtain ⟨le, ms, ex, kvs, hacc, hscl, lacc, hrr⟩ := W
  have ss2 : satL K H2 src := satL_ex ex ss
  by_cases hi2 : i < ds.length
  · refine .inr ⟨w.go i H2 ss2 hi2, fun H' => ∃ m', m' < m ∧ DcW H H1 Dl g mt mx mv (erE (wipeT env vs)) ds rs (i + 1) m' H', fun H' h => h, fun x H3 hy => ?_⟩
    have hd := List.getElem?_eq_getElem hi2
    obtain ⟨t, rfl, et, x3, s3, c3, u3⟩ := w.yld i H2 x H3 ss2 hy _ hd
    have hdr : ds.drop i = ds[i] :: ds.drop (i + 1) := List.drop_eq_getElem_cons hi2
    rw [hdr, dcD] at hrr
    obtain ⟨e1, hb1, hrr⟩ := bind_some hrr
    obtain ⟨b, hb2, hb3⟩ := bind_some hrr
    rw [← et] at hb1
    have sw : SatE K H3 (wipeT env vs) := (wipe_sat ((s.ex x1).ex ex) vs).ex x3
    refine g_run g t (wipe σ vs) (wipeT env vs) e1 _ (wipe_rel r vs) s3 hb1 fun σ2 env2 B => ?_
    refine ⟨wipe_same B.len (fun i hi => (B.out i hi).1) hsl, ?_⟩
    have s2 : SatE K H3 env2 := fun u hu => by
      rcases B.sat u hu with q | q
      · exact sw u q
      · exact q
    have hl3 : H3 Dl = some (.dK kvs) := x3 Dl _ hacc
    refine ⟨env2, b, by rw [B.er]; exact hb2, B.rel, s2, fun H4 x4 => ?_⟩
    have hl4 : H4 Dl = some (.dK kvs) := x4 Dl _ hl3
    have ex4 : Ex H1 H4 := (ex.trans x3).trans x4
    cases b with
    | true =>
      rw [if_pos rfl] at hb3
      obtain ⟨x, hx, hb3⟩ := bind_some hb3
      obtain ⟨kk, hk, hb3⟩ := bind_some hb3
      obtain ⟨v, hv, hb3⟩ := bind_some hb3
      obtain ⟨wv, hw, hb3⟩ := bind_some hb3
      dsimp only
      rw [if_pos rfl]
      refine ⟨env2, x, by rw [B.er]; exact hx, B.rel, s2.ex x4, fun u H5 eu x5 s5 b5 => ⟨env2, v, by rw [B.er]; exact hv, B.rel, (s2.ex x4).ex x5, fun u2 H6 eu2 x6 s6 b6 => ?_⟩⟩
      have hl6 : H6 Dl = some (.dK kvs) := x6 Dl _ (x5 Dl _ hl4)
      obtain ⟨v1, v2⟩ := svD_er eu2 hw
      have hlt : kvs.length < 16777216 := by omega
      refine ⟨kvs, kk, key_er eu hk, hl6, by rw [sizeLine_eq]; exact hlt, m - 1, by omega, ?_⟩
      rw [v1]
      refine ⟨hi2, by omega, Evl.Ex.mut ((ex4.trans x5).trans x6) hD, putK kvs kk wv, upd_same, putK_scl hscl v2, ?_, hb3⟩
      have := putK_len kvs kk wv
      omega
    | false =>
      rw [if_neg Bool.false_ne_true] at hb3
      dsimp only
      rw [if_neg Bool.false_ne_true]
      exact ⟨m - 1, by omega, hi2, by omega, ex4, kvs, hl4, hscl, by omega, hb3⟩
  · have hi3 : ds.length ≤ i := Nat.le_of_not_lt hi2
    refine .inl ⟨w.stop i H2 ss2 hi3, ?_⟩
    rw [List.drop_eq_nil_of_le hi3, dcD] at hrr
    cases hrr
    refine k (.n (.dic .o (rs.map (·.1))) Dl (rs.map fun p => T.s p.2)) H2 (er_sc hscl) (x1.trans ex) ⟨⟨by rw [ho_sc]; exact hacc, rfl⟩, satL_sc _⟩ fun a => ?_
    have c4 : H1 a = none → H a = none := Evl.fresh_back x1
    rw [T.co, T.cu, coL_sc, cuL_sc]
    by_cases q : Dl = a
    · subst q
      refine ⟨by simp [Kd.own], fun _ => c4 hD, fun q => absurd q (by simp [Kd.own])⟩
    · rw [if_neg (fun z => q z.2), if_neg (fun z => q z.2)]
      exact ⟨by omega, fun z => absurd z (by omega), fun z => absurd z (by omega)⟩
end
end Ow

namespace Ow
open PySem L2 Enc
section
variable {K : PySem.W.Frag} {H0 H : Hp} {env0 env : TEnv} {σ : L2.St} {F ts : List T} {k : Kd} {p : Addr}
theorem Cf.node (c : Cf K H0 env0 σ H (ts ++ F) env) (hk : k.isw = false) (hp : H p = none) : Cf K H0 env0 σ (upd H p (k.ho (vals ts))) (T.n k p ts :: F) env := by
  have x : Ex H (upd H p (k.ho (vals ts))) := Evl.Ex.new hp
  have c' := c.ex x
  have sF := satL_append.mp c'.satF
  have z1 : ¬ 0 < coL p (ts ++ F) := fun h => coL_some _ c.satF h hp
  have z2 : ¬ 0 < cuL p (ts ++ F) := fun h => cuL_some _ c.satF h hp
  have z3 : ¬ 0 < coE p env := fun h => coE_some c.satE h hp
  have z4 : ¬ 0 < cuE p env := fun h => cuE_some c.satE h hp
  rw [coL_append] at z1
  rw [cuL_append] at z2
  refine ⟨c'.rel, ⟨⟨⟨upd_same, hk⟩, sF.1⟩, sF.2⟩, c'.satE, fun a => ?_, ⟨fun a o h hc => ?_, fun a h => ?_, fun a => ?_⟩⟩
  · have w := c.wf a
    simp only [coL_append, cuL_append] at w
    simp only [coL, cuL, T.co, T.cu]
    by_cases q : p = a
    · subst q
      by_cases o : k.own = true
      · rw [if_pos ⟨o, rfl⟩, if_neg (fun z => by rw [o] at z; exact absurd z.1 (by decide))]
        omega
      · have o' : k.own = false := by simpa using o
        rw [if_neg (fun z => o z.1), if_pos ⟨o', rfl⟩]
        omega
    · rw [if_neg (fun z => q z.2), if_neg (fun z => q z.2)]
      omega
  · exact x a o (c.stp.1 a o h hc)
  · exact c.stp.2.1 a (Evl.fresh_back x h)
  · have s3 := c.stp.2.2 a
    simp only [coL_append, cuL_append] at s3
    simp only [coL, cuL, T.co, T.cu]
    by_cases q : p = a
    · subst q
      have hn := c.stp.2.1 p hp
      exact ⟨fun _ => .inr hn, fun _ => .inr (.inr hn)⟩
    · rw [if_neg (fun z => q z.2), if_neg (fun z => q z.2)]
      refine ⟨fun h => s3.1 (by omega), fun h => s3.2 (by omega)⟩
end
section
variable {X : Cx} {e a b : Expr} {me m1 m2 : EM} {pos p : Pos} {U : List Nat}
def eTup2 (m1 m2 : EM) : EM := fun env => (m1 env).bind fun x => (m2 x.2).map fun y => (.n .tup [x.1, y.1], y.2)
def eSorted (me : EM) : EM := fun env => (me env).bind fun x => (fSorted [x.1]).map fun ds => (.n (.lst .o) ds, x.2)
theorem se_sorted (hm : X.mg "sorted" = none) (ha : SE X U e me) (hb : bootBuiltins "sorted" = some (.builtin "sorted") := by decide +kernel) (hg : Gl X "sorted" := by rfl)
    (hn : ("sorted" : Str) ≠ "__name__" := by decide) (hdb : (("sorted" : Str) == ("__debug__" : Str)) = false := by decide) (he : starEach [e] X.env = (false, eval e X.env) :: starEach [] X.env := by rfl) (hpl : (backTo pos (starEach [] X.env)).any (·.1) = false := by rfl) : SE X U (.Call (.Name "sorted" p) [e] [] pos) (eSorted me) :=
  PE.weak (pe_callB cr_sortedI hg hm hb (pa_cons ha pa_nil he) hn hdb he hpl) fun σ H Q ⟨env, d, e', hmm, r, s, w, k⟩ => by
    obtain ⟨x, hx, hmm⟩ := bind_some hmm
    obtain ⟨ds, hs, e1⟩ := map_some hmm
    cases e1
    unfold tCB tCons tNil
    refine goE (d := x.1) (e' := x.2) (Cf.start r s w) hx fun t1 env1 H1 e1 e2 c1 u1 => ?_
    obtain ⟨ns, h1, rfl⟩ := map_some hs
    obtain ⟨a, g1, g2⟩ := li_of (ts := [t1]) ⟨c1.satF.1, trivial⟩ (by rw [erL, erL, e1]; exact h1)
    refine ⟨a, ns, g1, g2, fun ns' q h2 h3 hq => ?_⟩
    rw [srt_eq h2 h3, ← vals_ints]
    have c3 : Cf X.K H env σ H1 (((srt ns).map fun i => T.s (.int i)) ++ []) env1 := c1.less c1.rel (by rw [List.append_nil]; exact sat_ints _) c1.satE (fun b => by rw [List.append_nil, co_ints]; omega) (fun b => by rw [List.append_nil, cu_ints]; omega)
    have c4 := c3.node (k := .lst .o) rfl hq
    exact k (.n (.lst .o) q _) env1 _ (by rw [T.er, erL_ints]) e2 c4 u1
end
end Ow

namespace Ow
open PySem L2 Enc
section
variable {X : Cx} {P : List Nat}
theorem sw_dc {kx vx : Expr} {gs : List Comprehension} {sc : Scope} {po pn : Pos} {y : PySem.Str} {n : Nat} {ev : PySem.Env} (h1 : ev.scope.kind = .function) (h2 : ev.scope.names.lookup y = some .local) (h3 : (pn.line == po.line) = true)
    (h4 : (sc.names.any fun (z, q) => z == y && (q == .local || q == .cell)) = false) :
    swapsWith (.DictComp kx vx gs sc po) (some (.Name y pn)) n ev = pure true := by
  have e1 : ev.kindOf y = some .local := h2
  have e2 : ev.blockKind = .function := by
    rw [Env.blockKind, h1]; rfl
  unfold swapsWith
  simp only [e2, e1, h4, Expr.pos, h3]
  rfl
theorem ss_setDc {kx vx tg it : Expr} {ifs : List Expr} {sc : Scope} {own : List (PySem.Str × Nat)} {mi : LM} {g : Tg} {mt : BM} {mx mv : PM} {y : PySem.Str} {pn po ps : Pos} (i : Nat) (hP : i ∉ P) (hc : X.calm = true) (hN : X.N.Nodup) (hi : SI X tg it mi) (ok : blkC X.N X.env.scope sc own = true)
    (hg : ∀ (s : Shared) (H : Hp) (C : Addr) (cl : List (PySem.Str × Addr)) (fp : List Addr), SG (X.blk s H sc (compEnvC sc cl C X.env) fp) tg g)
    (ht : ∀ (s : Shared) (H : Hp) (C : Addr) (cl : List (PySem.Str × Addr)) (fp : List Addr), STs (X.blk s H sc (compEnvC sc cl C X.env) fp) ifs mt)
    (hk : ∀ (s : Shared) (H : Hp) (C : Addr) (cl : List (PySem.Str × Addr)) (fp : List Addr), SB (X.blk s H sc (compEnvC sc cl C X.env) fp) kx mx)
    (he : ∀ (s : Shared) (H : Hp) (C : Addr) (cl : List (PySem.Str × Addr)) (fp : List Addr), SB (X.blk s H sc (compEnvC sc cl C X.env) fp) vx mv) (hsl : ∀ j ∈ g.sl, j ∈ own.map (·.2))
    (hw : swapsWith (.DictComp kx vx [⟨tg, it, ifs, 0⟩] sc po) (some (.Name y pn)) ps.line X.env = pure true) (hy : X.N[i]? = some y := by rfl) (hl : X.env.scope.names.lookup y = some .local := by rfl) (hs : ∀ x, foldedSetIterable it X.env x = pure x := by intro _; rfl) :
    SS X P (.Assign [.Name y pn] (.DictComp kx vx [⟨tg, it, ifs, 0⟩] sc po) ps) (sSet i (lift (mDc mi g mt mx mv (own.map (·.2))))) := ⟨fun pins s σ H De I h => by
  have z : tDc (trI X.K mi) (gOf X.K g) (trT X.K mt) (trB X.K mx) (trB X.K mv) (own.map (·.2)) σ H (fun x H1 => gName i x σ H1 De.nx) := by
    obtain ⟨env, d, e', hm, r, sa, w, k⟩ := asg_rd (X := X) hP h
    obtain ⟨x, hx, e1⟩ := map_some hm
    cases e1
    exact dc_rd hsl (goP (Cf.start r sa w) hx fun t H' e1 x c => k t env H' e1 rfl c fun _ _ => rfl)
  rw [exec_Assign_Name_used _ _ _ _ hw]
  refine wpAny_bind (wpAny_standAt ?_)
  refine wpAny_bind ?_
  show wpAny _ X.A (do
    let _ ← comprehension (.DictComp kx vx [⟨tg, it, ifs, 0⟩] sc po) sc X.env (firstIterPos [⟨tg, it, ifs, 0⟩] po) newDict false (eval it X.env) (some (assign (.Name y pn) X.env))) _ _ s
  have fin := dc_core (own := own) (g := gOf X.K g) (tt := trT X.K mt) (tk := trB X.K mx) (tv := trB X.K mv) (use := some (assign (.Name y pn) X.env)) (pos' := firstIterPos [⟨tg, it, ifs, 0⟩] po) (pos := po) (Qf := fun _ s' => L2.SP X pins De .next s') hc hN I hi (blkOk_by ok) hg ht hk he hs z
  refine wpAny_bind (thn (fin fun D C s2 m H2 I2 zz hn f => ?_) fun _ s3 hq => wpAny_pure (wpAny_pure hq))
  show wpAny _ _ (assign (.Name y pn) X.env (.ref D)) _ _ _
  refine wpAny_assign_Name (store_ok2 (v := .ref D) I2 hN hy (Or.inl hl) rfl (fun s4 I4 hx => ?_) (Or.inr hl))
  obtain ⟨a, sb, ha⟩ := hx
  have ne : C ≠ a := by
    rcases ha with u | u
    · rw [u]; exact f.2.1
    · exact fun e => f.2.2.2.2.1 y a u e.symm
  exact ⟨m, hn.sameBut sb ne, fun h3 sb3 => ⟨_, H2, I4.turned (t' := s4.toks) (fun b o hb e => (sb3.2 b hb).trans e) f.1 f.2.1 f.2.2.2.1 f.2.2.2.2.1 f.2.2.2.2.2, zz⟩⟩⟩
end
end Ow

namespace Ow
open PySem L2 Enc
def fXor := fI okI fun i j => .int (Builtin.bitXor i j)
section
variable {X : Cx} {a b : Expr} {pos : Pos} {ma mb : PM} {m1 m2 : EM} {U : List Nat}
theorem sp_xor (ha : SB X a ma) (hb : SB X b mb) : SP X (.BinOp a .BitXor b pos) (mOp2 fXor ma mb) := sp_op op_xor op2_I0 ha hb
end
end Ow

namespace Ow
open PySem L2 PySem.Spec PyProof.Rows


def pickN (n : Nat) (lo hi st : Option Int) : List Nat := sliceRange (sliceBounds lo hi st n).1 (sliceBounds lo hi st n).2.1 (sliceBounds lo hi st n).2.2
def pickG {α : Type} (xs : List α) (lo hi st : Option Int) : List α := (pickN xs.length lo hi st).filterMap fun i => xs[i]?
def tSl3 (K : PySem.W.Frag) (te : TE) (tl th ts : TO) : TE := fun σ H Q => te σ H fun x H1 => tl σ H1 fun l H2 => th σ H2 fun u H3 => ts σ H3 fun c H4 => c ≠ some 0 ∧ ∃ a xs, x = .ref a ∧ SqL K H4 a xs ∧ ∀ p, H4 p = none → Q (.ref p) (upd H4 p (.lst (pickG xs l u c)))
def mSl3 (m : PM) (lo hi st : Env → Option (Option Int)) : PM := fun env => (m env).bind fun x => (lo env).bind fun l => (hi env).bind fun h => (st env).bind fun c => match x with
  | .n (.lst _) ds => if c ≠ some 0 ∧ pureL (pickG ds l h c) = true then some (.n (.lst .o) (pickG ds l h c)) else none
  | _ => none
section
variable {X : Cx} {ma : PM} {a st : Expr} {pos : Pos}
end
end Ow

namespace Ow
open PySem L2 PySem.Spec PyProof.Rows


def sAugP (i : Nat) (pm : Env → Option (List Nat)) (mb : PM) (f : D → D → Option V) (me : PM) : SM := fun env => (pm env).bind fun p => (mb env).bind fun y => (toI y).bind fun n => (env[i]?.join).bind fun d => (atD p d).bind fun c => match c with
  | .n (.lst .o) ds => (atI ds n).bind fun x => (me env).bind fun e => (f x e).bind fun v => (sv v).bind fun w => (modD p (fun ds => (ixN ds.length n).map fun j => ds.set j w) d).map fun d' => (.nx, env.set i (some d'))
  | _ => none
section
variable {X : Cx} {a b e : Expr} {i : Nat} {pm : Env → Option (List Nat)} {mb me : PM} {P : List Nat} {pos tpos : Pos}
end
end Ow

namespace Ow
open PySem L2 PySem.Spec PyProof.Rows


def mD1 (mx mv : PM) : PM := fun env => (mx env).bind fun x => (keyD x).bind fun k => (mv env).bind fun v => (svD v).map fun w => dicD .o [(k, w)]
end Ow

namespace Ow
open PySem L2 PySem.Spec PyProof.Rows


section
variable {K : PySem.W.Frag} {H0 H H' : Hp} {env0 env : TEnv} {σ : L2.St} {F ts : List T}
theorem Cf.addPure (c : Cf K H0 env0 σ H F env) (x : Ex H H') (s1 : satL K H' ts) (ho : ∀ a, coL a ts = 0) (hu : ∀ a, 0 < cuL a ts → 0 < cuE a env ∨ H a = none) : Cf K H0 env0 σ H' (ts ++ F) env := by
  refine ⟨c.rel, satL_append.mpr ⟨s1, satL_ex x c.satF⟩, c.satE.ex x, fun a => ?_, Stp.trans c.stp ⟨fun a o h _ => x a o h, fun a h => Evl.fresh_back x h, fun a => ?_⟩⟩
  · have w := c.wf a
    have z := ho a
    simp only [coL_append, cuL_append] at w ⊢
    by_cases q : 0 < coL a F + coE a env
    · have nn : H a ≠ none := by
        by_cases q2 : 0 < coL a F
        · exact coL_some F c.satF q2
        · exact coE_some c.satE (by omega)
      have : cuL a ts = 0 := by
        rcases Nat.eq_zero_or_pos (cuL a ts) with y | y
        · exact y
        · rcases hu a y with y | y
          · omega
          · exact absurd y nn
      omega
    · omega
  · have z := ho a
    simp only [coL_append, cuL_append]
    refine ⟨fun q => .inl (by omega), fun q => ?_⟩
    by_cases q2 : 0 < cuL a ts
    · rcases hu a q2 with y | y
      · exact .inr (.inl (by omega))
      · exact .inr (.inr y)
    · exact .inr (.inl (by omega))
end
theorem rdO2 {K : PySem.W.Frag} {H : Hp} {t : T} {o : Fl} {ds : List D} (hs : t.sat K H) (he : t.er = .n (.lst o) ds) (hn : nw o = true) : ∃ a ts, t = .n (.lst o) a ts ∧ erL ts = ds ∧ H a = some (.lst (vals ts)) ∧ satL K H ts := by
  cases t with
  | s v => rw [T.er] at he; cases he
  | n k a ts =>
    rw [T.er] at he
    cases he
    exact ⟨a, ts, rfl, rfl, hs.1.1, hs.2⟩
  | w z k a ts =>
    rw [T.er] at he
    cases k <;> simp [Kd.wri] at he
    obtain ⟨e1, _⟩ := he
    rw [← e1] at hn
    cases hn
def sExt (i : Nat) (pm : Env → Option (List Nat)) (me : PM) : SM := fun env => (pm env).bind fun p => (me env).bind fun x => match x with
  | .n (.lst o) es => if (nw o && pureL es) = true then (env[i]?.join).bind fun d => (modD p (fun ds => if ds.length + es.length < 16777216 then some (ds ++ es) else none) d).map fun d' => (.nx, env.set i (some d')) else none
  | _ => none
theorem ss_extend {X : Cx} {a e : Expr} {i : Nat} {pm : Env → Option (List Nat)} {me : PM} {P : List Nat} {pos apos cpos : Pos} (ho : SPl X i a pm) (h : SB X e me) (hbase : attributeBase a "extend" X.env (eval a X.env) = eval a X.env := by rfl)
    (hfew : ((backTo cpos (starEach [e] X.env)).all (fun x => !x.1) && (backToKw cpos (keywordEach [] X.env)).all (fun x => x.1.isSome)
      && decide (([e] : List Expr).length + ([] : List Keyword).length + (if ([] : List Keyword).isEmpty then 0 else 1) < 30)) = true := by rfl)
    (hline : (apos.endLine == cpos.line) = true := by rfl) (hs : starEach [e] X.env = (false, eval e X.env) :: starEach [] X.env := by rfl) (hplain : (backTo cpos (starEach [] X.env)).any (·.1) = false := by rfl)
    (hsw : swapsWith (.Call (.Attribute a "extend" apos) [e] [] cpos) none pos.line X.env = pure false := by rfl) : SS X P (.Expr (.Call (.Attribute a "extend" apos) [e] [] cpos) pos) (sExt i pm me) :=
  PS.weak (ps_expr (pe_bm PySem.F.plainAttrs_list PySem.F.slot_list_extend PySem.F.type_list_extend mt_extend ho.pe (pa_cons h pa_nil hs) hbase hfew hline hs hplain) hsw) fun De σ H ⟨env, o, e', hm, r, s, w, k⟩ => by
    obtain ⟨p, hp, hm⟩ := bind_some hm
    obtain ⟨x, hx, hm⟩ := bind_some hm
    split at hm
    case h_2 => cases hm
    rename_i o1 es
    obtain ⟨hc, hm⟩ := if_some' hm
    rw [Bool.and_eq_true] at hc
    obtain ⟨d, hd, hm⟩ := bind_some hm
    obtain ⟨d', hmd, e1⟩ := map_some hm
    cases e1
    obtain ⟨t, h1, rfl⟩ := join_get hd
    unfold tDrop tBM
    refine goPl ho.ok (Cf.start r s w) hp fun t' u H1 h1' h2 x1 c1 => ?_
    rw [h1] at h1'
    cases h1'
    obtain ⟨a1, ts1, M1⟩ := mod_run (c1.satE.get h1) hmd
    have ha1 := M1.at_
    rw [h2] at ha1
    cases ha1
    refine ⟨.inl ⟨rfl, _, .inl (.inl M1.nd)⟩, ?_⟩
    unfold tCons
    refine goB c1 hx fun v H2 e1 x2 s2 b2 c2 => ?_
    obtain ⟨b, tv, rfl, f2, f3, f4⟩ := rdO2 s2 e1 hc.1
    subst f2
    obtain ⟨a2, ts, M⟩ := mod_run (c2.satE.get h1) hmd
    have := M.at_
    rw [h2] at this
    cases this
    obtain ⟨ds', g1, _⟩ := M.new
    obtain ⟨g2, rfl⟩ := if_some g1
    refine ⟨a1, b, _, _, rfl, rfl, M.nd, f3, Nat.le_of_lt (sizeLine_lt (by rw [List.length_map, List.length_map, ← erL_length, ← erL_length]; exact g2)), ?_⟩
    have hz : ∀ q, coL q tv = 0 := fun q => pureL_co tv hc.2
    have c3 : Cf X.K H env σ H2 (tv ++ []) env := c1.addPure x2 f4 hz fun q hq => (b2 q).2 (by rw [T.cu]; omega)
    obtain ⟨env2, w1, _, c4⟩ := mut_step (G := tv) (F' := []) (G' := []) (ts' := ts1 ++ tv) c3 h1 M (by rw [g1, erL_append]) (satL_append.mpr ⟨M.sat, f4⟩) trivial (fun b => by simp only [coL_append, coL]; have := hz b; omega)
      (fun b h => by have := M.leu b; have := cuE_get (a := b) h1; simp only [cuL_append, cuL] at h ⊢; omega)
    have ev : vals (ts1 ++ tv) = vals ts1 ++ vals tv := by simp [vals]
    rw [ev] at c4
    exact k [] σ env2 _ w1 c4 (fun _ _ => rfl) rfl
end Ow

namespace Ow
open PySem L2 PySem.Spec PyProof.Rows


section
variable {K : PySem.W.Frag} {H0 H H' : Hp} {env0 env : TEnv} {σ : L2.St} {F : List T} {t : T}
end
def allEv : List As → Bool
  | [] => true
  | .ev _ :: r => allEv r
  | _ :: _ => false
theorem argV_ev {σ : L2.St} : ∀ {as : List As} {F : List T} {vs : List V}, allEv as = true → ArgV σ as F vs → vs = vals F
  | [], F, vs, _, h => by rw [h.1, h.2]; rfl
  | .ev m :: r, [], vs, _, h => h.elim
  | .ev m :: r, t :: F, vs, ha, h => by
    obtain ⟨vs', rfl, h2⟩ := h
    rw [argV_ev (as := r) ha h2]; rfl
theorem slots_ev : ∀ {as : List As}, allEv as = true → muS as ++ boS as = []
  | [], _ => rfl
  | .ev m :: r, h => by
    have := slots_ev (as := r) h
    rw [muS, boS]; exact this
def eMk (k : Kd) (as : List As) : EM := fun env => if allEv as = true then (evA as env).bind fun x => if x.1.length ≤ 16777216 then some (.n k x.1, x.2) else none else none
section
variable {X : Cx} {es : List Expr} {as : List As} {U : List Nat} {pos : Pos}
theorem mk_rd {k : Kd} (hk : k.isw = false) {σ : L2.St} {H : Hp} {Q : VK} (h : trE X.K U (eMk k as) σ H Q) : trEA X.K U as σ H fun xs H1 => xs.length ≤ sizeLine ∧ ∀ p, H1 p = none → Q (.ref p) (upd H1 p (k.ho xs)) := by
  obtain ⟨env, d, e', hm, r, s, w, kk⟩ := h
  unfold eMk at hm
  obtain ⟨ha, hm⟩ := if_some' hm
  obtain ⟨x, hx, hm⟩ := bind_some hm
  obtain ⟨hl, e1⟩ := if_some hm
  cases e1
  refine ⟨env, x.1, x.2, hx, r, s, w, by rw [slots_ev ha]; simp, fun F env1 H1 vs e1 e2 c1 u1 av => ?_⟩
  rw [argV_ev ha av]
  refine ⟨sizeLine_le (by rw [List.length_map, ← erL_length, e1]; exact hl), fun p hp => ?_⟩
  have c2 : Cf X.K H env σ H1 (F ++ []) env1 := by rw [List.append_nil]; exact c1
  exact kk (.n k p F) env1 _ (by rw [T.er, e1]) e2 (c2.node hk hp) u1
theorem se_lstA (ha : SEA X U es as) : SE X U (.List es pos) (eMk (.lst .o) as) := PE.weak (pe_lst ha) fun σ H Q h => mk_rd rfl h
theorem se_tupA {x1} (ha : SEA X U es as) : SE X U (.Tuple es x1 pos) (eMk .tup as) := PE.weak (pe_tup ha) fun σ H Q h => mk_rd rfl h

def pM (f : FM) : FMu := fun ds => (f (frzD ds)).map fun d => (d, [])
theorem ok_pM {P : Program} {w : World} {K : PySem.W.Frag} {mg : Str → Option Value} {base : Heap} {CX : CXT} {k n : Nat} {f : Addr} {fd : FuncData} {ps : List Str} {fm : FM} (F : FnOk P w K mg base CX k f fd ps (spP K n fm)) : FnOk P w K mg base CX k f fd ps (spM K n [] (pM fm)) :=
  F.imp fun vs H Q E ⟨ts, d, os, e1, e2, s, wf, hf, k⟩ => by
    obtain ⟨d', hd, e3⟩ := map_some hf
    cases e3
    refine ⟨ts, d, e1, e2, s, hd, fun t H' e4 x st ow => k t [] H' e4 rfl (fun j i h => by cases h) st trivial (fun a => ?_) ⟨fun a o h _ => x a o h, fun a h => Evl.fresh_back x h, fun a => ?_⟩⟩
    · have := (ow a).1
      simp only [coL, cuL]
      omega
    · simp only [coL, cuL]
      exact ⟨fun h => .inr ((ow a).2.1 (by omega)), fun h => (ow a).2.2 (by omega)⟩

def sForE (me : EM) (g : Tg) (mb : SM) : SM := fun env => (me env).bind fun x => (asL x.1.frz).bind fun ds => if pureL ds = true then forD g mb ds x.2 else none
def trJE (K : PySem.W.Frag) (me : EM) : TI := fun σ H R => ∃ env d e' ds, me (erE env) = some (d, e') ∧ asL d.frz = some ds ∧ Rel σ env ∧ SatE K H env ∧ WfF [] env ∧ ∀ J src env1 H1, erE env1 = e' → Cf K H env σ H1 src env1 → Wk K J src ds → R J H1

def ePop (i : Nat) (pm : Env → Option (List Nat)) : EM := fun env => (pm env).bind fun p => (env[i]?.join).bind fun d => (atD p d).bind fun c => match c with
  | .n (.lst .o) ds => (ds[ds.length - 1]?).bind fun z => (modD p (fun _ => some ds.dropLast) d).map fun d' => (z, env.set i (some d'))
  | _ => none
end
end Ow

namespace Ow
open PySem L2 PySem.Spec PyProof.Rows


def sAsgE (g : Tg) (m : EM) : SM := fun env => (m env).bind fun x => (bD g x.1 x.2).map fun e' => (.nx, e')
def sAsgL (gs : List Tg) (m : PM) : SM := fun env => (m env).bind fun d => match d with
  | .n (.lst _) ds => if pureL ds = true ∧ ds.length = gs.length then (bDs gs ds env).map fun e' => (.nx, e') else none
  | _ => none
section
variable {X : Cx} {tg e : Expr} {es : List Expr} {m : PM} {me : EM} {pos tpos : Pos} {P : List Nat}
theorem ss_asgE {g : Tg} (he : SE X [] e me) (hg : SG X tg g) (hP : ∀ i ∈ g.sl, i ∉ P) (hs : swapsWithSole [tg] e pos.line X.env = pure false := by rfl) (hw : swappedStores [tg] e X.env = pure none := by rfl) (h1 : (assignEach [tg] X.env).map (·.2) = [assign tg X.env] := by rfl) :
    SS X P (.Assign [tg] e pos) (sAsgE g me) := PS.weak (ps_asg he hg hs hw h1) fun De σ H ⟨env, o, e', hm, r, s, w, k⟩ => by
  obtain ⟨x, hx, hm⟩ := bind_some hm
  obtain ⟨e2, h2, e3⟩ := map_some hm
  cases e3
  refine goE (d := x.1) (e' := x.2) (Cf.start r s w) hx fun t env1 H1 e1 e2 c1 u1 => ?_
  rw [← e1, ← e2] at h2
  refine g_run g t σ env1 e' _ c1.rel c1.satF.1 h2 fun σ' env' B => ?_
  have c2 : Cf X.K H env σ' H1 [] env' := c1.less B.rel trivial (fun u hu => (B.sat u hu).elim (fun z => c1.satE u z) id) (fun a => by have := B.co a; simp only [coL]; omega) (fun a => by have := B.cu a; simp only [cuL]; omega)
  exact k [] σ' env' H1 B.er c2 (fun i hi => (B.out i fun z => hP i z hi).1) rfl
end
end Ow

namespace Ow
open PySem L2 PySem.Spec PyProof.Rows


def sForH (i : Nat) (g : Tg) (mb : SM) : SM := fun env => (env[i]?.join).bind fun d => (asL d).bind fun ds => if pureL ds = true then (forD g mb ds (env.set i none)).map fun x => (x.1, x.2.set i (some d)) else none
section
variable {X : Cx} {pos p : Pos} {P : List Nat} {mb : SM} {body : List Stmt} {tg : Expr} {g : Tg}
theorem Cf.back {K : PySem.W.Frag} {H0 H : Hp} {env0 env : TEnv} {σ : L2.St} {t : T} {F : List T} {i : Nat} (c : Cf K H0 env0 σ H (F ++ [t]) env) (hi : σ[i]? = some (some t.val)) : Cf K H0 env0 σ H F (env.set i (some t)) := by
  have hil : i < env.length := by
    have := c.rel.1
    have q := (List.getElem?_eq_some_iff.mp hi).1
    omega
  have sF := satL_append.mp c.satF
  have r2 : Rel σ (env.set i (some t)) := by
    refine ⟨by rw [List.length_set, c.rel.1], fun q u hu => ?_⟩
    rw [List.getElem?_set] at hu
    by_cases e : i = q
    · subst e
      rw [if_pos rfl, if_pos hil] at hu
      cases hu
      exact hi
    · rw [if_neg e] at hu
      exact c.rel.2 q u hu
  refine c.less r2 sF.1 (c.satE.set fun u hu => by cases hu; exact sF.2.1) (fun a => ?_) fun a => ?_
  · have := set_co (env := env) (j := i) (t := t) (a := a)
    simp only [coL_append, coL]
    omega
  · have := set_cu (env := env) (j := i) (t := t) (a := a)
    simp only [cuL_append, cuL]
    omega
theorem ss_forH {x : Str} (i : Nat) (hc : X.calm = true) (hp : PassesOwn (model X.prog X.w) X.A X.env X.xe) (hg : SG X tg g) (hb : SSs X (i :: P) body mb) (hP : ∀ j ∈ g.sl, j ∉ i :: P) (hi : X.N[i]? = some x := by rfl) (hv : Vis X.env.scope x := by first | exact .inl rfl | exact .inr (.inl rfl) | exact .inr (.inr rfl))
    (hd : (x == ("__debug__" : Str)) = false := by decide) (hcd : (x == ("__classdict__" : Str)) = false := by decide) (hs : ∀ z, foldedSetIterable (.Name x p) X.env z = pure z := by intro _; rfl) :
    SS X P (.For tg (.Name x p) body [] pos) (sForH i g mb) :=
  PS.weak (ps_for hp hc (pi_list (pe_var (i := i) hi hv hd hcd)) hg hb hs) fun De σ H ⟨env, o, e', hm, r, s, w, k⟩ => by
    obtain ⟨d, hd, hm⟩ := bind_some hm
    obtain ⟨ds, hds, hm⟩ := bind_some hm
    obtain ⟨hpu, hm⟩ := if_some' hm
    obtain ⟨z, hz, e1⟩ := map_some hm
    cases e1
    obtain ⟨t, h1, h2⟩ := join_get hd
    obtain ⟨fl, h3⟩ := asL_some hds
    subst h3
    obtain ⟨a, f1, f2, wk⟩ := wk_list (s.get h1) h2
    have hσi : σ[i]? = some (some t.val) := r.2 i _ h1
    refine ⟨t.val, hσi, a, f1, ⟨_, f2⟩, ?_⟩
    have c0 : Cf X.K H env σ H [t] (env.set i none) := (Cf.start r s w).less r.drop ⟨s.get h1, trivial⟩ (s.set fun u hu => by cases hu) (fun b => by
        have := coE_set (a := b) none h1
        simp only [coL, oT] at this ⊢; omega) fun b => by
        have := cuE_set (a := b) none h1
        simp only [cuL, oT] at this ⊢; omega
    refine ⟨fun n mm σi Hi => n ≤ ds.length ∧ mm = ds.length - n ∧ ∃ envi, forD g mb (ds.drop n) (erE envi) = some z ∧ Cf X.K H env σi Hi [t] envi ∧ σi[i]? = some (some t.val) ∧ ∀ j ∈ P, σi[j]? = σ[j]?,
      ⟨ds.length, Nat.zero_le _, rfl, env.set i none, by rw [erE_set]; exact hz, c0, hσi, fun _ _ => rfl⟩, fun n mm σi Hi W => ?_⟩
    obtain ⟨le, ms, envi, hf, c, pi, pq⟩ := W
    by_cases hlt : n < ds.length
    · refine .inr ⟨wk.go n Hi c.satF hlt, fun σ' H' => ∃ m', m' < mm ∧ (n + 1 ≤ ds.length ∧ m' = ds.length - (n + 1) ∧ ∃ envi, forD g mb (ds.drop (n + 1)) (erE envi) = some z ∧ Cf X.K H env σ' H' [t] envi ∧ σ'[i]? = some (some t.val) ∧ ∀ j ∈ P, σ'[j]? = σ[j]?), fun σ' H' h => h, fun x H3 hy => ?_⟩
      have hd := List.getElem?_eq_getElem hlt
      obtain ⟨t3, rfl, et, x3, s3, c3, u3⟩ := wk.yld n Hi x H3 c.satF hy _ hd
      rw [List.drop_eq_getElem_cons hlt, forD] at hf
      obtain ⟨e1, hb1, hf⟩ := bind_some hf
      obtain ⟨y, hb2, hf⟩ := bind_some hf
      rw [← et] at hb1
      have pt : t3.er.pure = true := by rw [et]; exact pureL_at hpu hd
      refine g_run g t3 σi envi e1 _ c.rel s3 hb1 fun σ2 env2 B => ?_
      have c2 : Cf X.K H env σ2 H3 [t] env2 := Cf.bind c x3 (fun a => pure_co t3 pt) (fun a q => (u3 a q).elim .inl fun z => .inr (.inr z)) s3 B
      have pB : ∀ j ∈ i :: P, σ2[j]? = σi[j]? := fun j hj => (B.out j fun z => hP j z hj).1
      refine ⟨env2, y.1, y.2, by rw [B.er]; exact hb2, c2.rel, c2.satE, c2.base, fun F σ3 env3 H4 e3 c4 p4 => ?_⟩
      have c5 := c2.step c4
      have pi5 : σ3[i]? = some (some t.val) := ((p4 i (by simp)).trans (pB i (by simp))).trans pi
      have p5 : ∀ j ∈ P, σ3[j]? = σ[j]? := fun j hj => ((p4 j (List.mem_cons_of_mem _ hj)).trans (pB j (List.mem_cons_of_mem _ hj))).trans (pq j hj)
      obtain ⟨yo, ye⟩ := y
      have fin : ∀ (F : List T), Cf X.K H env σ3 H4 (F ++ [t]) env3 → Cf X.K H env σ3 H4 F (env3.set i (some t)) := fun F c => c.back pi5
      have er2 : ∀ e'', erE env3 = e'' → erE (env3.set i (some t)) = e''.set i (some (D.n (.lst fl) ds)) := fun e'' q => by rw [erE_set, q, Option.map_some, h2]
      cases yo with
      | nx =>
        intro hF
        subst hF
        exact ⟨mm - 1, by omega, hlt, by omega, env3, by rw [e3]; exact hf, c5, pi5, p5⟩
      | ct =>
        intro hF
        subst hF
        exact ⟨mm - 1, by omega, hlt, by omega, env3, by rw [e3]; exact hf, c5, pi5, p5⟩
      | bk =>
        intro hF
        subst hF
        cases hf
        exact k [] σ3 _ H4 (er2 _ e3) (fin [] c5) p5 rfl
      | rt d =>
        cases hf
        exact k F σ3 _ H4 (er2 _ e3) (fin F c5) p5
    · have hi3 : ds.length ≤ n := Nat.le_of_not_lt hlt
      refine .inl ⟨wk.stop n Hi c.satF hi3, ?_⟩
      rw [List.drop_eq_nil_of_le hi3, forD] at hf
      cases hf
      exact k [] σi _ Hi (by rw [erE_set, Option.map_some, h2]) (c.back (F := []) pi) pq rfl

def eCat (m1 m2 : EM) : EM := fun env => (m1 env).bind fun x => (m2 x.2).bind fun y => (fCat x.1 y.1).map fun rs => (.n (.lst .o) rs, y.2)
theorem cf_open {K : PySem.W.Frag} {H0 H : Hp} {env0 env : TEnv} {σ : L2.St} {a b : Addr} {o o' : Fl} {ts us : List T} (c : Cf K H0 env0 σ H [.n (.lst o') b us, .n (.lst o) a ts] env) : Cf K H0 env0 σ H ((ts ++ us) ++ []) env :=
  c.less c.rel (satL_append.mpr ⟨satL_append.mpr ⟨c.satF.2.1.2, c.satF.1.2⟩, trivial⟩) c.satE (fun q => by simp only [coL_append, coL, T.co]; omega) fun q => by simp only [cuL_append, cuL, T.cu]; omega
theorem se_cat {a b : Expr} {m1 m2 : EM} {U : List Nat} (ha : SE X U a m1) (hb : SE X U b m2) : SE X U (.BinOp a .Add b pos) (eCat m1 m2) := PE.weak (pe_op op_cat ha hb) fun σ H Q ⟨env, d, e', hm, r, s, w, k⟩ => by
  obtain ⟨x, hx, hm⟩ := bind_some hm
  obtain ⟨y, hy, hm⟩ := bind_some hm
  obtain ⟨rs, hr, e1⟩ := map_some hm
  cases e1
  refine goE (d := x.1) (e' := x.2) (Cf.start r s w) hx fun t1 env1 H1 e1 e2 c1 u1 => ?_
  rw [← e2] at hy
  refine goE (d := y.1) (e' := y.2) c1 hy fun t2 env2 H2 e3 e4 c2 u2 => ?_
  unfold fCat at hr
  split at hr
  · rename_i o ds o' es g1 g2
    obtain ⟨hc, rfl⟩ := if_some hr
    rw [Bool.and_eq_true, Bool.and_eq_true] at hc
    obtain ⟨a1, ts, rfl, f2, f3, f4⟩ := rdO2 c2.satF.2.1 (e1.trans g1) hc.1.1
    obtain ⟨a2, us, rfl, h2, h3, h4⟩ := rdO2 c2.satF.1 (e3.trans g2) hc.1.2
    have hlen : (vals ts).length + (vals us).length ≤ 16777216 := by
      have := of_decide_eq_true hc.2
      rw [← f2, ← h2, erL_length, erL_length] at this
      rw [List.length_map, List.length_map]; exact this
    refine ⟨a1, a2, vals ts, vals us, rfl, rfl, f3, h3, sizeLine_le hlen, fun p hp => ?_⟩
    have c3 := cf_open c2
    have c4 := c3.node (k := .lst .o) rfl hp
    have ev : vals (ts ++ us) = vals ts ++ vals us := by simp [vals]
    rw [ev] at c4
    exact k (.n (.lst .o) p (ts ++ us)) env2 _ (by rw [T.er, erL_append, f2, h2]) e4 c4 (fun i hi => (u2 i hi).trans (u1 i hi))
  · cases hr

def mFrz (m : PM) : PM := fun env => (m env).map D.frz
def eFrz (m : EM) : EM := fun env => (m env).map fun x => (x.1.frz, x.2)

def eItemM (m1 m2 : EM) : EM := fun env => (m1 env).bind fun x => (m2 x.2).bind fun y => (fItem x.1 y.1).map fun d => (d, y.2)
end
end Ow

namespace Ow
open PySem L2 PySem.Spec PyProof.Rows
def fLenD : List D → Option V
  | [d] => (dicP d).map fun kvs => .int kvs.length
  | _ => none

section
variable {X : Cx}
def fIsB : D → D → Option V
  | .s (.bl a), .s (.bl b) => some (.bl (decide (a = b)))
  | _, _ => none
def fNotB : D → D → Option V
  | .s (.bl a), .s (.bl b) => some (.bl (!decide (a = b)))
  | _, _ => none
variable {a b : Expr} {ma mb : PM} {m1 m2 : EM} {pos : Pos}
end

def sAppN (i : Nat) (me : EM) : SM := fun env => (env[i]?.join).bind fun d0 => (modD [] some d0).bind fun _ => (me env).bind fun x => (x.2[i]?.join).bind fun d =>
  (modD [] (fun ds => if ds.length < 16777216 then some (ds ++ [x.1]) else none) d).map fun d' => (.nx, x.2.set i (some d'))
section
variable {X : Cx} {a e : Expr} {me : EM} {i : Nat} {P : List Nat} {apos cpos pos : Pos}
end
end Ow

namespace Ow
open PySem L2 PySem.Spec PyProof.Rows

def metL (ns : List Int) : List Int := firstMet (fun i => ns.getD i 0) ns.length
section
variable {X : Cx}
def fDist (ds : List D) : Option V := (li ds).bind fun ns => if ns.length < 4000 then some (.int (metL ns).length) else none
end
end Ow

namespace Ow
open PySem L2 PySem.Spec PyProof.Rows

def intKs : List (Key × V) → Option (List Int)
  | [] => some []
  | (.inl i, _) :: r => (intKs r).map (i :: ·)
  | _ :: _ => none
section
variable {X : Cx}
def fSortD : List D → Option (List D)
  | [d] => (dicP d).bind fun kvs => (intKs kvs).map fun ns => (srt ns).map fun i => .s (.int i)
  | _ => none
end
end Ow

namespace Ow
open PySem L2 PySem.Spec PyProof.Rows

def fCnt (x y : D) : Option V := match x, y with
  | .n (.lst _) ds, .s (.int i) => (intsD ds).map fun ns => .int (ns.count i : Nat)
  | _, _ => none
def mCnt (ma mb : PM) : PM := fun env => (ma env).bind fun x => (mb env).bind fun y => (fCnt x y).bind sv
section
variable {X : Cx} {o e : Expr} {ma mb : PM} {apos cpos : Pos}
end
end Ow

namespace Ow
open PySem PySem.Spec PyProof.Rows L2


structure Held (X : Cx) (pins : List (Addr × Obj)) (a : Addr) (cls : Value) (d : Option Addr) (σ : L2.St) (H : Hp) (B : Heap) (sI s : Shared) : Prop where
  inv : Inv X pins σ H sI
  grd : ∀ b o, sI.heap.get? b = some o → b ∉ frs X.stack → B.get? b = some o
  up : sI.heap.UpToSlots s.heap
  fly : HandSPX.FlyingZ B (X.env :: X.outer) a (Zc cls d) s.heap
  na : H a = none
  os : s.os = sI.os
  ag : AllBare s.gens
section
variable {X : Cx} {pins : List (Addr × Obj)} {a : Addr} {cls : Value} {d : Option Addr} {σ : L2.St} {H : Hp} {B : Heap} {sI s : Shared} {De : Ends} {hds : List ExceptHandler}
def goneE (i : Nat) (De : Ends) : Ends := { nx := fun σ H => De.nx (σ.set i none) H, rt := De.rt, bk := fun σ H => De.bk (σ.set i none) H, ct := fun σ H => De.ct (σ.set i none) H }
abbrev Sui := Addr → Value → Option Addr → TS
inductive Hs where
  | only (c : Value) (ts : Sui)
  | as (c : Value) (i : Nat) (ts : Sui)
def wHs (K : PySem.W.Frag) (Wout : WX) (De : Ends) : List Hs → WX
  | [] => Wout
  | .only c ts :: r => fun cls d σ H => ∃ b, PySem.W.exmOne K cls c = some b ∧ (b = true → ∀ a, H a = none → ts a cls d De σ H) ∧ (b = false → wHs K Wout De r cls d σ H)
  | .as c i ts :: r => fun cls d σ H => ∃ b, PySem.W.exmOne K cls c = some b ∧ (b = true → ∀ a, H a = none → (σ.set i (some (.ref a)))[i]? = some (some (.ref a)) → ts a cls d (goneE i De) (σ.set i (some (.ref a))) H) ∧ (b = false → wHs K Wout De r cls d σ H)
def SuiOk (X : Cx) (su : List Stmt) (ts : Sui) : Prop := ∀ (a : Addr) (oe : Obj) (cls : Value) (d : Option Addr) (pn : List (Addr × Obj)), Zc cls d oe → (∃ vs, oe.data = .fields vs) → PSs (X.suite a ((a, oe) :: pn)) su (ts a cls d)
inductive HsOk (X : Cx) : List ExceptHandler → List Hs → Prop
  | nil : HsOk X [] []
  | only {x : Str} {c : Value} {ts : Sui} {b0 : Stmt} {su : List Stmt} {np p : Pos} {r : List ExceptHandler} {l : List Hs} (hc : Names X x c) (hsu : SuiOk X (b0 :: su) ts) (hr : HsOk X r l) : HsOk X (.ExceptHandler (some (.Name x np)) none (b0 :: su) p :: r) (.only c ts :: l)
  | as {x n : Str} {c : Value} {i : Nat} {ts : Sui} {b0 : Stmt} {su : List Stmt} {np p : Pos} {r : List ExceptHandler} {l : List Hs} (hN : X.N.Nodup) (hi : X.N[i]? = some n) (hln : X.env.kindOf n = some .local) (hc : Names X x c) (hsu : SuiOk X (b0 :: su) ts) (hr : HsOk X r l) :
      HsOk X (.ExceptHandler (some (.Name x np)) (some n) (b0 :: su) p :: r) (.as c i ts :: l)
end
end Ow

namespace Ow
open PySem L2


def outsW (mg : Str → Option Value) (W : WX) (De : Ends) (o : O) (F : List T) (σ : L2.St) (H : Hp) : Prop := match o with
  | .nx => F = [] → De.nx σ H
  | .bk => F = [] → De.bk σ H
  | .ct => F = [] → De.ct σ H
  | .rt d => (∀ t, F = [t] → t.er = d → De.rt t.val H) ∧ ∀ (n : String) (C : Addr), d = .s (.ty n) → F = [] → mg n = some (.ref C) → W (.ref C) none σ H
def trW (K : PySem.W.Frag) (mg : Str → Option Value) (W : WX) (P : List Nat) (m : SM) : TS := fun De σ H => ∃ env o e', m (erE env) = some (o, e') ∧ Rel σ env ∧ SatE K H env ∧ WfF [] env ∧
  ∀ F σ' env' H', erE env' = e' → Cf K H env σ' H' F env' → (∀ i ∈ P, σ'[i]? = σ[i]?) → outsW mg W De o F σ' H'
abbrev noW : WX := fun _ _ _ _ => False
section
variable {X : Cx} {P : List Nat} {m : SM} {st : List Stmt} {W : WX}
@[simp] def calmO : O → Option O
  | .rt d => if d.isx = true then none else some (.rt d)
  | o => some o
def sCalm (m : SM) : SM := fun env => (m env).bind fun x => (calmO x.1).map fun o => (o, x.2)
end


def fmtD : D → Option Str
  | .s (.str y) => if y.length ≤ 16777216 then some y else none
  | .s (.int i) => if i.natAbs.log2 < 1920 then some (toString i) else none
  | _ => none
inductive Fp where
  | c (x : Str)
  | v (m : PM)
def joinF : List Fp → Str → Env → Option Str
  | [], acc, _ => some acc
  | .c x :: ms, acc, env => if (acc ++ x).length ≤ 16777216 then joinF ms (acc ++ x) env else none
  | .v m :: ms, acc, env => (m env).bind fun d => (fmtD d).bind fun y => if (acc ++ y).length ≤ 16777216 then joinF ms (acc ++ y) env else none
def mFs (ms : List Fp) : PM := fun env => (joinF ms Str.empty env).map fun y => .s (.str y)
inductive SFJ (X : Cx) : List Expr → List Fp → Prop where
  | nil : SFJ X [] []
  | c {x : Str} {j : Nat} {p : Pos} {es : List Expr} {ms : List Fp} (r : SFJ X es ms) : SFJ X (.Constant (.str x) j p :: es) (.c x :: ms)
  | v {e : Expr} {p : Pos} {m : PM} {es : List Expr} {ms : List Fp} (h : SB X e m) (r : SFJ X es ms) : SFJ X (.FormattedValue e (-1) none p :: es) (.v m :: ms)
section
variable {X : Cx} {pos : Pos}
end


def sRaise (n : String) (m : PM) : SM := fun env => (m env).map fun _ => (.rt (.s (.ty n)), env)
section
variable {X : Cx} {P : List Nat} {m : PM} {e : Expr} {n : String} {C : Addr} {bmB : List Value} {B newId initId : String} {p pos pos' : Pos}
end


def spX (K : PySem.W.Frag) (mg : Str → Option Value) (n : Nat) (f : FM) : Sp := fun vs H Q E => ∃ ts d, vs = vals ts ∧ ts.length = n ∧ satL K H ts ∧ f (frzD (erL ts)) = some d ∧ (∀ t H', t.er = d → Ex H H' → t.sat K H' → OwnA H ts t → Q t.val H') ∧ ∀ (x : String) (C : Addr) H', d = .s (.ty x) → mg x = some (.ref C) → Ex H H' → E (.ref C) none H'
def runX (n : Nat) (mS : SM) : FM := fun ds => (mS (initD n ds)).bind fun x => match x.1 with
  | .rt d => some d
  | .nx => some (.s .non)
  | _ => none
section
variable {P : Program} {w : World} {K : PySem.W.Frag} {mg : Str → Option Value} {base : Heap}
end


def trEX (X : Cx) (U : List Nat) (m : EM) : TE := fun σ H Q => ∃ env d e', m (erE env) = some (d, e') ∧ Rel σ env ∧ SatE X.K H env ∧ WfF [] env ∧
  (∀ t env' H', t.er = d → erE env' = e' → Cf X.K H env σ H' [t] env' → (∀ i ∈ U, env'[i]? = env[i]?) → Q t.val H') ∧ ∀ (n : String) (C : Addr) env' H', d = .s (.ty n) → X.mg n = some (.ref C) → erE env' = e' → Cf X.K H env σ H' [] env' → XWish X (.ref C) none σ H'
def SEX (X : Cx) (U : List Nat) (e : Expr) (m : EM) : Prop := PE X e (trEX X U m)
def eFnX (f : FM) (ml : LM) : EM := fun env => (ml env).bind fun ds => (f (frzD ds)).bind fun d => if (d.noF || pureL ds) = true then some (d, env) else none
section
variable {X : Cx} {U P : List Nat} {e : Expr} {es : List Expr} {me : EM} {ml : LM} {pos p : Pos}
def mFnN (f : FM) (ml : LM) : PM := fun env => (ml env).bind fun ds => (f (frzD ds)).bind fun d => if (!d.isx && (d.noF || pureL ds)) = true then some d else none
def eTupX (m : EM) (mc : PM) : EM := fun env => (m env).bind fun x => if x.1.isx = true then some x else (mc x.2).map fun y => (.n .tup [x.1, y], x.2)

def sDropX (m : EM) : SM := fun env => (m env).map fun x => (if x.1.isx = true then .rt x.1 else .nx, x.2)
def sSetX (i : Nat) (m : EM) : SM := fun env => (m env).map fun x => if x.1.isx = true then (.rt x.1, x.2) else (.nx, x.2.set i (some x.1))
def sAsgX (g : Tg) (m : EM) : SM := fun env => (m env).bind fun x => if x.1.isx = true then some (.rt x.1, x.2) else (bD g x.1 x.2).map fun e' => (.nx, e')
end


section
variable {X : Cx}
def cj (i : Nat) (a : Addr) (t : TE) : TE := fun σ H Q => σ[i]? = some (some (.ref a)) ∧ t σ H Q
def PU (X : Cx) (i : Nat) (e : Expr) (m : String → PM) : Prop := ∀ (a : Addr) (oe : Obj) (n : String) (c : Addr) (pn : List (Addr × Obj)), X.mg n = some (.ref c) → Zc (.ref c) none oe → (∃ vs, oe.data = .fields vs) → PE (X.suite a ((a, oe) :: pn)) e (cj i a (trP X.K (m n)))
def PUA (X : Cx) (i : Nat) (es : List Expr) (m : String → LM) : Prop := ∀ (a : Addr) (oe : Obj) (n : String) (c : Addr) (pn : List (Addr × Obj)), X.mg n = some (.ref c) → Zc (.ref c) none oe → (∃ vs, oe.data = .fields vs) → PA (X.suite a ((a, oe) :: pn)) es (fun σ H Q => σ[i]? = some (some (.ref a)) ∧ trPA X.K (m n) σ H Q)
def PUT (X : Cx) (i : Nat) (e : Expr) (m : String → BM) : Prop := ∀ (a : Addr) (oe : Obj) (n : String) (c : Addr) (pn : List (Addr × Obj)), X.mg n = some (.ref c) → Zc (.ref c) none oe → (∃ vs, oe.data = .fields vs) → PT (X.suite a ((a, oe) :: pn)) e (fun σ H Q => σ[i]? = some (some (.ref a)) ∧ trT X.K (m n) σ H Q)
def PUW (X : Cx) (i : Nat) (e : Expr) (m : String → BM) : Prop := ∀ (a : Addr) (oe : Obj) (n : String) (c : Addr) (pn : List (Addr × Obj)), X.mg n = some (.ref c) → Zc (.ref c) none oe → (∃ vs, oe.data = .fields vs) → PW (X.suite a ((a, oe) :: pn)) e (fun σ H Q => σ[i]? = some (some (.ref a)) ∧ trT X.K (m n) σ H Q)
def SU (X : Cx) (i : Nat) (P : List Nat) (st : List Stmt) (m : String → SM) : Prop := ∀ (a : Addr) (oe : Obj) (n : String) (c : Addr) (pn : List (Addr × Obj)), X.mg n = some (.ref c) → Zc (.ref c) none oe → (∃ vs, oe.data = .fields vs) → PSs (X.suite a ((a, oe) :: pn)) st (fun De σ H => σ[i]? = some (some (.ref a)) ∧ trW X.K X.mg noW P (m n) De σ H)
def SN (X : Cx) (P : List Nat) (st : List Stmt) (m : SM) : Prop := ∀ (a : Addr) (oe : Obj) (n : String) (c : Addr) (pn : List (Addr × Obj)), X.mg n = some (.ref c) → Zc (.ref c) none oe → (∃ vs, oe.data = .fields vs) → PSs (X.suite a ((a, oe) :: pn)) st (trW X.K X.mg noW P m)
end
section
variable {X : Cx} {i : Nat} {P : List Nat} {e a b : Expr} {es : List Expr} {pos : Pos} {m ma mb : String → PM} {st : Stmt} {rest : List Stmt}
def mIsX (f : String → Option Bool) (n : String) : PM := fun _ => (f n).map fun b => .s (.bl b)
def PUB (X : Cx) (i : Nat) (e : Expr) (m : String → PM) : Prop := ∀ (a : Addr) (oe : Obj) (n : String) (c : Addr) (pn : List (Addr × Obj)), X.mg n = some (.ref c) → Zc (.ref c) none oe → (∃ vs, oe.data = .fields vs) → PE (X.suite a ((a, oe) :: pn)) e (cj i a (trB X.K (m n)))


end


inductive Cl where
  | only (f : String → Option Bool) (m : SM)
  | as (f : String → Option Bool) (i : Nat) (m : String → SM)
def handD : List Cl → String → SM
  | [], C, env => some (.rt (.s (.ty C)), env)
  | .only f m :: r, C, env => (f C).bind fun b => if b = true then sCalm m env else handD r C env
  | .as f i m :: r, C, env => (f C).bind fun b => if b = true then (sCalm (m C) (env.set i none)).map fun x => (x.1, x.2.set i none) else handD r C env
def sTry (mb : SM) (cs : List Cl) : SM := fun env => (mb env).bind fun x => match x.1 with
  | .rt (.s (.ty C)) => handD cs C x.2
  | o => some (o, x.2)
inductive ClsOk (X : Cx) (P : List Nat) : List ExceptHandler → List Cl → Prop
  | nil : ClsOk X P [] []
  | only {x : Str} {c : Value} {f : String → Option Bool} {m : SM} {b0 : Stmt} {su : List Stmt} {np p : Pos} {r : List ExceptHandler} {l : List Cl} (hc : Names X x c) (hk : ∀ (n : String) (C : Addr) b, f n = some b → X.mg n = some (.ref C) → PySem.W.exmOne X.K (.ref C) c = some b) (hsu : SN X P (b0 :: su) m) (hr : ClsOk X P r l) :
      ClsOk X P (.ExceptHandler (some (.Name x np)) none (b0 :: su) p :: r) (.only f m :: l)
  | as {x n : Str} {c : Value} {i : Nat} {f : String → Option Bool} {m : String → SM} {b0 : Stmt} {su : List Stmt} {np p : Pos} {r : List ExceptHandler} {l : List Cl} (hN : X.N.Nodup) (hi : X.N[i]? = some n) (hln : X.env.kindOf n = some .local) (hP : i ∉ P) (hc : Names X x c)
      (hk : ∀ (n : String) (C : Addr) b, f n = some b → X.mg n = some (.ref C) → PySem.W.exmOne X.K (.ref C) c = some b) (hsu : SU X i P (b0 :: su) m) (hr : ClsOk X P r l) : ClsOk X P (.ExceptHandler (some (.Name x np)) (some n) (b0 :: su) p :: r) (.as f i m :: l)
section
variable {X : Cx} {P : List Nat} {body : List Stmt} {mb : SM} {cs : List Cl} {h0 : ExceptHandler} {hds : List ExceptHandler} {pos : Pos}
end


def excKb (K : PySem.W.Frag) (C : Addr) : Bool := PySem.W.excIn K C [.type "ValueError", .type "Exception", .type "BaseException", .type "object"] "ValueError.__new__" && PySem.W.keepIn K (.ref C) &&
  decide (PySem.W.subIn K (.ref C) (.type "BaseException") = some true) && decide (PySem.W.typeIn K (.ref C) = some (.type "type")) &&
  decide (PySem.W.findIn K (.ref C) "__getattribute__" = some (some (.builtin "BaseException.__getattribute__"))) && decide (PySem.W.findIn K (.ref C) "__getattr__" = some none) && PySem.W.hasDictIn K C &&
  decide (PySem.W.findIn K (.ref C) "__class__" = some (some (.builtin "object.__class__"))) && decide (PySem.W.specialIn K (.builtin "object.__class__") "__get__" = some (some (.builtin "getset_descriptor.__get__"))) &&
  decide (PySem.W.takesIn K (.builtin "object.__class__") = some true) && decide (PySem.W.mroIn K C (.type "object") = some true)
structure ExcK (K : PySem.W.Frag) (C : Addr) : Prop where
  q : PySem.W.excIn K C [.type "ValueError", .type "Exception", .type "BaseException", .type "object"] "ValueError.__new__" = true
  k : PySem.W.keepIn K (.ref C) = true
  s : PySem.W.subIn K (.ref C) (.type "BaseException") = some true
  t : PySem.W.typeIn K (.ref C) = some (.type "type")
  c : ExcC K C
def tabS (R : List String) (d : String) (n : String) : Option Bool := if n ∈ R then some (n == d || d == "FloorError" || d == "ValueError") else none
def isB (n d : String) : Bool := n == d || d == "FloorError" || d == "ValueError"
def pairsB (K : PySem.W.Frag) (ad : List (String × Addr)) (d : String) (v : Value) (h : Bool) : Bool := ad.all fun p => decide (PySem.W.kitOne K (.ref p.2) v = some (isB p.1 d)) && (!h || decide (PySem.W.exmOne K (.ref p.2) v = some (isB p.1 d)))
section
variable {K : PySem.W.Frag} {mg : Str → Option Value} {ad : List (String × Addr)} {d : String} {v : Value} {hh : Bool}
end
end Ow
namespace Ow
open PySem L2
inductive PairsK (K : PySem.W.Frag) (d : String) (v : Value) (hh : Bool) : List (String × Addr) → Prop
  | nil : PairsK K d v hh []
  | cons {n : String} {a : Addr} {b : Bool} {r : List (String × Addr)} (h1 : PySem.W.kitOne K (.ref a) v = some b) (hb : isB n d = b) (h2 : hh = true → PySem.W.exmOne K (.ref a) v = some b) (hr : PairsK K d v hh r) : PairsK K d v hh ((n, a) :: r)
section
variable {K : PySem.W.Frag} {mg : Str → Option Value} {ad : List (String × Addr)} {d : String} {v : Value} {hh : Bool}
end
end Ow

namespace Ow
open PySem L2

def mChain (f f' : D → D → Option V) (ma mb mc : PM) : PM := fun env => (ma env).bind fun x => (mb env).bind fun y => (f x y).bind fun v => match v with
  | .bl true => (mc env).bind fun z => (f' y z).bind fun w => match w with
    | .bl b => some (.s (.bl b))
    | _ => none
  | .bl false => some (.s (.bl false))
  | _ => none
section
variable {X : Cx} {a b c : Expr} {ma mb mc : PM} {pos : Pos}
theorem chain_rd {K : PySem.W.Frag} {σ : L2.St} {H : Hp} {Q : VK} {r r' : R2} {f f' : D → D → Option V} (hf : Op2 K r f) (hf' : Op2 K r' f') (h : ∃ env d, mChain f f' ma mb mc (erE env) = some d ∧ Rel σ env ∧ SatE K H env ∧ ∀ v H', d = .s (.bl v) → Ex H H' → Q (.bl v) H') : tChain r r' (trB K ma) (trB K mb) (trB K mc) σ H Q := by
  obtain ⟨env, d, hm, hr, s, k⟩ := h
  unfold mChain at hm
  obtain ⟨x, hx, hm⟩ := bind_some hm
  obtain ⟨y, hy, hm⟩ := bind_some hm
  obtain ⟨v, hv, hm⟩ := bind_some hm
  refine ⟨env, x, hx, hr, s, fun t H1 e1 x1 s1 _ => ⟨env, y, hy, hr, s.ex x1, fun u H2 e2 x2 s2 _ => ?_⟩⟩
  subst e1 e2
  cases v with
  | bl b =>
    cases b with
    | true =>
      obtain ⟨z, hz, hm⟩ := bind_some hm
      obtain ⟨w, hw, hm⟩ := bind_some hm
      refine hf t u (.bl true) H2 _ (sat_ex x2 s1) s2 hv ⟨true, rfl, ?_⟩
      rw [if_pos rfl]
      refine ⟨env, z, hz, hr, s.ex (x1.trans x2), fun tz H3 e3 x3 s3 _ => ?_⟩
      subst e3
      cases w with
      | bl b => cases hm; exact hf' u tz (.bl b) H3 Q (sat_ex x3 s2) s3 hw (k _ H3 rfl ((x1.trans x2).trans x3))
      | _ => cases hm
    | false =>
      cases hm
      refine hf t u (.bl false) H2 _ (sat_ex x2 s1) s2 hv ⟨false, rfl, ?_⟩
      rw [if_neg Bool.false_ne_true]
      exact k false H2 rfl (x1.trans x2)
  | _ => cases hm
theorem chain_bl {f f' : D → D → Option V} {env : Env} {d : D} (h : mChain f f' ma mb mc env = some d) : ∃ v, d = .s (.bl v) := by
  unfold mChain at h
  obtain ⟨x, hx, hm⟩ := bind_some h
  obtain ⟨y, hy, hm⟩ := bind_some hm
  obtain ⟨v, hv, hm⟩ := bind_some hm
  cases v with
  | bl b =>
    cases b with
    | true =>
      obtain ⟨z, hz, hm⟩ := bind_some hm
      obtain ⟨w, hw, hm⟩ := bind_some hm
      cases w with
      | bl b => cases hm; exact ⟨_, rfl⟩
      | _ => cases hm
    | false => cases hm; exact ⟨_, rfl⟩
  | _ => cases hm
theorem sp_chain {op op' : CmpOp} {r r' : R2} {f f' : D → D → Option V} (ho : OpR X (compareOp op) r) (ho' : OpR X (compareOp op') r') (hf : Op2 X.K r f) (hf' : Op2 X.K r' f') (ha : SB X a ma) (hb : SB X b mb) (hc : SB X c mc) (hm : lastMarks [op, op'] [b, c] = false := by with_unfolding_all rfl) :
    SP X (.Compare a [op, op'] [b, c] pos) (mChain f f' ma mb mc) := PE.weak (pe_chain ho ho' ha hb hc hm) fun σ H Q ⟨env, d, hm, r, s, k⟩ => by
  obtain ⟨v, e⟩ := chain_bl hm
  subst e
  refine chain_rd hf hf' ⟨env, _, hm, r, s, fun v H' e x => ?_⟩
  cases e
  exact k (.s (.bl v)) H' rfl x trivial own_s
end
end Ow

namespace Ow
open PySem L2


def lcD2 (g : Tg) (mt : BM) (body : Env → Option (List D)) (e0 : Env) : List D → Option (List D)
  | [] => some []
  | d :: ds => (bD g d e0).bind fun e1 => (mt e1).bind fun b => if b = true then (body e1).bind fun r => (lcD2 g mt body e0 ds).map (r ++ ·) else lcD2 g mt body e0 ds
def bdy2 (mi1 : LM) (g1 : Tg) (mt1 : BM) (me : PM) (vs1 : List Nat) : Env → Option (List D) := fun e1 => (mi1 e1).bind fun ds1 => lcD g1 mt1 me (wipeD e1 vs1) ds1
def mLc2 (mi : LM) (g : Tg) (mt : BM) (mi1 : LM) (g1 : Tg) (mt1 : BM) (me : PM) (vs vs1 : List Nat) : PM := fun env => (mi env).bind fun ds => (lcD2 g mt (bdy2 mi1 g1 mt1 me vs1) (wipeD env vs) ds).bind fun rs => if rs.length ≤ 16777216 then some (.n (.lst .o) rs) else none
theorem lcD2_drop {g : Tg} {mt : BM} {body : Env → Option (List D)} {e0 : Env} {ds : List D} {i : Nat} {d : D} {r : List D} (hd : ds[i]? = some d) (h : lcD2 g mt body e0 (ds.drop i) = some r) :
    ∃ e1 b, bD g d e0 = some e1 ∧ mt e1 = some b ∧ ((b = true ∧ ∃ z r', body e1 = some z ∧ lcD2 g mt body e0 (ds.drop (i + 1)) = some r' ∧ r = z ++ r') ∨ (b = false ∧ lcD2 g mt body e0 (ds.drop (i + 1)) = some r)) := by
  obtain ⟨hi, e⟩ := List.getElem?_eq_some_iff.mp hd
  rw [List.drop_eq_getElem_cons hi, e, lcD2] at h
  obtain ⟨e1, h1, h⟩ := bind_some h
  obtain ⟨b, h2, h⟩ := bind_some h
  refine ⟨e1, b, h1, h2, ?_⟩
  cases b with
  | true =>
    rw [if_pos rfl] at h
    obtain ⟨z, h3, h⟩ := bind_some h
    obtain ⟨r', h4, rfl⟩ := map_some h
    exact .inl ⟨rfl, z, r', h3, h4, rfl⟩
  | false =>
    rw [if_neg Bool.false_ne_true] at h
    exact .inr ⟨rfl, h⟩
section
variable {K : PySem.W.Frag} {H H1 H' : Hp} {σ : L2.St} {env : TEnv}
theorem co_of {n : Nat} {P : Prop} (h : 0 < n → P) (hp : ¬P) : n = 0 := by
  rcases Nat.eq_zero_or_pos n with z | z
  · exact z
  · exact absurd (h z) hp
theorem OwnL.app {eS : TEnv} {acc ts : List T} (fr : ∀ a, H1 a = none → H a = none) (hs : SatE K H eS) (s1 : satL K H1 acc) (o1 : OwnL H eS acc) (o2 : OwnL H1 eS ts) : OwnL H eS (acc ++ ts) := fun a => by
  have h1 := o1 a
  have h2 := o2 a
  have c1 : 0 < coL a acc → H1 a ≠ none := fun z => coL_some acc s1 z
  have c2 : 0 < cuL a acc → H1 a ≠ none := fun z => cuL_some acc s1 z
  have c3 : 0 < cuE a eS → H a ≠ none := fun z => cuE_some hs z
  have c4 : H1 a = none → H a = none := fr a
  rw [coL_append, cuL_append]
  by_cases q1 : H a = none
  · have n3 : cuE a eS = 0 := co_of c3 fun z => z q1
    by_cases q2 : H1 a = none
    · have n1 : coL a acc = 0 := co_of c1 fun z => z q2
      have n2 : cuL a acc = 0 := co_of c2 fun z => z q2
      rw [n1, n2, Nat.zero_add, Nat.zero_add]
      exact ⟨h2.1, fun _ => q1, fun _ => .inr q1⟩
    · have n1 : coL a ts = 0 := co_of h2.2.1 q2
      have n2 : cuL a ts = 0 := co_of h2.2.2 fun z => z.elim (fun z => by omega) q2
      rw [n1, n2, Nat.add_zero, Nat.add_zero]
      exact ⟨h1.1, fun _ => q1, fun _ => .inr q1⟩
  · have n1 : coL a acc = 0 := co_of h1.2.1 q1
    have n2 : coL a ts = 0 := co_of (fun z => c4 (h2.2.1 z)) q1
    rw [n1, n2]
    refine ⟨⟨by omega, .inl rfl⟩, fun z => absurd z (by omega), fun z => ?_⟩
    by_cases q : 0 < cuL a acc
    · exact h1.2.2 q
    · rcases h2.2.2 (by omega) with z | z
      · exact .inl z
      · exact .inr (c4 z)
theorem coE_le_mem : ∀ {env : TEnv} {t : T} {a : Addr}, some t ∈ env → t.co a ≤ coE a env
  | o :: r, t, a, h => by
    rw [coE]
    rcases List.mem_cons.mp h with z | z
    · rw [← z, oT]; omega
    · have := coE_le_mem (a := a) z
      omega
theorem cuE_le_mem : ∀ {env : TEnv} {t : T} {a : Addr}, some t ∈ env → t.cu a ≤ cuE a env
  | o :: r, t, a, h => by
    rw [cuE]
    rcases List.mem_cons.mp h with z | z
    · rw [← z, oT]; omega
    · have := cuE_le_mem (a := a) z
      omega
theorem SatE.mut {a : Addr} {o : HO} (h : SatE K H env) (h1 : coE a env = 0) (h2 : cuE a env = 0) : SatE K (upd H a o) env := fun t ht => by
  have := coE_le_mem (a := a) ht
  have := cuE_le_mem (a := a) ht
  refine sat_keep t (fun b o q e => ?_) (h t ht)
  have ne : b ≠ a := fun z => by subst z; omega
  rw [upd_ne ne]; exact e
theorem satL.mut {a : Addr} {o : HO} {ts : List T} (h : satL K H ts) (h1 : coL a ts = 0) (h2 : cuL a ts = 0) : satL K (upd H a o) ts := by
  refine satL_keep ts (fun b o q e => ?_) h
  have ne : b ≠ a := fun z => by subst z; omega
  rw [upd_ne ne]; exact e
theorem fr_mut {a : Addr} {o : HO} {b : Addr} (h : upd H a o b = none) : b ≠ a ∧ H b = none := by
  by_cases e : b = a
  · subst e; rw [upd_same] at h; cases h
  · rw [upd_ne e] at h; exact ⟨e, h⟩
end
structure Lc2W (K : PySem.W.Frag) (H1 : Hp) (Dl : Addr) (eS : TEnv) (g : Tg) (mt : BM) (body : Env → Option (List D)) (e0 : Env) (ds rs : List D) (i m : Nat) (H' : Hp) : Prop where
  le : i ≤ ds.length
  ms : m = ds.length - i
  ex : Ex H1 H'
  acc : ∃ acc : List T, H' Dl = some (.lst (vals acc)) ∧ satL K H' acc ∧ OwnL H1 eS acc ∧ coL Dl acc = 0 ∧ cuL Dl acc = 0 ∧ ∃ r, lcD2 g mt body e0 (ds.drop i) = some r ∧ rs = erL acc ++ r
structure Lc2V (K : PySem.W.Frag) (H1 H5 : Hp) (Dl : Addr) (env2 : TEnv) (src1 acc : List T) (eS1 : TEnv) (g1 : Tg) (mt1 : BM) (me : PM) (e1 : Env) (ds1 r' rs : List D) (j k : Nat) (H' : Hp) : Prop where
  le : j ≤ ds1.length
  ms : k = ds1.length - j
  ex : Ex H1 H'
  fr : ∀ a, H' a = none → H5 a = none
  sE : SatE K H' env2
  sS : satL K H' src1
  sA : satL K H' acc
  acc : ∃ part : List T, H' Dl = some (.lst (vals (acc ++ part))) ∧ satL K H' part ∧ OwnL H5 eS1 part ∧ coL Dl part = 0 ∧ cuL Dl part = 0 ∧ ∃ r, lcD g1 mt1 me e1 (ds1.drop j) = some r ∧ rs = erL acc ++ (erL part ++ (r ++ r'))
section
variable {X : Cx} {elt tg iter tg1 iter1 : Expr} {ifs ifs1 : List Expr} {scope : Scope} {own : List (Str × Nat)} {pos : Pos} {mi mi1 : LM} {g g1 : Tg} {mt mt1 : BM} {me : PM}
theorem lc2_rd {K : PySem.W.Frag} {σ : L2.St} {H : Hp} {Q : VK} {vs vs1 : List Nat} (hsl : ∀ i ∈ g.sl, i ∈ vs) (hsl1 : ∀ i ∈ g1.sl, i ∈ vs1) (h : trP K (mLc2 mi g mt mi1 g1 mt1 me vs vs1) σ H Q) : tLc2 (trI K mi) (gOf K g) (trT K mt) (trI K mi1) (gOf K g1) (trT K mt1) (trP K me) vs vs1 σ H Q := by
  obtain ⟨env, d, hm, r, s, k⟩ := h
  obtain ⟨ds, hi, hm⟩ := bind_some hm
  obtain ⟨rs, hrs, hm⟩ := bind_some hm
  split at hm
  case isFalse => cases hm
  rename_i hlen
  cases hm
  refine ⟨env, ds, hi, r, s, fun J src H1 x1 ss bs w Dl hD => ?_⟩
  rw [← wipe_er] at hrs
  let eS : TEnv := wipeT env vs ++ src.map some
  have swv : SatE K H1 (wipeT env vs) := wipe_sat (s.ex x1) vs
  have satS : SatE K H1 eS := fun t ht => by
    rcases List.mem_append.mp ht with q | q
    · exact swv t q
    · obtain ⟨u, hu, e⟩ := List.mem_map.mp q
      cases e
      exact satL_iff.mp ss _ hu
  have cuS : ∀ a, cuE a eS = cuE a (wipeT env vs) + cuL a src := fun a => by show cuE a (_ ++ _) = _; rw [cuE_app, cuE_some_map]
  refine ⟨Lc2W K H1 Dl eS g mt (bdy2 mi1 g1 mt1 me vs1) (erE (wipeT env vs)) ds rs, ⟨ds.length, ?_⟩, fun i m H2 W => ?_⟩
  · exact ⟨Nat.zero_le _, rfl, Evl.Ex.new hD, [], upd_same, trivial, ownL_nil, rfl, rfl, rs, hrs, rfl⟩
  obtain ⟨le, ms, ex, acc, hacc, sacc, oacc, n1, n2, rr, hrr, ers⟩ := W
  have ss2 : satL K H2 src := satL_ex ex ss
  by_cases hi2 : i < ds.length
  · refine .inr ⟨w.go i H2 ss2 hi2, fun H' => ∃ m', m' < m ∧ Lc2W K H1 Dl eS g mt (bdy2 mi1 g1 mt1 me vs1) (erE (wipeT env vs)) ds rs (i + 1) m' H', fun H' h => h, fun x H3 hy => ?_⟩
    have hd := List.getElem?_eq_getElem hi2
    obtain ⟨t, rfl, et, x3, s3, c3, u3⟩ := w.yld i H2 x H3 ss2 hy _ hd
    obtain ⟨e1, b, hb1, hb2, hb3⟩ := lcD2_drop hd hrr
    rw [← et] at hb1
    have sw : SatE K H3 (wipeT env vs) := (swv.ex ex).ex x3
    refine g_run g t (wipe σ vs) (wipeT env vs) e1 _ (wipe_rel r vs) s3 hb1 fun σ2 env2 B => ?_
    refine ⟨wipe_same B.len (fun i hi => (B.out i hi).1) hsl, ?_⟩
    have s2 : SatE K H3 env2 := fun u hu => by
      rcases B.sat u hu with q | q
      · exact sw u q
      · exact q
    have hn2 : H2 Dl ≠ none := by rw [hacc]; exact fun z => by cases z
    have hl3 : H3 Dl = some (.lst (vals acc)) := x3 Dl _ hacc
    have v1 : coE Dl env2 = 0 := by
      have := B.co Dl
      have a1 : coE Dl (wipeT env vs) = 0 := co_of (coE_some swv) fun z => z hD
      have a2 : t.co Dl = 0 := co_of (fun z => coL_some src ss (c3 Dl z)) fun z => z hD
      omega
    have v2 : cuE Dl env2 = 0 := by
      have := B.cu Dl
      have a1 : cuE Dl (wipeT env vs) = 0 := co_of (cuE_some swv) fun z => z hD
      have a2 : t.cu Dl = 0 := co_of (u3 Dl) fun z => z.elim (fun z => cuL_some src ss z hD) hn2
      omega
    have cu2 : ∀ a, 0 < cuE a env2 → 0 < cuE a eS ∨ H2 a = none := fun a q => by
      have := B.cu a
      by_cases q2 : 0 < cuE a (wipeT env vs)
      · exact .inl (by rw [cuS]; omega)
      · rcases u3 a (by omega) with z | z
        · exact .inl (by rw [cuS]; omega)
        · exact .inr z
    refine ⟨env2, b, by rw [B.er]; exact hb2, B.rel, s2, fun H4 x4 => ?_⟩
    have hl4 : H4 Dl = some (.lst (vals acc)) := x4 Dl _ hl3
    have ex4 : Ex H1 H4 := (ex.trans x3).trans x4
    have x24 : Ex H2 H4 := x3.trans x4
    rcases hb3 with ⟨rfl, z, r', hz, hr', rfl⟩ | ⟨rfl, hr'⟩
    · dsimp only
      rw [if_pos rfl]
      obtain ⟨ds1, hds1, hz⟩ := bind_some hz
      refine ⟨env2, ds1, by rw [B.er]; exact hds1, B.rel, s2.ex x4, fun J1 src1 H5 x5 ss1 bs1 w1 => ?_⟩
      have s25 : SatE K H5 env2 := (s2.ex x4).ex x5
      have hl5 : H5 Dl = some (.lst (vals acc)) := x5 Dl _ hl4
      have hn4 : H4 Dl ≠ none := by rw [hl4]; exact fun z => by cases z
      have v3 : coL Dl src1 = 0 := co_of (bs1 Dl).1 fun z => z.elim (fun z => by omega) hn4
      have v4 : cuL Dl src1 = 0 := co_of (bs1 Dl).2 fun z => z.elim (fun z => by omega) hn4
      have x25 : Ex H2 H5 := x24.trans x5
      let eS1 : TEnv := wipeT env2 vs1 ++ src1.map some
      have satS1 : SatE K H5 eS1 := fun t ht => by
        rcases List.mem_append.mp ht with q | q
        · exact wipe_sat s25 vs1 t q
        · obtain ⟨u, hu, e⟩ := List.mem_map.mp q
          cases e
          exact satL_iff.mp ss1 _ hu
      have cuS1 : ∀ a, cuE a eS1 = cuE a (wipeT env2 vs1) + cuL a src1 := fun a => by show cuE a (_ ++ _) = _; rw [cuE_app, cuE_some_map]
      rw [← B.er, ← wipe_er] at hz
      refine ⟨Lc2V K H1 H5 Dl env2 src1 acc eS1 g1 mt1 me (erE (wipeT env2 vs1)) ds1 r' rs, ⟨ds1.length, ?_⟩, fun j kk H6 V => ?_⟩
      · exact ⟨Nat.zero_le _, rfl, ex4.trans x5, fun a z => z, s25, ss1, satL_ex x25 sacc, [], by rw [List.append_nil]; exact hl5, trivial, ownL_nil, rfl, rfl, z, hz, by rw [ers]; rfl⟩
      obtain ⟨le1, ms1, ex6, fr6, sE, sS, sA, part, hpart, spart, opart, p1, p2, r1, hr1, ers1⟩ := V
      by_cases hj2 : j < ds1.length
      · refine .inr ⟨w1.go j H6 sS hj2, fun H' => ∃ k', k' < kk ∧ Lc2V K H1 H5 Dl env2 src1 acc eS1 g1 mt1 me (erE (wipeT env2 vs1)) ds1 r' rs (j + 1) k' H', fun H' h => h, fun x H7 hy1 => ?_⟩
        have hd1 := List.getElem?_eq_getElem hj2
        obtain ⟨t1, rfl, et1, x7, s7, c7, u7⟩ := w1.yld j H6 x H7 sS hy1 _ hd1
        obtain ⟨e2, b1, hc1, hc2, hc3⟩ := lcD_drop hd1 hr1
        rw [← et1] at hc1
        refine g_run g1 t1 (wipe σ2 vs1) (wipeT env2 vs1) e2 _ (wipe_rel B.rel vs1) s7 hc1 fun σ3 env3 B1 => ?_
        refine ⟨wipe_same B1.len (fun i hi => (B1.out i hi).1) hsl1, ?_⟩
        have s73 : SatE K H7 env3 := fun u hu => by
          rcases B1.sat u hu with q | q
          · exact (wipe_sat sE vs1).ex x7 u q
          · exact q
        have hl7 : H7 Dl = some (.lst (vals (acc ++ part))) := x7 Dl _ hpart
        refine ⟨env3, b1, by rw [B1.er]; exact hc2, B1.rel, s73, fun H8 x8 => ?_⟩
        have hl8 : H8 Dl = some (.lst (vals (acc ++ part))) := x8 Dl _ hl7
        have x68 : Ex H6 H8 := x7.trans x8
        rcases hc3 with ⟨rfl, y, r2, hy2, hr2, rfl⟩ | ⟨rfl, hr2⟩
        · dsimp only
          rw [if_pos rfl]
          refine ⟨env3, y, by rw [B1.er]; exact hy2, B1.rel, s73.ex x8, fun u H9 eu x9 s9 o9 => ?_⟩
          have hl9 : H9 Dl = some (.lst (vals (acc ++ part))) := x9 Dl _ hl8
          have x69 : Ex H6 H9 := x68.trans x9
          have hn6 : H6 Dl ≠ none := by rw [hpart]; exact fun z => by cases z
          have hn8 : H8 Dl ≠ none := by rw [hl8]; exact fun z => by cases z
          have ou : Own H6 eS1 u := fun a => by
            have h := o9 a
            refine ⟨h.1, fun q => Evl.fresh_back x68 (h.2.1 q), fun q => ?_⟩
            rcases h.2.2 q with q | q
            · have c := B1.cu a
              by_cases q2 : 0 < cuE a (wipeT env2 vs1)
              · exact .inl (by rw [cuS1]; omega)
              · rcases u7 a (by omega) with z | z
                · exact .inl (by rw [cuS1]; omega)
                · exact .inr z
            · exact .inr (Evl.fresh_back x68 q)
          have u1 : u.co Dl = 0 := co_of (ou Dl).2.1 hn6
          have u2 : u.cu Dl = 0 := co_of (ou Dl).2.2 fun z => z.elim (fun z => by
            have := wipe_cu (env := env2) (a := Dl) vs1
            rw [cuS1] at z; omega) hn6
          have ol : OwnL H6 eS1 [u] := fun a => by
            rw [co1, cu1]; exact ou a
          have lacc : (acc ++ part).length < 16777216 := by
            have e1 : (acc ++ part).length = (erL acc ++ erL part).length := by rw [List.length_append, List.length_append, erL_length, erL_length]
            rw [ers1] at hlen
            simp only [List.length_append, List.length_cons] at hlen e1 ⊢
            omega
          refine ⟨vals (acc ++ part), hl9, Nat.lt_of_lt_of_le (by rw [List.length_map]; exact lacc) (sizeLine_le (Nat.le_refl _)), kk - 1, by omega, ?_⟩
          have sp9 : satL K H9 (part ++ [u]) := satL_append.mpr ⟨satL_ex x69 spart, s9, trivial⟩
          have m1 : coL Dl (part ++ [u]) = 0 := by rw [coL_append, co1, p1, u1]
          have m2 : cuL Dl (part ++ [u]) = 0 := by rw [cuL_append, cu1, p2, u2]
          refine ⟨hj2, by omega, Evl.Ex.mut (ex6.trans x69) hD, fun a z => fr6 a (Evl.fresh_back x69 (fr_mut z).2), (sE.ex x69).mut v1 v2, (satL_ex x69 sS).mut v3 v4, (satL_ex x69 sA).mut n1 n2, part ++ [u], ?_, sp9.mut m1 m2, OwnL.app fr6 satS1 spart opart ol, m1, m2, r2, hr2, ?_⟩
          · rw [upd_same]; simp [vals]
          · rw [ers1, erL_append, erL, erL, eu, List.append_assoc]; rfl
        · dsimp only
          rw [if_neg Bool.false_ne_true]
          exact ⟨kk - 1, by omega, hj2, by omega, ex6.trans x68, fun a z => fr6 a (Evl.fresh_back x68 z), sE.ex x68, satL_ex x68 sS, satL_ex x68 sA, part, hl8, satL_ex x68 spart, opart, p1, p2, r1, hr2, ers1⟩
      · have hj3 : ds1.length ≤ j := Nat.le_of_not_lt hj2
        refine .inl ⟨w1.stop j H6 sS hj3, m - 1, by omega, hi2, by omega, ex6, acc ++ part, hpart, satL_append.mpr ⟨sA, spart⟩, ?_, by rw [coL_append, n1, p1], by rw [cuL_append, n2, p2], r', hr', ?_⟩
        · refine OwnL.app (fun a z => Evl.fresh_back ex z) satS sacc oacc fun a => ?_
          have h := opart a
          refine ⟨h.1, fun q => Evl.fresh_back x25 (h.2.1 q), fun q => ?_⟩
          rcases h.2.2 q with q | q
          · have := wipe_cu (env := env2) (a := a) vs1
            rw [cuS1] at q
            by_cases q2 : 0 < cuL a src1
            · rcases (bs1 a).2 q2 with z | z
              · exact cu2 a z
              · exact .inr (Evl.fresh_back x24 z)
            · exact cu2 a (by omega)
          · exact .inr (Evl.fresh_back x25 q)
        · rw [List.drop_eq_nil_of_le hj3, lcD] at hr1
          cases hr1
          rw [ers1, erL_append, List.append_assoc]; rfl
    · dsimp only
      rw [if_neg Bool.false_ne_true]
      exact ⟨m - 1, by omega, hi2, by omega, ex4, acc, hl4, satL_ex x24 sacc, oacc, n1, n2, rr, hr', ers⟩
  · have hi3 : ds.length ≤ i := Nat.le_of_not_lt hi2
    refine .inl ⟨w.stop i H2 ss2 hi3, ?_⟩
    rw [List.drop_eq_nil_of_le hi3, lcD2] at hrr
    cases hrr
    rw [List.append_nil] at ers
    refine k (.n (.lst .o) Dl acc) H2 (by rw [T.er, ← ers]) (x1.trans ex) ⟨⟨hacc, rfl⟩, sacc⟩ fun a => ?_
    have h := oacc a
    have c4 : H1 a = none → H a = none := Evl.fresh_back x1
    rw [T.co, T.cu]
    by_cases q : Dl = a
    · subst q
      rw [n1, n2]
      refine ⟨by simp [Kd.own], fun _ => c4 hD, fun q => absurd q (by simp [Kd.own])⟩
    · rw [if_neg (fun z => q z.2), if_neg (fun z => q z.2), Nat.zero_add, Nat.zero_add]
      refine ⟨h.1, fun z => c4 (h.2.1 z), fun z => ?_⟩
      rcases h.2.2 z with z | z
      · rw [cuS] at z
        have := wipe_cu (env := env) (a := a) vs
        by_cases y : 0 < cuL a src
        · exact (bs a).2 y
        · exact .inl (by omega)
      · exact .inr (c4 z)
theorem sp_lc2 {own1 : List Nat} (hc : X.calm = true) (hN : X.N.Nodup) (hi : SI X tg iter mi) (ok : blkC X.N X.env.scope scope own = true) (hv : ∀ i ∈ own1, i ∈ own.map (·.2))
    (hg : ∀ (s : Shared) (H : Hp) (C : Addr) (cl : List (Str × Addr)) (fp : List Addr), SG (X.blk s H scope (compEnvC scope cl C X.env) fp) tg g) (ht : ∀ (s : Shared) (H : Hp) (C : Addr) (cl : List (Str × Addr)) (fp : List Addr), STs (X.blk s H scope (compEnvC scope cl C X.env) fp) ifs mt)
    (hi1 : ∀ (s : Shared) (H : Hp) (C : Addr) (cl : List (Str × Addr)) (fp : List Addr), SI (X.blk s H scope (compEnvC scope cl C X.env) fp) tg1 iter1 mi1)
    (hg1 : ∀ (s : Shared) (H : Hp) (C : Addr) (cl : List (Str × Addr)) (fp : List Addr), SG (X.blk s H scope (compEnvC scope cl C X.env) fp) tg1 g1) (ht1 : ∀ (s : Shared) (H : Hp) (C : Addr) (cl : List (Str × Addr)) (fp : List Addr), STs (X.blk s H scope (compEnvC scope cl C X.env) fp) ifs1 mt1)
    (he : ∀ (s : Shared) (H : Hp) (C : Addr) (cl : List (Str × Addr)) (fp : List Addr), SP (X.blk s H scope (compEnvC scope cl C X.env) fp) elt me) (hsl : ∀ i ∈ g.sl, i ∈ own.map (·.2)) (hsl1 : ∀ i ∈ g1.sl, i ∈ own1)
    (hs : ∀ x, foldedSetIterable iter X.env x = pure x := by intro _; rfl) (hs1 : ∀ env x, foldedSetIterable iter1 env x = pure x := by intro _ _; rfl) :
    SP X (.ListComp elt [⟨tg, iter, ifs, 0⟩, ⟨tg1, iter1, ifs1, 0⟩] scope pos) (mLc2 mi g mt mi1 g1 mt1 me (own.map (·.2)) own1) :=
  PE.weak (pe_lc2 (own := own) (g := gOf X.K g) (tt := trT X.K mt) (wi1 := trI X.K mi1) (g1 := gOf X.K g1) (tt1 := trT X.K mt1) (te := trP X.K me) hc hN hi (blkOk_by ok) hv hg ht hi1 hg1 ht1 he hs hs1) fun σ H Q h => lc2_rd hsl hsl1 h
end

@[simp] def mCT (ns : List Int) : PM := fun _ => some (.n .ktp (ns.map fun i => D.s (.int i)))
section
variable {X : Cx} {pos : Pos}
theorem sp_intK {x : Str} {i : Int} (hg : Gl X x) (hm : ∃ t, X.mg x = some (.int i t)) (hd : (x == ("__debug__" : Str)) = false := by decide) : SP X (.Name x pos) (mC (.int i)) := by
  obtain ⟨t, h⟩ := hm
  exact sp_glob hg h ⟨t, rfl⟩ rfl hd
theorem sp_tupK {x : Str} {ns : List Int} (hg : Gl X x) (hm : ∃ a, X.mg x = some (.ref a) ∧ SqT X.K (fun _ => none) a (ns.map V.int) ∧ ∃ o, X.K.lookup a = some o ∧ o.cls = .type "tuple" ∧ o.dict = none) (hd : (x == ("__debug__" : Str)) = false := by decide) : SP X (.Name x pos) (mCT ns) := by
  obtain ⟨a, h, hq, hd2⟩ := hm
  refine PE.weak (pe_glob hg h (v := .ref a) rfl hd) fun σ H Q ⟨env, d, hm, r, s, k⟩ => ?_
  cases hm
  refine k (.w true .ktp a (ns.map fun i => T.s (.int i))) H (by rw [T.er, er_ints]; rfl) (Evl.Ex.refl H) ⟨?_, satL_iff.mpr fun t ht => ?_⟩ fun b => ?_
  · refine ⟨?_, hd2⟩
    rw [vals_ints]; exact hq
  · obtain ⟨i, _, rfl⟩ := List.mem_map.mp ht
    trivial
  · have h1 : coL b (ns.map fun i => T.s (.int i)) = 0 := co_ints ns
    have h2 : cuL b (ns.map fun i => T.s (.int i)) = 0 := cu_ints ns
    rw [T.co, T.cu, h1, h2]
    simp
where
  co_ints {b : Addr} : ∀ ns : List Int, coL b (ns.map fun i => T.s (.int i)) = 0
  | [] => rfl
  | n :: ns => by rw [List.map_cons, coL, T.co, Nat.zero_add]; exact co_ints ns
  cu_ints {b : Addr} : ∀ ns : List Int, cuL b (ns.map fun i => T.s (.int i)) = 0
  | [] => rfl
  | n :: ns => by rw [List.map_cons, cuL, T.cu, Nat.zero_add]; exact cu_ints ns
end

section
variable {X : Cx} {pos : Pos}
theorem par_rd {K : PySem.W.Frag} {gs : List Tg} {ml : LM} {σ : L2.St} {H : Hp} {De : Ends} {P : List Nat} {X : Cx} (hP : ∀ i ∈ slL gs, i ∉ P) (h : trS X P (sAsg (.tp gs) (mk .tup ml)) De σ H) :
    trPA X.K ml σ H fun vs H1 => vs.length = gs.length ∧ gsOf X.K gs vs σ H1 fun σ' H' => De.nx σ' H' := by
  obtain ⟨env, o, e', hm, r, s, w, k⟩ := h
  obtain ⟨x, hx, hm⟩ := bind_some hm
  split at hm
  case isFalse => cases hm
  rename_i hp
  obtain ⟨e2, h2, e3⟩ := map_some hm
  cases e3
  obtain ⟨ds, h1, hl, rfl⟩ := mk_some hx
  obtain ⟨ds', e4, hn, h2⟩ := bD_tp h2
  cases e4
  rw [D.pure, Bool.and_eq_true] at hp
  refine ⟨env, ds, h1, r, s, fun ts H1 e1 x1 s1 o1 => ?_⟩
  subst e1
  refine ⟨by rw [List.length_map, ← erL_length, hn], gs_run gs ts σ env e' _ r s1 h2 fun σ' env' B => ?_⟩
  have zc : ∀ a, coL a ts = 0 := fun a => pureL_co ts hp.2
  have c0 : Cf X.K H env σ H1 (ts ++ []) env := (Cf.start r s w).addPure x1 s1 zc fun q hq => (o1 q).2.2 hq
  rw [List.append_nil] at c0
  have c2 : Cf X.K H env σ' H1 [] env' := c0.less B.rel trivial (fun u hu => (B.sat u hu).elim (fun z => c0.satE u z) id) (fun a => by have := B.co a; simp only [coL]; omega) (fun a => by have := B.cu a; simp only [cuL]; omega)
  exact k [] σ' env' H1 B.er c2 (fun i hi => (B.out i fun z => hP i z hi).1) rfl
theorem ss_par {P : List Nat} (i j : Nat) {x y : Str} {a b : Expr} {ml : LM} {px py pt : Pos} {kt k2 pt2} (hc : X.calm = true) (hN : X.N.Nodup) (hij : i ≠ j) (hP : i ∉ P) (hP2 : j ∉ P) (ha : SPA X [a, b] ml) (hi : X.N[i]? = some x := by rfl) (hj : X.N[j]? = some y := by rfl)
    (hx : X.env.scope.names.lookup x = some .local := by rfl) (hy : X.env.scope.names.lookup y = some .local := by rfl)
    (hw : swappedStores [.Tuple [.Name x px, .Name y py] kt pt] (.Tuple [a, b] k2 pt2) X.env = pure (some [x, y]) := by rfl)
    (hs : swapsWithSole [.Tuple [.Name x px, .Name y py] kt pt] (.Tuple [a, b] k2 pt2) pos.line X.env = pure false := by rfl) :
    SS X P (.Assign [.Tuple [.Name x px, .Name y py] kt pt] (.Tuple [a, b] k2 pt2) pos) (sAsg (.tp [.nm i, .nm j]) (mk .tup ml)) :=
  PS.weak (ps_par (pos := pos) hc hN hi hj hij hx hy ha hw hs) fun De σ H h => by
    obtain ⟨env, ds, h1, r, s, k⟩ := par_rd (K := X.K) (gs := [.nm i, .nm j]) (by simp [Tg.sl, slL]; exact ⟨hP, hP2⟩) h
    refine ⟨env, ds, h1, r, s, fun ts H1 e1 x1 s1 o1 => ?_⟩
    obtain ⟨hl, q⟩ := k ts H1 e1 x1 s1 o1
    rw [gsOf, gOf] at q
    obtain ⟨v, vs, e2, q⟩ := q
    rw [gName, gsOf, gOf] at q
    obtain ⟨w, ws, e3, q⟩ := q
    rw [gName, gsOf] at q
    exact ⟨v, w, by rw [e2, e3, q.1], q.2⟩
end
end Ow

namespace Ow
open PySem L2


abbrev IM := Env → Option (List D × Env)
def trJI (K : PySem.W.Frag) (m : IM) : TI := fun σ H R => ∃ env ds e', m (erE env) = some (ds, e') ∧ Rel σ env ∧ SatE K H env ∧ WfF [] env ∧ ∀ J src env1 H1, erE env1 = e' → Cf K H env σ H1 src env1 → Wk K J src ds → R J H1
def SIE (X : Cx) (tg e : Expr) (m : IM) : Prop := PI X tg e (trJI X.K m)
def wLE (me : EM) : IM := fun env => (me env).bind fun x => (asL x.1.frz).map fun ds => (ds, x.2)
def wRE1 (me : EM) : IM := fun env => (me env).bind fun x => (toI x.1).bind fun n => if (decide (RgOk 0 n)) = true then some (rgDn 0 n.toNat, x.2) else none
def wRE2 (m1 m2 : EM) : IM := fun env => (m1 env).bind fun x => (m2 x.2).bind fun y => (toI x.1).bind fun i => (toI y.1).bind fun j => if (decide (RgOk i j)) = true then some (rgDn i (j - i).toNat, y.2) else none
def liftI (m : LM) : IM := fun env => (m env).map fun ds => (ds, env)
section
variable {X : Cx} {a b tg e : Expr} {pos p : Pos}
end
def sForI (mi : IM) (g : Tg) (mb : SM) : SM := fun env => (mi env).bind fun x => if pureL x.1 = true then forD g mb x.1 x.2 else none

@[simp] def eAndT (m n : TM) : TM := fun env => (m env).bind fun x => if x.1 = true then n x.2 else some (false, x.2)
@[simp] def eOrT (m n : TM) : TM := fun env => (m env).bind fun x => if x.1 = true then some (true, x.2) else n x.2
@[simp] def eNotT (m : TM) : TM := fun env => (m env).map fun x => (!x.1, x.2)
def SWE (X : Cx) (e : Expr) (m : TM) : Prop := PW X e (trET X.K m)
section
variable {X : Cx} {a b e : Expr} {rest : List Expr} {pos : Pos} {m n : TM}
end


def lceD (g : Tg) (mt : BM) (me : EM) (vs : List Nat) : List D → Env → Option (List D × Env)
  | [], env => some ([], env)
  | d :: ds, env => (bD g d env).bind fun e1 => (mt e1).bind fun b => if b = true then (me e1).bind fun x => (lceD g mt me vs ds (wipeD x.2 vs)).map fun y => (x.1 :: y.1, y.2) else lceD g mt me vs ds env
def mLcE (mi : IM) (g : Tg) (mt : BM) (me : EM) (vs : List Nat) : EM := fun env => (mi env).bind fun x => if pureL x.1 = true ∧ x.1.length ≤ 16777216 then (lceD g mt me vs x.1 (wipeD x.2 vs)).map fun y => (.n (.lst .o) y.1, y.2) else none
section
variable {K : PySem.W.Frag} {H0 H H' : Hp} {env0 env : TEnv} {σ σ2 : L2.St} {F : List T} {t : T} {acc : List T} {p : Addr}
end
section
variable {X : Cx} {elt tg iter : Expr} {ifs : List Expr} {scope : Scope} {own : List (Str × Nat)} {pos : Pos} {mi : IM} {g : Tg} {mt : BM} {me : EM} {U : List Nat}
end
end Ow

namespace Ow
open PySem L2


def forRD (j : Nat) (mb : SM) : List D → List D → Env → Option (O × List D × Env)
  | done, [], env => some (.nx, done, env)
  | done, d :: ds, env => (mb (env.set j (some d))).bind fun x => match x.1 with
    | .nx => (x.2[j]?.join).bind fun d' => forRD j mb (done ++ [d']) ds (x.2.set j none)
    | .ct => (x.2[j]?.join).bind fun d' => forRD j mb (done ++ [d']) ds (x.2.set j none)
    | .bk => (x.2[j]?.join).bind fun d' => some (.nx, done ++ [d'] ++ ds, x.2.set j none)
    | .rt r => (x.2[j]?.join).bind fun d' => some (.rt r, done ++ [d'] ++ ds, x.2.set j none)
def sForR (i j : Nat) (mb : SM) : SM := fun env => (env[i]?.join).bind fun d => match d with
  | .n (.lst .o) ds => (forRD j mb [] ds (env.set i none)).map fun x => (x.1, x.2.2.set i (some (.n (.lst .o) x.2.1)))
  | _ => none
section
variable {X : Cx} {pos p : Pos} {P : List Nat} {mb : SM} {body : List Stmt}
end
end Ow

namespace Ow
open PySem L2

def eCallN (f : FMu) (as : List As) : EM := fun env => if ((muS as ++ boS as).all fun i => (env[i]?.join).isSome) = false then none else (evA as env).bind fun x => (insA as x.1 x.2).bind fun y => (f y.1).bind fun z => if ((boS as).all fun i => (x.2[i]?.join).any D.pure) = true then (putA as z.2 y.2).map fun e => (z.1, e) else none
section
variable {X : Cx} {e : Expr} {es : List Expr} {pos p : Pos} {U : List Nat} {as : List As}
end

section
variable {X : Cx} {elt tg iter : Expr} {ifs : List Expr} {scope : Scope} {own : List (Str × Nat)} {pos : Pos} {mi : LM} {g : Tg} {mt : BM} {ml : PM} {P : List Nat}
end

section
variable {X : Cx} {i : Nat} {a b e : Expr} {r : List Expr} {pos : Pos} {m k : String → BM}
end
end Ow

namespace Ow
open PySem L2
@[simp] def sPutE (i : Nat) (pm : Env → Option (List Nat)) (mb me : EM) : SM := fun env => (me env).bind fun x => (pm x.2).bind fun p => (mb x.2).bind fun y => (toI y.1).bind fun n => (y.2[i]?.join).bind fun d =>
  (modD p (fun ds => (ixN ds.length n).map fun j => ds.set j x.1) d).map fun d' => (.nx, y.2.set i (some d'))

@[simp] def strsD : List D → Option (List Str)
  | [] => some []
  | .s (.str i) :: ds => (strsD ds).map (i :: ·)
  | _ => none
def fIdxS (x y : D) : Option V := match x, y with
  | .n (.lst _) ds, .s (.str i) => (strsD ds).bind fun ns => if i ∈ ns then some (.int (ns.idxOf i : Nat)) else none
  | _, _ => none
def mIdxS (ma mb : PM) : PM := fun env => (ma env).bind fun x => (mb env).bind fun y => (fIdxS x y).bind sv
section
variable {X : Cx} {o e : Expr} {ma mb : PM} {apos cpos : Pos}
end
end Ow

namespace Ow
open PySem L2 PySem.Spec PyProof.Rows

abbrev AL := Addr × List Int
def encAL (b : AL) : PyData := .list (b.2.map PyData.int)
def leAL (p q : AL) : Bool := decide (p.2 ≤ q.2)
def rSortedLL (K : PySem.W.Frag) : List V → Hp → VK → Prop := fun vs H Q => ∃ (a : Addr) (bs : List AL), vs = [V.ref a] ∧ SqL K H a (bs.map fun b => V.ref b.1) ∧ (∀ b ∈ bs, SqL K H b.1 (b.2.map V.int)) ∧
  ∀ p, H p = none → Q (.ref p) (upd H p (.lst ((bs.mergeSort leAL).map fun b => V.ref b.1)))

def llD : List D → Option (List (List Int))
  | [] => some []
  | .n (.lst .s) is :: ds => (intsD is).bind fun r => (llD ds).map (r :: ·)
  | _ => none
def lsrtD (rs : List (List Int)) : List (List Int) := rs.mergeSort fun a b => decide (a ≤ b)
def fSortLL : List D → Option (List D)
  | [.n (.lst _) ds] => (llD ds).map fun rs => (lsrtD rs).map fun r => .n (.lst .s) (r.map fun i => .s (.int i))
  | _ => none
def adT (u : T) : Addr := match u.val with
  | .ref a => a
  | _ => 0
def inT (u : T) : List Int := match u.er with
  | .n (.lst _) is => (intsD is).getD []
  | _ => []
def ktT (u : T) : AL := (adT u, inT u)
section
variable {X : Cx} {e : Expr} {ml : LM} {p pos : Pos}
end
end Ow

namespace Ty
variable {α β γ σ ρ : Type}


def lt (a : α) (f : α → β) : β := f a
@[simp] theorem lt_eq (a : α) (f : α → β) : lt a f = f a := rfl
def ixZ (n : Nat) (i : Int) : Option Nat := if 0 ≤ i then (if i < n then some i.toNat else none) else if -(n : Int) ≤ i then some (i + n).toNat else none
@[irreducible] def idx (xs : List α) (i : Int) : Option α := (ixZ xs.length i).bind fun j => xs[j]?
@[irreducible] def putI (xs : List α) (i : Int) (v : α) : Option (List α) := (ixZ xs.length i).map fun j => xs.set j v
@[irreducible] def setI (xs : List α) (i : Int) (v : α) : List α := ((ixZ xs.length i).map fun j => xs.set j v).getD xs
@[irreducible] def pmul (i j : Int) : Option Int := if i.natAbs.log2 < 2000000 ∧ j.natAbs.log2 < 2000000 then some (i * j) else none
@[irreducible] def pdiv (i j : Int) : Option Int := if 0 < j ∧ j < 2 ^ 250 then some (i / j) else none
@[irreducible] def pmod (i j : Int) : Option Int := if 0 < j then some (i % j) else none
@[irreducible] def ppow (i j : Int) : Option Int := if 0 ≤ j ∧ j ≤ 1000 ∧ i.natAbs < 2 ^ 64 then some (i ^ j.toNat) else none
def span (a b : Int) : List Int := (List.range (b - a).toNat).map fun (i : Nat) => a + (i : Int)
@[irreducible] def rng (a b : Int) : Option (List Int) := if -(2 ^ 60) ≤ a ∧ a ≤ 2 ^ 60 ∧ -(2 ^ 60) ≤ b ∧ b ≤ 2 ^ 60 ∧ (b - a).toNat ≤ 16777216 then some (span a b) else none
@[irreducible] def cat (xs ys : List α) : Option (List α) := if xs.length + ys.length ≤ 16777216 then some (xs ++ ys) else none
@[irreducible] def rep (xs : List α) (n : Int) : Option (List α) := if n < 2 ^ 60 ∧ -(2 ^ 60) < n ∧ xs.length * n.toNat ≤ 16777216 then some (List.replicate n.toNat xs).flatten else none
@[irreducible] def app (xs : List α) (v : α) : Option (List α) := if xs.length < 16777216 then some (xs ++ [v]) else none
@[irreducible] def insI (xs : List α) (n : Int) (v : α) : Option (List α) := if xs.length < 16777216 ∧ 0 ≤ n ∧ n < 2 ^ 60 then some (xs.take n.toNat ++ [v] ++ xs.drop n.toNat) else none
@[irreducible] def popI (xs : List α) (n : Int) : Option (α × List α) := if xs.length ≤ 16777216 then (ixZ xs.length n).bind fun j => (xs[j]?).map fun z => (z, xs.eraseIdx j) else none
@[irreducible] def pmax (xs : List Int) : Option Int := xs.max?
@[irreducible] def pmin (xs : List Int) : Option Int := xs.min?
@[irreducible] def ixOf (xs : List Int) (i : Int) : Option Int := if i ∈ xs then some (xs.idxOf i : Nat) else none
def bd (n d : Nat) : Option Int → Nat
  | none => d
  | some i => if i < 0 then (if i < -(n : Int) then 0 else (i + n).toNat) else min i.toNat n
@[irreducible] def sl (xs : List α) (lo hi : Option Int) : List α := (xs.drop (bd xs.length 0 lo)).take (bd xs.length xs.length hi - bd xs.length 0 lo)
@[irreducible] def lcm (xs : List α) (f : α → β) : Option (List β) := if xs.length ≤ 16777216 then some (xs.map f) else none
def lcO (p : α → Option Bool) (f : α → Option β) : List α → Option (List β)
  | [] => some []
  | x :: xs => (p x).bind fun b => if b = true then (f x).bind fun y => (lcO p f xs).map (y :: ·) else lcO p f xs
@[irreducible] def lcp (xs : List α) (p : α → Option Bool) (f : α → Option β) : Option (List β) := if xs.length ≤ 16777216 then lcO p f xs else none
def enu : Nat → List α → List (Int × α)
  | _, [] => []
  | i, x :: xs => ((i : Int), x) :: enu (i + 1) xs
inductive Lp (σ ρ : Type) where
  | go (s : σ)
  | br (s : σ)
  | rt (r : ρ)
def forO : List α → σ → (σ → α → Option σ) → Option σ
  | [], s, _ => some s
  | x :: xs, s, f => (f s x).bind fun s' => forO xs s' f
def forR : List α → σ → (σ → α → Option (Lp σ ρ)) → Option (Lp σ ρ)
  | [], s, _ => some (.go s)
  | x :: xs, s, f => (f s x).bind fun r => match r with
    | .go s' => forR xs s' f
    | .br s' => some (.go s')
    | .rt v => some (.rt v)
def whO : Nat → σ → (σ → Option Bool) → (σ → Option σ) → Option σ
  | 0, _, _, _ => none
  | n + 1, s, c, f => (c s).bind fun b => if b = true then (f s).bind fun s' => whO n s' c f else some s
def whR : Nat → σ → (σ → Option Bool) → (σ → Option (Lp σ ρ)) → Option (Lp σ ρ)
  | 0, _, _, _ => none
  | n + 1, s, c, f => (c s).bind fun b => if b = true then (f s).bind fun r => match r with
    | .go s' => whR n s' c f
    | .br s' => some (.go s')
    | .rt v => some (.rt v) else some (.go s)
def aft (o : Option (Lp σ ρ)) (f : σ → Option γ) (g : ρ → Option γ) : Option γ := o.bind fun r => match r with
  | .go s => f s
  | .br s => f s
  | .rt v => g v
@[irreducible] def chk (b : Bool) (o : Option α) : Option α := if b = true then o else none


def Ok (o : Option α) (Q : α → Prop) : Prop := ∃ a, o = some a ∧ Q a
theorem Ok.of {o : Option α} {a : α} {Q : α → Prop} (h : o = some a) (q : Q a) : Ok o Q := ⟨a, h, q⟩
theorem Ok.ret {a : α} {Q : α → Prop} (q : Q a) : Ok (some a) Q := ⟨a, rfl, q⟩
theorem Ok.mono {o : Option α} {Q R : α → Prop} (h : Ok o Q) (f : ∀ a, Q a → R a) : Ok o R := let ⟨a, e, q⟩ := h; ⟨a, e, f a q⟩
theorem Ok.bind {o : Option α} {f : α → Option β} {Q : α → Prop} {R : β → Prop} (h : Ok o Q) (k : ∀ a, Q a → Ok (f a) R) : Ok (o.bind f) R := by
  obtain ⟨a, e, q⟩ := h
  subst e
  exact k a q
theorem Ok.bindE {o : Option α} {f : α → Option β} {a : α} {R : β → Prop} (h : o = some a) (k : Ok (f a) R) : Ok (o.bind f) R := by
  subst h
  exact k
theorem bs {α β : Type} (a : α) (f : α → Option β) : Option.bind (some a) f = f a := (Option.bind_some a f).trans (Eq.refl (f a))
theorem Ok.ite {p : Prop} [Decidable p] {a b : Option α} {Q : α → Prop} (h : p → Ok a Q) (k : ¬p → Ok b Q) : Ok (if p then a else b) Q := by
  split
  · exact h ‹_›
  · exact k ‹_›
theorem Ok.neg {p : Prop} [Decidable p] {a b : Option α} {Q : α → Prop} (h : ¬p) (k : Ok b Q) : Ok (if p then a else b) Q := by rw [if_neg h]; exact k
theorem Ok.eqs {o : Option α} {a : α} (h : Ok o (· = a)) : o = some a := by
  obtain ⟨b, e, rfl⟩ := h
  exact e


theorem ixZ_ok {n : Nat} {i : Int} (h0 : 0 ≤ i) (h1 : i < n) : ixZ n i = some i.toNat := by
  unfold ixZ
  rw [if_pos h0, if_pos h1]
theorem ixZ_neg {n : Nat} {i : Int} (h0 : i < 0) (h1 : -(n : Int) ≤ i) : ixZ n i = some (i + n).toNat := by
  unfold ixZ
  rw [if_neg (by omega), if_pos h1]
theorem idx_at {xs : List α} {i : Int} {x : α} (h0 : 0 ≤ i) (h1 : xs[i.toNat]? = some x) : idx xs i = some x := by
  obtain ⟨h2, h3⟩ := List.getElem?_eq_some_iff.mp h1
  unfold idx
  rw [ixZ_ok h0 (by omega)]
  exact h1
theorem idx_ok {xs : List α} {i : Int} (h0 : 0 ≤ i) (h1 : i < xs.length) : idx xs i = some (xs[i.toNat]'(by omega)) := idx_at h0 (List.getElem?_eq_getElem (by omega))
theorem idx_nat {xs : List α} {i : Nat} (h : i < xs.length) : idx xs (i : Int) = some xs[i] := idx_at (by omega) (by rw [show ((i : Int)).toNat = i by omega]; exact List.getElem?_eq_getElem h)
theorem idx_neg {xs : List α} {i : Int} (h0 : i < 0) (h1 : -(xs.length : Int) ≤ i) : idx xs i = some (xs[(i + xs.length).toNat]'(by omega)) := by
  unfold idx
  rw [ixZ_neg h0 h1]
  exact List.getElem?_eq_getElem (by omega)
theorem idx_last {xs : List α} (h : xs ≠ []) : idx xs (-1) = some (xs.getLast h) := by
  have hl : 0 < xs.length := List.length_pos_iff.mpr h
  rw [idx_neg (by omega) (by omega), List.getLast_eq_getElem]
  congr 2
  omega
theorem putI_ok {xs : List α} {i : Int} {v : α} (h0 : 0 ≤ i) (h1 : i < xs.length) : putI xs i v = some (xs.set i.toNat v) := by
  unfold putI
  rw [ixZ_ok h0 h1]; rfl
theorem setI_ok {xs : List α} {i : Int} {v : α} (h0 : 0 ≤ i) (h1 : i < xs.length) : setI xs i v = xs.set i.toNat v := by
  unfold setI
  rw [ixZ_ok h0 h1]; rfl
theorem pmul_ok {i j : Int} (h1 : i.natAbs < 2 ^ 250) (h2 : j.natAbs < 2 ^ 250) : pmul i j = some (i * j) := by
  unfold pmul
  have lg : ∀ n : Nat, n < 2 ^ 250 → n.log2 < 2000000 := fun n hn => by
    by_cases z : n = 0
    · subst z; decide
    · exact Nat.lt_trans ((Nat.log2_lt z).mpr hn) (by decide)
  exact if_pos ⟨lg _ h1, lg _ h2⟩
theorem pdiv_ok {i j : Int} (h1 : 0 < j) (h2 : j < 2 ^ 250) : pdiv i j = some (i / j) := by
  unfold pdiv
  exact if_pos ⟨h1, h2⟩
theorem pmod_ok {i j : Int} (h1 : 0 < j) : pmod i j = some (i % j) := by
  unfold pmod
  exact if_pos h1
theorem ppow_ok {i j : Int} (h : 0 ≤ j) (h1 : j ≤ 1000) (h2 : i.natAbs < 2 ^ 64) : ppow i j = some (i ^ j.toNat) := by
  unfold ppow
  exact if_pos ⟨h, h1, h2⟩
theorem rng_ok {a b : Int} (h0 : -16777216 ≤ a) (h1 : a ≤ 16777216) (h2 : -16777216 ≤ b) (h : b ≤ 16777216) (hl : b - a ≤ 16777216 := by omega) : rng a b = some (span a b) := by
  unfold rng
  exact if_pos ⟨by omega, by omega, by omega, by omega, by omega⟩
theorem cat_ok {xs ys : List α} (h : xs.length + ys.length ≤ 16777216) : cat xs ys = some (xs ++ ys) := by
  unfold cat
  exact if_pos h
theorem rep_ok {xs : List α} {n : Int} (h : n ≤ 16777216) (h0 : -16777216 ≤ n) (h2 : xs.length * n.toNat ≤ 16777216) : rep xs n = some (List.replicate n.toNat xs).flatten := by
  unfold rep
  exact if_pos ⟨by omega, by omega, h2⟩
theorem flat_one : ∀ (n : Nat) (x : α), (List.replicate n [x]).flatten = List.replicate n x
  | 0, _ => rfl
  | n + 1, x => by rw [List.replicate_succ, List.flatten_cons, flat_one n x, List.replicate_succ]; rfl
theorem rep_one {x : α} {n : Int} (h : n ≤ 16777216) (h0 : -16777216 ≤ n) : rep [x] n = some (List.replicate n.toNat x) := by
  rw [rep_ok h h0 (by simp; omega), flat_one]
theorem app_ok {xs : List α} {v : α} (h : xs.length < 16777216) : app xs v = some (xs ++ [v]) := by
  unfold app
  exact if_pos h
theorem ixOf_ok {xs : List Int} {i : Int} (h : i ∈ xs) : ixOf xs i = some ((xs.idxOf i : Nat) : Int) := by
  unfold ixOf
  exact if_pos h
theorem bd_pos {n d : Nat} {i : Int} (h : 0 ≤ i) : bd n d (some i) = min i.toNat n := by
  unfold bd
  exact if_neg (by omega)
theorem sl_hi {xs : List α} {i : Int} (h0 : 0 ≤ i) : sl xs (some i) none = xs.drop i.toNat := by
  unfold sl
  rw [bd_pos h0, show bd xs.length xs.length none = xs.length from rfl]
  by_cases h : i.toNat ≤ xs.length
  · rw [Nat.min_eq_left h, List.take_of_length_le (by rw [List.length_drop]; omega)]
  · rw [Nat.min_eq_right (by omega), List.drop_eq_nil_of_le (as := xs) (i := i.toNat) (by omega), List.drop_length]; simp
theorem sl_lo {xs : List α} {i : Int} (h0 : 0 ≤ i) : sl xs none (some i) = xs.take i.toNat := by
  unfold sl
  rw [bd_pos h0, show bd xs.length 0 none = 0 from rfl, List.drop_zero, Nat.sub_zero]
  by_cases h : i.toNat ≤ xs.length
  · rw [Nat.min_eq_left h]
  · rw [Nat.min_eq_right (by omega), List.take_length, List.take_of_length_le (by omega)]
theorem lcm_ok {xs : List α} {f : α → β} (h : xs.length ≤ 16777216) : lcm xs f = some (xs.map f) := by
  unfold lcm
  exact if_pos h
theorem lcO_map {p : α → Option Bool} {f : α → Option β} {pb : α → Bool} {g : α → β} : ∀ {xs : List α}, (∀ x ∈ xs, p x = some (pb x)) → (∀ x ∈ xs, pb x = true → f x = some (g x)) → lcO p f xs = some ((xs.filter pb).map g)
  | [], _, _ => rfl
  | x :: xs, hp, hf => by
    have ih := lcO_map (xs := xs) (fun y hy => hp y (List.mem_cons_of_mem _ hy)) (fun y hy => hf y (List.mem_cons_of_mem _ hy))
    rw [lcO, hp x (List.mem_cons_self ..), Option.bind_some]
    cases hb : pb x with
    | true => rw [if_pos rfl, hf x (List.mem_cons_self ..) hb, Option.bind_some, ih, List.filter_cons_of_pos hb]; rfl
    | false => rw [if_neg (by decide), ih, List.filter_cons_of_neg (by rw [hb]; decide)]
theorem lcp_ok {xs : List α} {p : α → Option Bool} {f : α → Option β} (pb : α → Bool) (g : α → β) (h : xs.length ≤ 16777216) (hp : ∀ x ∈ xs, p x = some (pb x)) (hf : ∀ x ∈ xs, pb x = true → f x = some (g x)) : lcp xs p f = some ((xs.filter pb).map g) := by
  unfold lcp
  rw [if_pos h, lcO_map hp hf]
theorem lcp_all {xs : List α} {p : α → Option Bool} {f : α → Option β} (g : α → β) (h : xs.length ≤ 16777216) (hp : ∀ x ∈ xs, p x = some true) (hf : ∀ x ∈ xs, f x = some (g x)) : lcp xs p f = some (xs.map g) := by
  rw [lcp_ok (fun _ => true) g h hp (fun x hx _ => hf x hx), List.filter_eq_self.mpr (fun _ _ => rfl)]
@[simp] theorem span_length (a b : Int) : (span a b).length = (b - a).toNat := by unfold span; simp
theorem span_get {a b : Int} {k : Nat} (h : k < (b - a).toNat) : (span a b)[k]? = some (a + (k : Int)) := by
  unfold span
  rw [List.getElem?_map, List.getElem?_range h]; rfl
theorem mem_span {a b x : Int} : x ∈ span a b ↔ a ≤ x ∧ x < b := by
  unfold span
  rw [List.mem_map]
  constructor
  · rintro ⟨i, hi, rfl⟩
    rw [List.mem_range] at hi
    omega
  · rintro ⟨h1, h2⟩
    exact ⟨(x - a).toNat, List.mem_range.mpr (by omega), by omega⟩
theorem span_nil {a b : Int} (h : b ≤ a) : span a b = [] := by
  unfold span
  rw [show (b - a).toNat = 0 by omega]; rfl
theorem span_cons {a b : Int} (h : a < b) : span a b = a :: span (a + 1) b := by
  apply List.ext_getElem?
  intro k
  by_cases hk : k < (b - a).toNat
  · rw [span_get hk]
    cases k with
    | zero => simp
    | succ k =>
      rw [List.getElem?_cons_succ, span_get (by omega)]
      congr 1
      omega
  · rw [List.getElem?_eq_none (by rw [span_length]; omega), List.getElem?_eq_none (by rw [List.length_cons, span_length]; omega)]
@[simp] theorem enu_length : ∀ (i : Nat) (xs : List α), (enu i xs).length = xs.length
  | _, [] => rfl
  | i, x :: xs => by rw [enu, List.length_cons, enu_length, List.length_cons]
theorem enu_get : ∀ (i : Nat) (xs : List α) (k : Nat), (enu i xs)[k]? = (xs[k]?).map fun x => (((i + k : Nat) : Int), x)
  | _, [], k => by simp [enu]
  | i, x :: xs, 0 => by simp [enu]
  | i, x :: xs, k + 1 => by
    rw [enu, List.getElem?_cons_succ, enu_get (i + 1) xs k, List.getElem?_cons_succ, show i + 1 + k = i + (k + 1) by omega]


theorem forO_go {f : σ → α → Option σ} (I : List α → σ → Prop) (xs : List α) : ∀ (post pre : List α) (s : σ), xs = pre ++ post → I pre s → (∀ pre x post s, xs = pre ++ x :: post → I pre s → Ok (f s x) (I (pre ++ [x]))) → Ok (forO post s f) (I xs)
  | [], pre, s, e, h, _ => ⟨s, rfl, by rw [e, List.append_nil]; exact h⟩
  | x :: post, pre, s, e, h, k => by
    rw [forO]
    exact (k pre x post s e h).bind fun s' h' => forO_go I xs post (pre ++ [x]) s' (by rw [e]; simp) h' k
theorem forO_ok {f : σ → α → Option σ} {xs : List α} {s : σ} (I : List α → σ → Prop) (h : I [] s) (k : ∀ pre x post s, xs = pre ++ x :: post → I pre s → Ok (f s x) (I (pre ++ [x]))) : Ok (forO xs s f) (I xs) := forO_go I xs xs [] s rfl h k
theorem forO_at {f : σ → α → Option σ} {xs : List α} {s : σ} (I : Nat → σ → Prop) (h : I 0 s) (k : ∀ i s (hi : i < xs.length), I i s → Ok (f s xs[i]) (I (i + 1))) : Ok (forO xs s f) (I xs.length) := by
  refine forO_ok (fun pre s => I pre.length s) h fun pre x post s e hI => ?_
  have hi : pre.length < xs.length := by rw [e]; simp
  have hx : xs[pre.length] = x := by simp [e]
  have := k pre.length s hi hI
  rw [hx] at this
  exact this.mono fun a q => by rw [List.length_append]; exact q
theorem forO_span {f : σ → Int → Option σ} {a b : Int} {s : σ} (I : Int → σ → Prop) (hab : a ≤ b) (h : I a s) (k : ∀ i s, a ≤ i → i < b → I i s → Ok (f s i) (I (i + 1))) : Ok (forO (span a b) s f) (I b) := by
  have := forO_at (f := f) (xs := span a b) (s := s) (fun n s => I (a + n) s) (by simpa using h) (fun i s hi hI => by
    have hi' : i < (b - a).toNat := by simpa using hi
    have e : (span a b)[i] = a + (i : Int) := by
      have := span_get hi'
      rw [List.getElem?_eq_getElem hi] at this
      exact Option.some.inj this
    rw [e]
    have := k (a + i) s (by omega) (by omega) hI
    exact this.mono fun _ q => by rw [show a + ((i + 1 : Nat) : Int) = a + i + 1 by omega]; exact q)
  rw [span_length] at this
  exact this.mono fun _ q => by rw [show a + (((b - a).toNat : Nat) : Int) = b by omega] at q; exact q
theorem forR_go {f : σ → α → Option (Lp σ ρ)} (I : List α → σ → Prop) (B : σ → Prop) (R : ρ → Prop) (xs : List α) : ∀ (post pre : List α) (s : σ), xs = pre ++ post → I pre s →
    (∀ pre x post s, xs = pre ++ x :: post → I pre s → Ok (f s x) fun r => match r with | .go s' => I (pre ++ [x]) s' | .br s' => B s' | .rt v => R v) → Ok (forR post s f) fun r => match r with | .go s' => I xs s' ∨ B s' | .br s' => False | .rt v => R v
  | [], pre, s, e, h, _ => ⟨_, rfl, .inl (by rw [e, List.append_nil]; exact h)⟩
  | x :: post, pre, s, e, h, k => by
    rw [forR]
    refine (k pre x post s e h).bind fun r hr => ?_
    cases r with
    | go s' => exact forR_go I B R xs post (pre ++ [x]) s' (by rw [e]; simp) hr k
    | br s' => exact ⟨_, rfl, .inr hr⟩
    | rt v => exact ⟨_, rfl, hr⟩
theorem forR_ok {f : σ → α → Option (Lp σ ρ)} {xs : List α} {s : σ} (I : List α → σ → Prop) (B : σ → Prop) (R : ρ → Prop) (h : I [] s)
    (k : ∀ pre x post s, xs = pre ++ x :: post → I pre s → Ok (f s x) fun r => match r with | .go s' => I (pre ++ [x]) s' | .br s' => B s' | .rt v => R v) : Ok (forR xs s f) fun r => match r with | .go s' => I xs s' ∨ B s' | .br s' => False | .rt v => R v := forR_go I B R xs xs [] s rfl h k
theorem aft_for {f : σ → α → Option (Lp σ ρ)} {xs : List α} {s : σ} {p : σ → Option γ} {q : ρ → Option γ} {Q : γ → Prop} (I : List α → σ → Prop) (R : ρ → Prop) (h : I [] s)
    (k : ∀ pre x post s, xs = pre ++ x :: post → I pre s → Ok (f s x) fun r => match r with | .go s' => I (pre ++ [x]) s' | .br s' => False | .rt v => R v) (h1 : ∀ s, I xs s → Ok (p s) Q) (h2 : ∀ v, R v → Ok (q v) Q) : Ok (aft (forR xs s f) p q) Q := by
  unfold aft
  refine (forR_ok I (fun _ => False) R h k).bind fun r hr => ?_
  cases r with
  | go s' => exact h1 s' (hr.elim id False.elim)
  | br s' => exact hr.elim
  | rt v => exact h2 v hr
theorem whO_ok {c : σ → Option Bool} {f : σ → Option σ} (I : σ → Prop) (μ : σ → Nat) (J : σ → Prop) (k : ∀ s, I s → (c s = some true ∧ Ok (f s) fun s' => I s' ∧ μ s' < μ s) ∨ (c s = some false ∧ J s)) : ∀ (n : Nat) (s : σ), I s → μ s < n → Ok (whO n s c f) J
  | 0, s, _, h => absurd h (Nat.not_lt_zero _)
  | n + 1, s, hI, hn => by
    rw [whO]
    rcases k s hI with ⟨h1, h2⟩ | ⟨h1, h2⟩
    · rw [h1, Option.bind_some, if_pos rfl]
      exact h2.bind fun s' h' => whO_ok I μ J k n s' h'.1 (by omega)
    · rw [h1, Option.bind_some, if_neg (by decide)]
      exact ⟨s, rfl, h2⟩

section
variable {κ ν : Type} [DecidableEq κ]
def dhas (m : List (κ × ν)) (k : κ) : Bool := m.any fun e => decide (e.1 = k)
def dget (m : List (κ × ν)) (k : κ) : Option ν := (m.find? fun e => decide (e.1 = k)).map fun e => e.2
def dput (m : List (κ × ν)) (k : κ) (v : ν) : List (κ × ν) := if dhas m k = true then m.map fun e => if e.1 = k then (e.1, v) else e else m ++ [(k, v)]
def ddel (m : List (κ × ν)) (k : κ) : List (κ × ν) := m.filter fun e => decide (e.1 ≠ k)
@[irreducible] def dputO (m : List (κ × ν)) (k : κ) (v : ν) : Option (List (κ × ν)) := if m.length < 16777216 then some (dput m k v) else none
@[irreducible] def ddelO (m : List (κ × ν)) (k : κ) : Option (List (κ × ν)) := if dhas m k = true then some (ddel m k) else none
theorem dhas_get (m : List (κ × ν)) (k : κ) : dhas m k = (dget m k).isSome := by
  unfold dhas dget
  rw [Option.isSome_map]
  induction m with
  | nil => rfl
  | cons e r ih =>
    rw [List.any_cons, List.find?_cons]
    cases h : decide (e.1 = k) with
    | true => rfl
    | false => rw [Bool.false_or, ih]
theorem dhas_iff {m : List (κ × ν)} {k : κ} : dhas m k = true ↔ k ∈ m.map (·.1) := by
  unfold dhas
  rw [List.any_eq_true, List.mem_map]
  constructor
  · rintro ⟨e, h1, h2⟩
    exact ⟨e, h1, of_decide_eq_true h2⟩
  · rintro ⟨e, h1, h2⟩
    exact ⟨e, h1, decide_eq_true h2⟩
theorem dget_map {κ' ν' : Type} [DecidableEq κ'] {f : κ → κ'} {g : ν → ν'} (hf : ∀ a b, f a = f b → a = b) (m : List (κ × ν)) (k : κ) : dget (m.map fun e => (f e.1, g e.2)) (f k) = (dget m k).map g := by
  unfold dget
  induction m with
  | nil => rfl
  | cons e r ih =>
    rw [List.map_cons, List.find?_cons, List.find?_cons]
    by_cases h : e.1 = k
    · rw [decide_eq_true h, decide_eq_true (by rw [h])]; rfl
    · rw [decide_eq_false h, decide_eq_false (fun z => h (hf _ _ z))]; exact ih
@[simp] theorem dhas_nil {k : κ} : dhas ([] : List (κ × ν)) k = false := rfl
@[simp] theorem dget_nil {k : κ} : dget ([] : List (κ × ν)) k = none := rfl
theorem dput_keys {m : List (κ × ν)} {k : κ} {v : ν} : (dput m k v).map (·.1) = if k ∈ m.map (·.1) then m.map (·.1) else m.map (·.1) ++ [k] := by
  unfold dput
  by_cases h : dhas m k = true
  · rw [if_pos h, if_pos (dhas_iff.mp h), List.map_map]
    apply List.map_congr_left
    intro e _
    show (if e.1 = k then (e.1, v) else e).1 = e.1
    split <;> rfl
  · rw [if_neg h, if_neg (fun z => h (dhas_iff.mpr z)), List.map_append]; rfl
theorem ddelO_ok {m : List (κ × ν)} {k : κ} (h : dhas m k = true) : ddelO m k = some (ddel m k) := by
  unfold ddelO
  exact if_pos h
theorem dget_del {m : List (κ × ν)} {k j : κ} : dget (ddel m k) j = if j = k then none else dget m j := by
  unfold dget ddel
  induction m with
  | nil => simp
  | cons e r ih =>
    rw [List.filter_cons, List.find?_cons]
    by_cases h1 : e.1 = k
    · rw [if_neg (by simp [h1]), ih]
      by_cases h2 : j = k
      · simp [h2]
      · simp [h2, h1, show ¬ k = j from fun z => h2 z.symm]
    · rw [if_pos (by simp [h1]), List.find?_cons]
      by_cases h2 : e.1 = j
      · have h3 : ¬ j = k := fun z => h1 (h2.trans z)
        simp [h2, h3]
      · simp only [h2, decide_false]
        exact ih
theorem dhas_del {m : List (κ × ν)} {k j : κ} : dhas (ddel m k) j = (decide (j ≠ k) && dhas m j) := by
  rw [dhas_get, dget_del, dhas_get]
  by_cases h : j = k <;> simp [h]
def dcO (p : α → Option Bool) (f : α → Option (κ × ν)) : List α → List (κ × ν) → Option (List (κ × ν))
  | [], m => some m
  | x :: xs, m => (p x).bind fun b => if b = true then (f x).bind fun e => dcO p f xs (dput m e.1 e.2) else dcO p f xs m
@[irreducible] def dcp (xs : List α) (p : α → Option Bool) (f : α → Option (κ × ν)) : Option (List (κ × ν)) := if xs.length ≤ 16777216 then dcO p f xs [] else none
end

def forW : List α → σ → (σ → α → Option (σ × α)) → Option (σ × List α)
  | [], s, _ => some (s, [])
  | x :: xs, s, f => (f s x).bind fun r => (forW xs r.1 f).bind fun q => some (q.1, r.2 :: q.2)

section
variable {α β : Type}
def bdS (n : Nat) (st d : Int) : Option Int → Int
  | none => d
  | some i => if 0 < st then max 0 (min (if i < 0 then i + n else i) n) else max (-1) (min (if i < 0 then i + n else i) ((n : Int) - 1))
def stepsOf (n : Nat) (lo hi : Option Int) (st : Int) : List Nat :=
  (List.range (if 0 < st then (if bdS n st 0 lo < bdS n st n hi then (bdS n st n hi - bdS n st 0 lo + st - 1) / st else 0) else (if bdS n st (-1) hi < bdS n st ((n : Int) - 1) lo then (bdS n st ((n : Int) - 1) lo - bdS n st (-1) hi - st - 1) / (-st) else 0)).toNat).map
    fun (k : Nat) => ((if 0 < st then bdS n st 0 lo else bdS n st ((n : Int) - 1) lo) + st * (k : Int)).toNat
@[irreducible] def slS (xs : List α) (lo hi : Option Int) (st : Int) : Option (List α) := if st = 0 then none else some ((stepsOf xs.length lo hi st).filterMap fun i => xs[i]?)
@[irreducible] def extO (xs ys : List α) : Option (List α) := if xs.length + ys.length < 16777216 then some (xs ++ ys) else none
theorem extO_ok {xs ys : List α} (h : xs.length + ys.length < 16777216) : extO xs ys = some (xs ++ ys) := by
  unfold extO
  exact if_pos h
@[irreducible] def popL (xs : List α) : Option (α × List α) := (xs[xs.length - 1]?).map fun z => (z, xs.dropLast)
def un2 : List α → Option (α × α)
  | [a, b] => some (a, b)
  | _ => none
def un3 : List α → Option (α × α × α)
  | [a, b, c] => some (a, b, c)
  | _ => none
def un4 : List α → Option (α × α × α × α)
  | [a, b, c, d] => some (a, b, c, d)
  | _ => none
def un5 : List α → Option (α × α × α × α × α)
  | [a, b, c, d, e] => some (a, b, c, d, e)
  | _ => none
def un6 : List α → Option (α × α × α × α × α × α)
  | [a, b, c, d, e, f] => some (a, b, c, d, e, f)
  | _ => none
end

def srt (ns : List Int) : List Int := ns.mergeSort fun a b => decide (a ≤ b)
theorem srt_perm (ns : List Int) : (srt ns).Perm ns := List.mergeSort_perm ..
theorem srt_rise (ns : List Int) : (srt ns).Pairwise (· ≤ ·) := by
  have := List.pairwise_mergeSort (le := fun a b : Int => decide (a ≤ b)) (fun a b c h1 h2 => by simp at *; omega) (fun a b => by simp; omega) ns
  exact this.imp (fun h => by simpa using h)
theorem srt_eq {ns ms : List Int} (h : ms.Perm ns) (h2 : ms.Pairwise (· ≤ ·)) : ms = srt ns := List.Perm.eq_of_pairwise (le := (· ≤ ·)) (fun a b _ _ h1 h2 => by omega) h2 (srt_rise ns) (h.trans (srt_perm ns).symm)
@[irreducible] def bitX (i j : Int) : Int := if j = 1 then i + 1 - 2 * (i % 2) else 0
end Ty

namespace Ow
open PySem L2 Ty


section
variable {α β γ δ : Type}
def cI (x : Int) : D := .s (.int x)
def cB (x : Bool) : D := .s (.bl x)
def cU (_ : Unit) : D := .s .non
def cL (o : Fl) (c : α → D) (xs : List α) : D := .n (.lst o) (xs.map c)
def k1 (c : α → D) (x : α) : List D := [c x]
def k2 (c : α → D) (k : β → List D) (x : α × β) : List D := c x.1 :: k x.2
def cT (k : α → List D) (x : α) : D := .n .tup (k x)
def cR (o : Fl) (k : α → List D) (x : α) : D := .n (.lst o) (k x)
def cO (c : α → D) : Option α → D
  | none => .s .non
  | some x => c x
class Pu (c : α → D) : Prop where
  pu : ∀ x, (c x).pure = true
class PuK (k : α → List D) : Prop where
  pu : ∀ x, pureL (k x) = true
class NoF (c : α → D) : Prop where
  no : ∀ x, (c x).noF = true
class NoFK (k : α → List D) : Prop where
  no : ∀ x, noFL (k x) = true
class Fz (c : α → D) (c' : outParam (α → D)) : Prop where
  fz : ∀ x, (c x).frz = c' x
class FzK (k : α → List D) (k' : outParam (α → List D)) : Prop where
  fz : ∀ x, frzD (k x) = k' x
instance : Pu cI := ⟨fun _ => rfl⟩
instance : Pu cB := ⟨fun _ => rfl⟩
instance : Pu cU := ⟨fun _ => rfl⟩
theorem pureL_cod {c : α → D} [Pu c] : ∀ xs : List α, pureL (xs.map c) = true
  | [] => rfl
  | x :: xs => by rw [List.map_cons, pureL, Pu.pu, pureL_cod xs]; rfl
instance {c : α → D} [Pu c] : Pu (cL .s c) := ⟨fun xs => by rw [cL, D.pure, pureL_cod]; rfl⟩
instance {c : α → D} [Pu c] : Pu (cL .w c) := ⟨fun xs => by rw [cL, D.pure, pureL_cod]; rfl⟩
instance {c : α → D} [Pu c] : PuK (k1 c) := ⟨fun x => by rw [k1, pureL, Pu.pu]; rfl⟩
instance {c : α → D} {k : β → List D} [Pu c] [PuK k] : PuK (k2 c k) := ⟨fun x => by rw [k2, pureL, Pu.pu, PuK.pu]; rfl⟩
instance {k : α → List D} [PuK k] : Pu (cT k) := ⟨fun x => by rw [cT, D.pure, PuK.pu]; rfl⟩
instance {k : α → List D} [PuK k] : Pu (cR .s k) := ⟨fun x => by rw [cR, D.pure, PuK.pu]; rfl⟩
instance {c : α → D} [Pu c] : Pu (cO c) := ⟨fun x => by cases x <;> first | rfl | exact Pu.pu (c := c) _⟩
instance : NoF cI := ⟨fun _ => rfl⟩
instance : NoF cB := ⟨fun _ => rfl⟩
instance : NoF cU := ⟨fun _ => rfl⟩
theorem noFL_cod {c : α → D} [NoF c] : ∀ xs : List α, noFL (xs.map c) = true
  | [] => rfl
  | x :: xs => by rw [List.map_cons, noFL, NoF.no, noFL_cod xs]; rfl
instance {c : α → D} [NoF c] : NoF (cL .o c) := ⟨fun xs => by rw [cL, D.noF, noFL_cod]; rfl⟩
instance {c : α → D} [NoF c] : NoFK (k1 c) := ⟨fun x => by rw [k1, noFL, NoF.no]; rfl⟩
instance {c : α → D} {k : β → List D} [NoF c] [NoFK k] : NoFK (k2 c k) := ⟨fun x => by rw [k2, noFL, NoF.no, NoFK.no]; rfl⟩
instance {k : α → List D} [NoFK k] : NoF (cT k) := ⟨fun x => by rw [cT, D.noF, NoFK.no]; rfl⟩
instance {k : α → List D} [NoFK k] : NoF (cR .o k) := ⟨fun x => by rw [cR, D.noF, NoFK.no]; rfl⟩
instance {c : α → D} [NoF c] : NoF (cO c) := ⟨fun x => by cases x <;> first | rfl | exact NoF.no (c := c) _⟩
instance : Fz cI cI := ⟨fun _ => rfl⟩
instance : Fz cB cB := ⟨fun _ => rfl⟩
instance : Fz cU cU := ⟨fun _ => rfl⟩
theorem frzL_cod {c c' : α → D} [Fz c c'] : ∀ xs : List α, frzD (xs.map c) = xs.map c'
  | [] => rfl
  | x :: xs => by rw [List.map_cons, frzD, Fz.fz, frzL_cod xs]; rfl
instance {c c' : α → D} [Fz c c'] : Fz (cL .o c) (cL .s c') := ⟨fun xs => by rw [cL, D.frz, frzL_cod]; rfl⟩
instance {c c' : α → D} [Fz c c'] : Fz (cL .s c) (cL .s c') := ⟨fun xs => by rw [cL, D.frz, frzL_cod]; rfl⟩
instance {c c' : α → D} [Fz c c'] : Fz (cL .w c) (cL .w c') := ⟨fun xs => by rw [cL, D.frz, frzL_cod]; rfl⟩
instance {c c' : α → D} [Fz c c'] : FzK (k1 c) (k1 c') := ⟨fun x => by rw [k1, frzD, Fz.fz]; rfl⟩
instance {c c' : α → D} {k k' : β → List D} [Fz c c'] [FzK k k'] : FzK (k2 c k) (k2 c' k') := ⟨fun x => by rw [k2, frzD, Fz.fz, FzK.fz]; rfl⟩
instance {k k' : α → List D} [FzK k k'] : Fz (cT k) (cT k') := ⟨fun x => by rw [cT, D.frz, FzK.fz]; rfl⟩
instance {k k' : α → List D} [FzK k k'] : Fz (cR .o k) (cR .s k') := ⟨fun x => by rw [cR, D.frz, FzK.fz]; rfl⟩
instance {k k' : α → List D} [FzK k k'] : Fz (cR .s k) (cR .s k') := ⟨fun x => by rw [cR, D.frz, FzK.fz]; rfl⟩
instance {c c' : α → D} [Fz c c'] : Fz (cO c) (cO c') := ⟨fun x => by cases x <;> first | rfl | exact Fz.fz (c := c) _⟩


def pI (x : Int) : PyData := .int x
def pB (x : Bool) : PyData := .bool x
def pL (p : α → PyData) (xs : List α) : PyData := .list (xs.map p)
def q1 (p : α → PyData) (x : α) : List PyData := [p x]
def q2 (p : α → PyData) (q : β → List PyData) (x : α × β) : List PyData := p x.1 :: q x.2
def pT (q : α → List PyData) (x : α) : PyData := .tuple (q x)
def pR (q : α → List PyData) (x : α) : PyData := .list (q x)
class Pd (p : α → PyData) where
  dep : Nat
  can : ∀ x, (p x).canLay0 = true
  deep : ∀ x, (p x).depth ≤ dep
  inj : ∀ x y, PyData.eqv (p x) (p y) = true ↔ x = y
class PdK (q : α → List PyData) where
  dep : Nat
  can : ∀ x, PyData.canLayAll0 (q x) = true
  deep : ∀ x, PyData.depthAll (q x) ≤ dep
  inj : ∀ x y, PyData.eqvAll (q x) (q y) = true ↔ x = y
instance : Pd pI := ⟨0, fun _ => rfl, fun _ => Nat.le_refl _, fun x y => by simp [pI, PyData.eqv]⟩
instance : Pd pB := ⟨0, fun _ => rfl, fun _ => Nat.le_refl _, fun x y => by simp [pB, PyData.eqv]⟩
theorem canL_cod {p : α → PyData} [Pd p] : ∀ xs : List α, PyData.canLayAll0 (xs.map p) = true
  | [] => rfl
  | x :: xs => by rw [List.map_cons, PyData.canLayAll0, Pd.can, canL_cod xs]; rfl
theorem deepL_cod {p : α → PyData} [Pd p] : ∀ xs : List α, PyData.depthAll (xs.map p) ≤ Pd.dep p
  | [] => by simp [PyData.depthAll]
  | x :: xs => by
    rw [List.map_cons, PyData.depthAll]
    have := Pd.deep (p := p) x
    have := deepL_cod (p := p) xs
    omega
theorem injL_cod {p : α → PyData} [Pd p] : ∀ xs ys : List α, PyData.eqvAll (xs.map p) (ys.map p) = true ↔ xs = ys
  | [], [] => by simp [PyData.eqvAll]
  | [], y :: ys => by simp [PyData.eqvAll]
  | x :: xs, [] => by simp [PyData.eqvAll]
  | x :: xs, y :: ys => by
    rw [List.map_cons, List.map_cons, PyData.eqvAll, Bool.and_eq_true, Pd.inj, injL_cod xs ys, List.cons.injEq]
instance {p : α → PyData} [Pd p] : Pd (pL p) := ⟨Pd.dep p + 1, fun xs => by rw [pL, PyData.canLay0, canL_cod], fun xs => by rw [pL, PyData.depth]; exact Nat.add_le_add_right (deepL_cod xs) 1, fun xs ys => by rw [pL, pL, PyData.eqv, injL_cod]⟩
instance {p : α → PyData} [Pd p] : PdK (q1 p) := ⟨Pd.dep p, fun x => by simp [q1, PyData.canLayAll0, Pd.can], fun x => by simp [q1, PyData.depthAll]; exact Pd.deep x, fun x y => by simp [q1, PyData.eqvAll, Pd.inj]⟩
instance {p : α → PyData} {q : β → List PyData} [Pd p] [PdK q] : PdK (q2 p q) := ⟨max (Pd.dep p) (PdK.dep q), fun x => by simp [q2, PyData.canLayAll0, Pd.can, PdK.can], fun x => by
    rw [q2, PyData.depthAll]
    have := Pd.deep (p := p) x.1
    have := PdK.deep (q := q) x.2
    omega, fun x y => by
    rw [q2, q2, PyData.eqvAll, Bool.and_eq_true, Pd.inj, PdK.inj]
    exact Prod.ext_iff.symm⟩
instance {q : α → List PyData} [PdK q] : Pd (pT q) := ⟨PdK.dep q + 1, fun x => by rw [pT, PyData.canLay0, PdK.can], fun x => by rw [pT, PyData.depth]; exact Nat.add_le_add_right (PdK.deep x) 1, fun x y => by rw [pT, pT, PyData.eqv, PdK.inj]⟩
instance {q : α → List PyData} [PdK q] : Pd (pR q) := ⟨PdK.dep q + 1, fun x => by rw [pR, PyData.canLay0, PdK.can], fun x => by rw [pR, PyData.depth]; exact Nat.add_le_add_right (PdK.deep x) 1, fun x y => by rw [pR, pR, PyData.eqv, PdK.inj]⟩
class Dt (c : α → D) (p : outParam (α → PyData)) : Prop where
  dt : ∀ x, (c x).dat = some (p x)
class DtK (k : α → List D) (q : outParam (α → List PyData)) : Prop where
  dt : ∀ x, datL (k x) = some (q x)
instance : Dt cI pI := ⟨fun _ => rfl⟩
instance : Dt cB pB := ⟨fun _ => rfl⟩
theorem datL_cod {c : α → D} {p : α → PyData} [Dt c p] : ∀ xs : List α, datL (xs.map c) = some (xs.map p)
  | [] => rfl
  | x :: xs => by rw [List.map_cons, datL, Dt.dt, Option.bind_some, datL_cod xs]; rfl
instance {o : Fl} {c : α → D} {p : α → PyData} [Dt c p] : Dt (cL o c) (pL p) := ⟨fun xs => by rw [cL, D.dat, datL_cod]; rfl⟩
instance {c : α → D} {p : α → PyData} [Dt c p] : DtK (k1 c) (q1 p) := ⟨fun x => by rw [k1, datL, Dt.dt]; rfl⟩
instance {c : α → D} {p : α → PyData} {k : β → List D} {q : β → List PyData} [Dt c p] [DtK k q] : DtK (k2 c k) (q2 p q) := ⟨fun x => by rw [k2, datL, Dt.dt, Option.bind_some, DtK.dt]; rfl⟩
instance {k : α → List D} {q : α → List PyData} [DtK k q] : Dt (cT k) (pT q) := ⟨fun x => by rw [cT, D.dat, DtK.dt]; rfl⟩
instance {o : Fl} {k : α → List D} {q : α → List PyData} [DtK k q] : Dt (cR o k) (pR q) := ⟨fun x => by rw [cR, D.dat, DtK.dt]; rfl⟩
theorem shaped_cod {p : α → PyData} [Pd p] (h : Pd.dep p ≤ 64) (x : α) : SeqAt.shaped (p x) = true := by
  unfold SeqAt.shaped
  have := Pd.deep (p := p) x
  simp [Pd.can, show (p x).depth ≤ 64 by omega]
theorem eqB_cod [DecidableEq α] {c c' : α → D} {p : α → PyData} [Dt c p] [Dt c' p] [Pd p] (h : Pd.dep p ≤ 64) (x y : α) : fEqB (c x) (c' y) = some (decide (x = y)) := by
  unfold fEqB
  rw [Dt.dt (c := c), Dt.dt (c := c'), Option.bind_some, Option.bind_some, shaped_cod h, shaped_cod h, if_pos (by rfl)]
  congr 1
  rw [Bool.eq_iff_iff, Pd.inj, decide_eq_true_iff]
end


abbrev Pat := List (Option D)
def Mt (P : Pat) (env : Env) : Prop := env.length = P.length ∧ ∀ (i : Nat) (d : D), P[i]? = some (some d) → env[i]? = some (some d)
def Le : Pat → Pat → Prop
  | [], [] => True
  | _ :: P, none :: P' => Le P P'
  | p :: P, some d :: P' => p = some d ∧ Le P P'
  | _, _ => False
section
variable {P P' : Pat} {env : Env} {d : D} {i : Nat}
theorem Le.get : ∀ {P P' : Pat}, Le P P' → P.length = P'.length ∧ ∀ (i : Nat) (d : D), P'[i]? = some (some d) → P[i]? = some (some d)
  | [], [], _ => ⟨rfl, fun _ _ h => h⟩
  | p :: P, none :: P', h => by
    obtain ⟨h1, h2⟩ := Le.get (P := P) (P' := P') h
    refine ⟨by simp [h1], fun i d g => ?_⟩
    cases i with
    | zero => simp at g
    | succ i => exact h2 i d g
  | p :: P, some d :: P', h => by
    obtain ⟨h1, h2⟩ := Le.get (P := P) (P' := P') h.2
    refine ⟨by simp [h1], fun i d g => ?_⟩
    cases i with
    | zero => rw [h.1]; exact g
    | succ i => exact h2 i d g
theorem Mt.le (h : Mt P env) (l : Le P P') : Mt P' env := ⟨h.1.trans l.get.1, fun i d g => h.2 i d (l.get.2 i d g)⟩
theorem Mt.set (h : Mt P env) {o : Option D} : Mt (P.set i o) (env.set i o) := by
  refine ⟨by simp [h.1], fun j d g => ?_⟩
  rw [List.getElem?_set] at g ⊢
  by_cases q : i = j
  · rw [if_pos q] at g ⊢
    by_cases l : i < P.length
    · rw [if_pos l] at g
      rw [if_pos (by rw [h.1]; exact l)]
      exact g
    · rw [if_neg l] at g; cases g
  · rw [if_neg q] at g ⊢
    exact h.2 j d g
theorem Mt.join (h : Mt P env) (e : P[i]? = some (some d)) : env[i]?.join = some d := by rw [h.2 i d e]; rfl
theorem Mt.start {ds : List D} {n : Nat} : Mt (initD n ds) (initD n ds) := ⟨rfl, fun _ _ h => h⟩
theorem Mt.any {n : Nat} (h : Mt P env) (e : P.length = n) : Mt (List.replicate n none) env := ⟨by rw [h.1, e, List.length_replicate], fun i d g => by
  rw [List.getElem?_replicate] at g
  split at g <;> cases g⟩
end


section
variable {α β γ : Type} {env : Env} {P : Pat}
def EV (m : PM) (env : Env) (o : Option α) (c : α → D) : Prop := ∀ x, o = some x → m env = some (c x)
def EVB (m : BM) (env : Env) (o : Option Bool) : Prop := ∀ x, o = some x → m env = some x
def EVL (m : LM) (env : Env) (o : Option (List α)) (c : α → D) : Prop := ∀ x, o = some x → m env = some (x.map c)
def EVD (m : LM) (env : Env) (o : Option α) (k : α → List D) : Prop := ∀ x, o = some x → m env = some (k x)
def EE (m : EM) (env : Env) (o : Option α) (k : α → D × Pat) : Prop := ∀ x, o = some x → ∃ e, m env = some ((k x).1, e) ∧ Mt (k x).2 e
def ET (m : TM) (env : Env) (o : Option α) (k : α → Bool × Pat) : Prop := ∀ x, o = some x → ∃ e, m env = some ((k x).1, e) ∧ Mt (k x).2 e
def ES (m : SM) (env : Env) (o : Option α) (K : α → O → Prop) (Q : α → Pat) : Prop := ∀ x, o = some x → ∃ fl e, m env = some (fl, e) ∧ K x fl ∧ Mt (Q x) e
variable {ma mb m : PM} {mt mu : BM} {ml : LM} {c c' : α → D} {d : D} {v : V}
theorem bsome {o : Option α} {f : α → Option β} {z : β} (h : o.bind f = some z) : ∃ x, o = some x ∧ f x = some z := bind_some h
theorem EV.tot {x : α} (h : m env = some (c x)) : EV m env (some x) c := fun y e => by cases e; exact h
theorem EVB.tot {x : Bool} (h : mt env = some x) : EVB mt env (some x) := fun y e => by cases e; exact h
theorem EV.hoist {c2 : β → D} {oa : Option β} {o : β → Option α} (h : EV ma env oa c2) (k : ∀ a, ma env = some (c2 a) → EV m env (o a) c) : EV m env (oa.bind o) c := fun x e => by
  obtain ⟨a, h1, h2⟩ := bsome e
  exact k a (h a h1) x h2
theorem EVB.hoist {c2 : β → D} {oa : Option β} {o : β → Option Bool} (h : EV ma env oa c2) (k : ∀ a, ma env = some (c2 a) → EVB mt env (o a)) : EVB mt env (oa.bind o) := fun x e => by
  obtain ⟨a, h1, h2⟩ := bsome e
  exact k a (h a h1) x h2
theorem ES.hoist {c2 : β → D} {oa : Option β} {o : β → Option α} {ms : SM} {K : α → O → Prop} {Q : α → Pat} (h : EV ma env oa c2) (f : ∀ a, ma env = some (c2 a) → ES ms env (o a) K Q) : ES ms env (oa.bind o) K Q := fun x e => by
  obtain ⟨a, h1, h2⟩ := bsome e
  exact f a (h a h1) x h2
theorem ES.hoistB {oa : Option Bool} {o : Bool → Option α} {ms : SM} {K : α → O → Prop} {Q : α → Pat} (h : EVB mu env oa) (f : ∀ a, mu env = some a → ES ms env (o a) K Q) : ES ms env (oa.bind o) K Q := fun x e => by
  obtain ⟨a, h1, h2⟩ := bsome e
  exact f a (h a h1) x h2


theorem e_var {i : Nat} (h : Mt P env) (e : P[i]? = some (some d)) : mVar i env = some d := h.join e
theorem e_pure (h : m env = some d) (p : d.pure = true := by rfl) : mPure m env = some d := by
  unfold mPure
  rw [h, Option.bind_some, if_pos p]
theorem e_pureC {x : α} [Pu c] (h : m env = some (c x)) : mPure m env = some (c x) := e_pure h (Pu.pu x)
theorem e_op2 {f : D → D → Option V} {d1 d2 : D} (h1 : ma env = some d1) (h2 : mb env = some d2) (hf : f d1 d2 = some v) (hs : scl v = true := by rfl) : mOp2 f ma mb env = some (.s v) := by
  unfold mOp2 sv
  rw [h1, Option.bind_some, h2, Option.bind_some, hf, Option.bind_some, if_pos hs]
theorem e_op1 {f : D → Option V} {d1 : D} (h1 : ma env = some d1) (hf : f d1 = some v) (hs : scl v = true := by rfl) : mOp1 f ma env = some (.s v) := by
  unfold mOp1 sv
  rw [h1, Option.bind_some, hf, Option.bind_some, if_pos hs]
section
variable {i j : Int}
theorem e_add (h1 : ma env = some (cI i)) (h2 : mb env = some (cI j)) : mOp2 fAdd ma mb env = some (cI (i + j)) := e_op2 h1 h2 rfl
theorem e_sub (h1 : ma env = some (cI i)) (h2 : mb env = some (cI j)) : mOp2 fSub ma mb env = some (cI (i - j)) := e_op2 h1 h2 rfl
theorem e_lt (h1 : ma env = some (cI i)) (h2 : mb env = some (cI j)) : mOp2 fLt ma mb env = some (cB (decide (i < j))) := e_op2 h1 h2 rfl
theorem e_gt (h1 : ma env = some (cI i)) (h2 : mb env = some (cI j)) : mOp2 fGt ma mb env = some (cB (decide (j < i))) := e_op2 h1 h2 rfl
theorem e_ge (h1 : ma env = some (cI i)) (h2 : mb env = some (cI j)) : mOp2 fGe ma mb env = some (cB (decide (j ≤ i))) := e_op2 h1 h2 rfl
theorem e_neg (h1 : ma env = some (cI i)) : mOp1 fNeg ma env = some (cI (-i)) := e_op1 h1 rfl
theorem e_mulC (h1 : ma env = some (cI i)) (h2 : mb env = some (cI j)) (h : CMulB i j) : mOp2 fMul ma mb env = some (cI (i * j)) := e_op2 h1 h2 (fMul_int h)
theorem e_modC (h1 : ma env = some (cI i)) (h2 : mb env = some (cI j)) (h : 0 < j := by decide) : mOp2 fMod ma mb env = some (cI (i % j)) := e_op2 h1 h2 (fMod_int h)
theorem e_divC (h1 : ma env = some (cI i)) (h2 : mb env = some (cI j)) (h : 0 < j := by decide) (h' : j.natAbs.log2 < 9000 := by decide) : mOp2 fDiv ma mb env = some (cI (i / j)) := e_op2 h1 h2 (fDiv_int h h')
theorem e_powC {w : Int} (h1 : ma env = some (cI i)) (h2 : mb env = some (cI j)) (h : 0 ≤ j ∧ j ≤ 1000000 ∧ i.natAbs < 2 ^ 64 := by decide) (hw : i ^ j.toNat = w := by decide) : mOp2 fPow ma mb env = some (cI w) := by
  rw [← hw]
  exact e_op2 h1 h2 (fPow_int h)
theorem v_mul (h1 : ma env = some (cI i)) (h2 : mb env = some (cI j)) : EV (mOp2 fMul ma mb) env (pmul i j) cI := fun x e => by
  unfold pmul at e
  split at e
  · rename_i h
    cases e
    exact e_mulC h1 h2 (wide_mulB h.1 h.2)
  · cases e
theorem v_div (h1 : ma env = some (cI i)) (h2 : mb env = some (cI j)) : EV (mOp2 fDiv ma mb) env (pdiv i j) cI := fun x e => by
  unfold pdiv at e
  split at e
  · rename_i h
    cases e
    exact e_divC h1 h2 h.1 (Nat.lt_trans (log2_lt (k := 250) (by decide) (by omega)) (by decide))
  · cases e
theorem v_mod (h1 : ma env = some (cI i)) (h2 : mb env = some (cI j)) : EV (mOp2 fMod ma mb) env (pmod i j) cI := fun x e => by
  unfold pmod at e
  split at e
  · cases e
    exact e_modC h1 h2 ‹_›
  · cases e
theorem v_pow (h1 : ma env = some (cI i)) (h2 : mb env = some (cI j)) : EV (mOp2 fPow ma mb) env (ppow i j) cI := fun x e => by
  unfold ppow at e
  split at e
  · rename_i h
    cases e
    exact e_powC h1 h2 ⟨h.1, by omega, h.2.2⟩ rfl
  · cases e
end
theorem e_eq [DecidableEq α] {c c' : α → D} {p : α → PyData} [Dt c p] [Dt c' p] [Pd p] {x y : α} (h1 : ma env = some (c x)) (h2 : mb env = some (c' y)) (h : Pd.dep p ≤ 64 := by decide) : mOp2 fEq ma mb env = some (cB (decide (x = y))) := e_op2 h1 h2 (by rw [fEq, eqB_cod h]; rfl)
theorem e_ne [DecidableEq α] {c c' : α → D} {p : α → PyData} [Dt c p] [Dt c' p] [Pd p] {x y : α} (h1 : ma env = some (c x)) (h2 : mb env = some (c' y)) (h : Pd.dep p ≤ 64 := by decide) : mOp2 fNe ma mb env = some (cB (decide (x ≠ y))) := e_op2 h1 h2 (by
  rw [fNe, eqB_cod h, Option.map_some]
  simp)
class NN (c : α → D) : Prop where
  nn : ∀ x, isNon (c x) = false
instance : NN cI := ⟨fun _ => rfl⟩
instance : NN cB := ⟨fun _ => rfl⟩
instance {o : Fl} {c : α → D} : NN (cL o c) := ⟨fun _ => rfl⟩
instance {k : α → List D} : NN (cT k) := ⟨fun _ => rfl⟩
instance {o : Fl} {k : α → List D} : NN (cR o k) := ⟨fun _ => rfl⟩
theorem e_nil : lNil env = some [] := rfl
theorem e_cons {ds : List D} (h : m env = some d) (h2 : ml env = some ds) : lCons m ml env = some (d :: ds) := by
  unfold lCons
  rw [h, Option.bind_some, h2]; rfl
theorem e_mk {k : Kd} {ds : List D} (h : ml env = some ds) (hl : ds.length ≤ 16777216 := by exact Nat.le_of_ble_eq_true rfl) : mk k ml env = some (.n k ds) := by
  unfold mk
  rw [h, Option.bind_some, if_pos hl]
theorem e_call {f : List D → Option V} {ds : List D} (h : ml env = some ds) (hf : f ds = some v) (hs : scl v = true := by rfl) : mCall f ml env = some (.s v) := by
  unfold mCall sv
  rw [h, Option.bind_some, hf, Option.bind_some, if_pos hs]
theorem e_call1 {f : List D → Option V} (h : m env = some d) (hf : f [d] = some v) (hs : scl v = true := by rfl) : mCall f (lCons m lNil) env = some (.s v) := e_call (e_cons h e_nil) hf hs
theorem e_len {o : Fl} {xs : List α} (h : m env = some (cL o c xs)) : mCall fLen (lCons m lNil) env = some (cI xs.length) := e_call1 h (by rw [cL, fLen, List.length_map])
theorem e_lenT {n : Nat} {ds : List D} (h : m env = some (.n .tup ds)) (hn : ds.length = n := by rfl) : mCall fLen (lCons m lNil) env = some (cI n) := e_call1 h (by rw [fLen, hn])
theorem intsD_cod (xs : List Int) : intsD (xs.map cI) = some xs := intsD_map xs
theorem li_cod {o : Fl} (xs : List Int) : li [cL o cI xs] = some xs := intsD_map xs
theorem lb_cod {o : Fl} (xs : List Bool) : lb [cL o cB xs] = some xs := boolsD_map xs
theorem e_sum {o : Fl} {xs : List Int} (h : m env = some (cL o cI xs)) : mCall fSum (lCons m lNil) env = some (cI xs.sum) := e_call1 h (by rw [fSum, li_cod]; rfl)
theorem e_all {o : Fl} {xs : List Bool} (h : m env = some (cL o cB xs)) : mCall fAll (lCons m lNil) env = some (cB (xs.all id)) := e_call1 h (by rw [fAll, lb_cod]; rfl)
theorem v_min {o : Fl} {xs : List Int} (h : m env = some (cL o cI xs)) : EV (mCall fMinL (lCons m lNil)) env (pmin xs) cI := fun x e => e_call1 h (by
  unfold pmin at e
  rw [fMinL, li_cod, Option.bind_some, e]; rfl)
theorem e_callL {f : List D → Option (List D)} {ds rs : List D} (h : ml env = some ds) (hf : f ds = some rs) (hp : pureL rs = true) : mCallL f ml env = some (.n (.lst .o) rs) := by
  unfold mCallL
  rw [h, Option.bind_some, hf, Option.bind_some, if_pos hp]
theorem e_list [Pu c] {o : Fl} {xs : List α} (h : m env = some (cL o c xs)) : mCallL fList (lCons m lNil) env = some (cL .o c xs) := e_callL (e_cons h e_nil) rfl (pureL_cod xs)
theorem e_item {x y d : D} (h1 : ma env = some x) (h2 : mb env = some y) (h : fItem x y = some d) : mItem ma mb env = some d := by
  unfold mItem
  rw [h1, Option.bind_some, h2, Option.bind_some, h]
theorem e_itemT {ds : List D} {i : Int} (h1 : ma env = some (.n .tup ds)) (h2 : mb env = some (cI i)) (h : atI ds i = some d := by rfl) : mItem ma mb env = some d := e_item h1 h2 h
theorem e_itemR {ds : List D} {o : Fl} {i : Int} (h1 : ma env = some (.n (.lst o) ds)) (h2 : mb env = some (cI i)) (h : atI ds i = some d := by rfl) : mItem ma mb env = some d := e_item h1 h2 h
theorem ixN_Z (n : Nat) (i : Int) : ixN n i = ixZ n i := rfl
theorem atI_idx (xs : List α) (i : Int) : atI xs i = idx xs i := by unfold atI idx; rfl
theorem v_item {o : Fl} {xs : List α} {i : Int} (h1 : ma env = some (cL o c xs)) (h2 : mb env = some (cI i)) : EV (mItem ma mb) env (idx xs i) c := fun x e => e_item h1 h2 (by
  show atI (xs.map c) i = _
  rw [atI_map, atI_idx, e]; rfl)
theorem v_cat [Pu c] {o o' : Fl} {xs ys : List α} (h1 : ma env = some (cL o c xs)) (h2 : mb env = some (cL o' c ys)) (hn : (nw o && nw o') = true := by rfl) : EV (mCat ma mb) env (cat xs ys) (cL .o c) := fun x e => by
  unfold cat at e
  split at e
  · rename_i hl
    cases e
    unfold mCat
    rw [h1, Option.bind_some, h2, Option.bind_some]
    have : fCat (cL o c xs) (cL o' c ys) = some ((xs ++ ys).map c) := by
      unfold fCat cL
      dsimp only
      rw [if_pos (by rw [hn]; simpa using hl), List.map_append]
    rw [this, Option.bind_some, if_pos (pureL_cod _)]; rfl
  · cases e
theorem rep_map {f : α → β} (n : Nat) (xs : List α) : (List.replicate n (xs.map f)).flatten = (List.replicate n xs).flatten.map f := by
  rw [List.map_flatten, List.map_replicate]
theorem v_rep [Pu c] {o : Fl} {xs : List α} {n : Int} (h1 : ma env = some (cL o c xs)) (h2 : mb env = some (cI n)) (hn : nw o = true := by rfl) : EV (mRep ma mb) env (rep xs n) (cL .o c) := fun x e => by
  unfold rep at e
  split at e
  · rename_i hl
    cases e
    unfold mRep
    rw [h1, Option.bind_some, h2, Option.bind_some]
    have : fRep (cL o c xs) (cI n) = some ((List.replicate n.toNat xs).flatten.map c) := by
      unfold fRep cL cI
      dsimp only
      rw [if_pos (by rw [hn]; simp only [Bool.true_and, List.length_map]; exact decide_eq_true ⟨by omega, by omega, hl.2.2⟩), rep_map]
    rw [this, Option.bind_some, if_pos (pureL_cod _)]; rfl
  · cases e
theorem sIx_bd (n : Nat) (d : Nat) (o : Option Int) : HT.sIx n d o = bd n d o := by
  cases o with
  | none => rfl
  | some i => unfold HT.sIx bd; first | rfl | (dsimp only; split <;> first | rfl | (split <;> first | rfl | omega) | omega)
theorem cutG_sl (xs : List α) (lo hi : Option Int) : cutG xs lo hi = sl xs lo hi := by
  unfold cutG sl
  rw [sIx_bd, sIx_bd]
theorem e_oNo : oNo env = some none := rfl
theorem e_oYes {i : Int} (h : m env = some (cI i)) : oYes m env = some (some i) := by
  unfold oYes
  rw [h]; rfl
theorem e_sl [Pu c] {o : Fl} {xs : List α} {lo hi : Env → Option (Option Int)} {a b : Option Int} (h1 : m env = some (cL o c xs)) (h2 : lo env = some a) (h3 : hi env = some b) : mSl m lo hi env = some (cL .o c (sl xs a b)) := by
  unfold mSl
  rw [h1, Option.bind_some, h2, Option.bind_some, h3, Option.bind_some]
  unfold cL
  dsimp only
  rw [cutG_map, cutG_sl, if_pos (pureL_cod _)]
theorem rg_1 {i : Int} (h : m env = some (cI i)) : rg1 m env = some (0, i) := by
  unfold rg1
  rw [h]; rfl
theorem rng_of {a b : Int} {xs : List Int} (h : rng a b = some xs) : RgOk a b ∧ xs = span a b := by
  unfold rng at h
  split at h
  · rename_i g
    cases h
    refine ⟨?_, rfl⟩
    unfold RgOk
    omega
  · cases h
theorem rgD_span (a b : Int) : rgD a b = (span a b).map cI := by
  unfold rgD span
  rw [List.map_map]; rfl
theorem v_rg {r : Env → Option (Int × Int)} {a b : Int} (h : r env = some (a, b)) : EV (mRg r) env (rng a b) (cL .o cI) := fun x e => by
  obtain ⟨h1, rfl⟩ := rng_of e
  unfold mRg
  rw [h, Option.bind_some, if_pos (decide_eq_true h1), rgD_span]; rfl
theorem e_isi {T : String} {b : Bool} (h : m env = some d) (hb : isiD T d = some (.bl b)) : mIsi T m env = some (cB b) := by
  unfold mIsi sv
  rw [h, Option.bind_some, hb, Option.bind_some]; rfl
theorem v_index {o : Fl} {xs : List Int} {i : Int} (h1 : ma env = some (cL o cI xs)) (h2 : mb env = some (cI i)) : EV (mIdx ma mb) env (ixOf xs i) cI := fun x e => by
  unfold ixOf at e
  split at e
  · rename_i h
    cases e
    unfold mIdx
    rw [h1, Option.bind_some, h2, Option.bind_some]
    unfold fIdx cL cI
    dsimp only
    rw [show (xs.map fun x => D.s (.int x)) = xs.map cI from rfl, intsD_cod, Option.bind_some, if_pos h]; rfl
  · cases e
theorem e_notV {b : Bool} (h : m env = some (cB b)) : mNotV m env = some (cB (!b)) := by
  unfold mNotV
  rw [h]; rfl

section
variable {p q : Prop} [Decidable p] [Decidable q]
theorem e_B {b : Bool} (h : m env = some (cB b)) : mB m env = some b := by
  unfold mB
  rw [h]; rfl
theorem e_truB {b : Bool} (h : m env = some (cB b)) : mTru m env = some (decide (b = true)) := by
  unfold mTru
  rw [h]
  cases b <;> rfl
theorem e_truL {o : Fl} {xs : List α} (h : m env = some (cL o c xs)) : mTru m env = some (decide (xs ≠ [])) := by
  unfold mTru
  rw [h]
  cases xs <;> rfl
theorem e_not (h : mt env = some (decide p)) : mNotT mt env = some (decide ¬p) := by
  unfold mNotT
  rw [h]
  by_cases hp : p <;> simp [hp]
theorem e_and (h : mt env = some (decide p)) (h2 : mu env = some (decide q)) : mAnd mt mu env = some (decide (p ∧ q)) := by
  unfold mAnd
  rw [h, h2]
  by_cases hp : p <;> simp [hp]
theorem e_or_f {b : Bool} (h : mt env = some false) (h2 : mu env = some b) : mOr mt mu env = some b := by
  unfold mOr
  rw [h]; exact h2
theorem v_and {o : Option Bool} (h : mt env = some (decide p)) (h2 : p → EVB mu env o) : EVB (mAnd mt mu) env (if p then o else some false) := fun x e => by
  unfold mAnd
  rw [h, Option.bind_some]
  by_cases hp : p
  · rw [if_pos hp] at e
    rw [if_pos (decide_eq_true hp)]
    exact h2 hp x e
  · rw [if_neg hp] at e
    cases e
    rw [if_neg (by simpa using hp)]
theorem v_or {o : Option Bool} (h : mt env = some (decide p)) (h2 : ¬p → EVB mu env o) : EVB (mOr mt mu) env (if p then some true else o) := fun x e => by
  unfold mOr
  rw [h, Option.bind_some]
  by_cases hp : p
  · rw [if_pos hp] at e
    cases e
    rw [if_pos (decide_eq_true hp)]
  · rw [if_neg hp] at e
    rw [if_neg (by simpa using hp)]
    exact h2 hp x e
theorem e_andV (h : m env = some (cB (decide p))) (h2 : ma env = some (cB (decide q))) : mAndV m ma env = some (cB (decide (p ∧ q))) := by
  unfold mAndV
  rw [h, h2]
  show (Option.bind (some (decide p)) _) = _
  by_cases hp : p <;> simp [hp, cB, toB]
theorem e_notP (h : m env = some (cB (decide p))) : mNotV m env = some (cB (decide ¬p)) := by
  rw [e_notV h]
  by_cases hp : p <;> simp [hp]
theorem e_if {x y : α} (h : mt env = some (decide p)) (h1 : p → ma env = some (c x)) (h2 : ¬p → mb env = some (c y)) : mIf mt ma mb env = some (c (if p then x else y)) := by
  unfold mIf
  rw [h, Option.bind_some]
  by_cases hp : p
  · rw [if_pos hp, if_pos (decide_eq_true hp)]; exact h1 hp
  · rw [if_neg hp, if_neg (by simpa using hp)]; exact h2 hp
end
theorem v_fn {f : FM} {ds : List D} {t : Option α} (h : ml env = some ds) (hf : ∀ x, t = some x → f (frzD ds) = some (c x)) [NoF c] : EV (mFn f ml) env t c := fun x e => by
  unfold mFn
  rw [h, Option.bind_some, hf x e, Option.bind_some, NoF.no]; rfl
end
end Ow

namespace Ow
open PySem L2 Ty
section
variable {α β γ σ ρ : Type} {env : Env} {P P1 P2 : Pat} {ma mb m : PM} {mt mu : BM} {ml mi : LM} {c c' : α → D} {d : D} {v : V}


theorem w_L {o : Fl} {xs : List α} (h : m env = some (cL o c xs)) : wL m env = some (xs.map c) := by
  unfold wL
  rw [h]; rfl
theorem w_R {r : Env → Option (Int × Int)} {a b : Int} (h : r env = some (a, b)) : EVL (wR r) env (rng a b) cI := fun x e => by
  obtain ⟨h1, rfl⟩ := rng_of e
  unfold wR
  rw [h, Option.bind_some, if_pos (decide_eq_true h1)]
  unfold rgDn span
  rw [List.map_map]; rfl
theorem zipD {c2 : β → D} : ∀ (xs : List α) (ys : List β), List.zipWith (fun x y => D.n .tup [x, y]) (xs.map c) (ys.map c2) = (xs.zip ys).map (cT (k2 c (k1 c2)))
  | [], _ => rfl
  | x :: xs, [] => rfl
  | x :: xs, y :: ys => by rw [List.map_cons, List.map_cons, List.zipWith_cons_cons, List.zip_cons_cons, List.map_cons, zipD xs ys]; rfl
theorem w_Z {c2 : β → D} {o o' : Fl} {xs : List α} {ys : List β} (h : ma env = some (cL o c xs)) (h2 : mb env = some (cL o' c2 ys)) : wZ ma mb env = some ((xs.zip ys).map (cT (k2 c (k1 c2)))) := by
  unfold wZ
  rw [h, Option.bind_some, h2, Option.bind_some, ← zipD]; rfl
theorem enD_enu : ∀ (i : Nat) (xs : List α), enD i (xs.map c) = (enu i xs).map (cT (k2 cI (k1 c)))
  | _, [] => rfl
  | i, x :: xs => by rw [List.map_cons, enD, enD_enu (i + 1) xs, enu, List.map_cons]; rfl
theorem w_E {o : Fl} {xs : List α} (h : m env = some (cL o c xs)) : wE m env = some ((enu 0 xs).map (cT (k2 cI (k1 c)))) := by
  unfold wE
  rw [h, Option.bind_some, ← enD_enu]; rfl
theorem ES.hoistL {oa : Option (List α)} {o : List α → Option β} {ms : SM} {K : β → O → Prop} {Q : β → Pat} (h : EVL ml env oa c) (k : ∀ a, ml env = some (a.map c) → ES ms env (o a) K Q) : ES ms env (oa.bind o) K Q := fun x e => by
  obtain ⟨a, h1, h2⟩ := bsome e
  exact k a (h a h1) x h2

def BDt (g : Tg) (d : D) (P P1 : Pat) : Prop := ∀ e, Mt P e → ∃ e1, bD g d e = some e1 ∧ Mt P1 e1
def BDs (gs : List Tg) (ds : List D) (P P1 : Pat) : Prop := gs.length = ds.length ∧ ∀ e, Mt P e → ∃ e1, bDs gs ds e = some e1 ∧ Mt P1 e1
theorem b_nm {j : Nat} : BDt (.nm j) d P (P.set j (some d)) := fun e h => ⟨_, bD_nm _ _ _, h.set⟩
theorem b_tp {gs : List Tg} {ds : List D} (h : BDs gs ds P P1) : BDt (.tp gs) (.n .tup ds) P P1 := fun e he => by
  obtain ⟨e1, h1, h2⟩ := h.2 e he
  exact ⟨e1, by rw [bD, if_pos h.1.symm, h1], h2⟩
theorem b_nil : BDs [] [] P P := ⟨rfl, fun e h => ⟨e, by rw [bDs], h⟩⟩
theorem b_cons {g : Tg} {gs : List Tg} {ds : List D} (h : BDt g d P P1) (h2 : BDs gs ds P1 P2) : BDs (g :: gs) (d :: ds) P P2 := ⟨by simp [h2.1], fun e he => by
  obtain ⟨e1, g1, g2⟩ := h e he
  obtain ⟨e2, g3, g4⟩ := h2.2 e1 g2
  exact ⟨e2, by rw [bDs, g1, Option.bind_some, g3], g4⟩⟩
theorem Mt.wipe : ∀ {vs : List Nat} {P : Pat} {env : Env}, Mt P env → Mt (wipeD P vs) (wipeD env vs)
  | [], _, _, h => h
  | v :: vs, _, _, h => (Mt.wipe (vs := vs) h).set


theorem v_lcm {c2 : β → D} {g : Tg} {me : PM} {vs : List Nat} {xs : List α} {f : α → β} {Px : α → Pat} (w : mi env = some (xs.map c)) (h : Mt P env) (hb : ∀ x, BDt g (c x) (wipeD P vs) (Px x)) (he : ∀ x e, Mt (Px x) e → me e = some (c2 (f x))) :
    EV (mLc mi g bYes me vs) env (lcm xs f) (cL .o c2) := fun x e => by
  unfold lcm at e
  split at e
  · rename_i hl
    cases e
    unfold mLc
    rw [w, Option.bind_some, if_pos (by rw [List.length_map]; exact hl)]
    have : ∀ xs : List α, lcD g bYes me (wipeD env vs) (xs.map c) = some ((xs.map f).map c2) := fun xs => by
      induction xs with
      | nil => rfl
      | cons x xs ih =>
        obtain ⟨e1, g1, g2⟩ := hb x _ h.wipe
        rw [List.map_cons, lcD, g1, Option.bind_some]
        show Option.bind (some true) _ = _
        rw [Option.bind_some, if_pos rfl, he x e1 g2, Option.bind_some, ih]; rfl
    rw [this]; rfl
  · cases e
theorem v_lcp {c2 : β → D} {g : Tg} {me : PM} {vs : List Nat} {xs : List α} {p : α → Option Bool} {f : α → Option β} {Px : α → Pat} (w : mi env = some (xs.map c)) (h : Mt P env) (hb : ∀ x, BDt g (c x) (wipeD P vs) (Px x)) (ht : ∀ x e, Mt (Px x) e → EVB mt e (p x)) (he : ∀ x e, Mt (Px x) e → EV me e (f x) c2) :
    EV (mLc mi g mt me vs) env (lcp xs p f) (cL .o c2) := fun x e => by
  unfold lcp at e
  split at e
  · rename_i hl
    unfold mLc
    rw [w, Option.bind_some, if_pos (by rw [List.length_map]; exact hl)]
    have : ∀ (xs : List α) (ys : List β), lcO p f xs = some ys → lcD g mt me (wipeD env vs) (xs.map c) = some (ys.map c2) := fun xs => by
      induction xs with
      | nil => intro ys hy; cases hy; rfl
      | cons x xs ih =>
        intro ys hy
        rw [lcO] at hy
        obtain ⟨b, hb1, hy⟩ := bsome hy
        obtain ⟨e1, g1, g2⟩ := hb x _ h.wipe
        rw [List.map_cons, lcD, g1, Option.bind_some, ht x e1 g2 b hb1, Option.bind_some]
        cases b with
        | true =>
          rw [if_pos rfl] at hy
          obtain ⟨y, hy1, hy⟩ := bsome hy
          cases hr : lcO p f xs with
          | none => rw [hr] at hy; cases hy
          | some zs =>
            rw [hr] at hy
            cases hy
            rw [if_pos rfl, he x e1 g2 y hy1, Option.bind_some, ih zs hr]; rfl
        | false =>
          rw [if_neg (by decide)] at hy
          rw [if_neg (by decide)]
          exact ih ys hy
    rw [this xs x e]; rfl
  · cases e
theorem vb_yes : EVB bYes env (some true) := fun x e => by cases e; rfl
theorem vb_p {p : Prop} [Decidable p] (h : mt env = some (decide p)) : EVB mt env (some (decide p)) := EVB.tot h


variable {K : α → O → Prop} {Q : α → Pat} {o oa ob : Option α} {n mS mA mB : SM} {me : EM}
theorem s_skip {a : α} (h : Mt (Q a) env) (hK : K a .nx) : ES sNx env (some a) K Q := fun x e => by
  cases e
  exact ⟨.nx, env, rfl, hK, h⟩
theorem s_none : ES (fun _ => none) env (none : Option α) K Q := fun x e => by cases e
theorem s_last (h : ES (sSeq mS sNx) env o K Q) : ES mS env o K Q := fun x e => by
  obtain ⟨fl, e1, h1, h2, h3⟩ := h x e
  unfold sSeq at h1
  obtain ⟨y, hy, h4⟩ := bind_some h1
  obtain ⟨f, e2⟩ := y
  refine ⟨f, e2, hy, ?_⟩
  cases f <;> (cases h4; exact ⟨h2, h3⟩)
theorem s_seq {τ : Type} {oa : Option τ} {o : τ → Option α} {Pa : τ → Pat} (h : ES mS env oa (fun _ fl => fl = .nx) Pa) (h2 : ∀ a e, Mt (Pa a) e → ES n e (o a) K Q) : ES (sSeq mS n) env (oa.bind o) K Q := fun x e => by
  obtain ⟨a, h3, h4⟩ := bsome e
  obtain ⟨fl, e1, h5, rfl, h7⟩ := h a h3
  obtain ⟨fl, e2, h8, h9⟩ := h2 a e1 h7 x h4
  exact ⟨fl, e2, by unfold sSeq; rw [h5]; exact h8, h9⟩
theorem s_let {τ : Type} {ct : τ → D} {a : τ} {i : Nat} {o : τ → Option α} (hm : m env = some (ct a)) (h : Mt P env) (h2 : ∀ a e, Mt (P.set i (some (ct a))) e → ES n e (o a) K Q) : ES (sSeq (sSet i (lift m)) n) env (lt a o) K Q := fun x e => by
  obtain ⟨fl, e2, h8, h9⟩ := h2 a _ (h.set (o := some (ct a))) x e
  exact ⟨fl, e2, by unfold sSeq sSet lift; rw [hm]; exact h8, h9⟩
theorem s_setV {τ : Type} {ct : τ → D} {oa : Option τ} {i : Nat} {o : τ → Option α} (hm : EV m env oa ct) (h : Mt P env) (h2 : ∀ a e, Mt (P.set i (some (ct a))) e → ES n e (o a) K Q) : ES (sSeq (sSet i (lift m)) n) env (oa.bind o) K Q := fun x e => by
  obtain ⟨a, h3, h4⟩ := bsome e
  exact s_let (hm a h3) h h2 x h4
theorem s_setE {τ : Type} {oa : Option τ} {i : Nat} {o : τ → Option α} {k : τ → D × Pat} (hm : EE me env oa k) (h2 : ∀ a e, Mt ((k a).2.set i (some (k a).1)) e → ES n e (o a) K Q) : ES (sSeq (sSet i me) n) env (oa.bind o) K Q := fun x e => by
  obtain ⟨a, h3, h4⟩ := bsome e
  obtain ⟨e1, h5, h6⟩ := hm a h3
  obtain ⟨fl, e2, h8, h9⟩ := h2 a _ h6.set x h4
  exact ⟨fl, e2, by unfold sSeq sSet; rw [h5]; exact h8, h9⟩
theorem s_asg {τ : Type} {ct : τ → D} {a : τ} {g : Tg} {o : τ → Option α} {Pa : τ → Pat} (hm : m env = some (ct a)) [Pu ct] (h : Mt P env) (hb : ∀ a, BDt g (ct a) P (Pa a)) (h2 : ∀ a e, Mt (Pa a) e → ES n e (o a) K Q) : ES (sSeq (sAsg g m) n) env (lt a o) K Q := fun x e => by
  obtain ⟨e1, g1, g2⟩ := hb a env h
  obtain ⟨fl, e2, h8, h9⟩ := h2 a e1 g2 x e
  exact ⟨fl, e2, by unfold sSeq sAsg; rw [hm, Option.bind_some, if_pos (Pu.pu a), g1]; exact h8, h9⟩
theorem s_aug {f : D → D → Option V} {i : Nat} {τ : Type} {ct : τ → V} {a : τ} {d1 d2 : D} {o : τ → Option α} (hm : m env = some d2) (h : Mt P env) (hi : P[i]? = some (some d1)) (hf : f d1 d2 = some (ct a)) (hs : scl (ct a) = true) (h2 : ∀ a e, Mt (P.set i (some (.s (ct a)))) e → ES n e (o a) K Q) : ES (sSeq (sAugF i f m) n) env (lt a o) K Q := fun x e => by
  obtain ⟨fl, e2, h8, h9⟩ := h2 a _ (h.set (o := some (.s (ct a)))) x e
  exact ⟨fl, e2, by
    have : sv (ct a) = some (.s (ct a)) := if_pos hs
    unfold sSeq sAugF; rw [hm, Option.bind_some, h.join hi, Option.bind_some, hf, Option.bind_some, this]; exact h8, h9⟩
theorem s_augAdd {i : Nat} {a b : Int} {o : Int → Option α} (hm : m env = some (cI b)) (h : Mt P env) (hi : P[i]? = some (some (cI a))) (h2 : ∀ a e, Mt (P.set i (some (cI a))) e → ES n e (o a) K Q) : ES (sSeq (sAugF i fAdd m) n) env (lt (a + b) o) K Q := s_aug (ct := V.int) hm h hi rfl rfl h2
theorem s_ret {a : α} (hm : m env = some d) (h : Mt (Q a) env) (hK : K a (.rt d)) : ES (sRet (lift m)) env (some a) K Q := fun x e => by
  cases e
  exact ⟨.rt d, env, by unfold sRet lift; rw [hm]; rfl, hK, h⟩
theorem s_retO {ct : α → D} (hm : EV m env o ct) (h : ∀ a, Mt (Q a) env) (hK : ∀ a, K a (.rt (ct a))) : ES (sRet (lift m)) env o K Q := fun x e => ⟨_, env, by unfold sRet lift; rw [hm x e]; rfl, hK x, h x⟩
theorem s_retE {τ : Type} {oa : Option τ} {w : τ → α} {k : τ → D × Pat} (hm : EE me env oa k) (h : ∀ a e, Mt (k a).2 e → Mt (Q (w a)) e) (hK : ∀ a, K (w a) (.rt (k a).1)) : ES (sRet me) env (oa.bind fun a => some (w a)) K Q := fun x e => by
  obtain ⟨a, h3, h4⟩ := bsome e
  cases h4
  obtain ⟨e1, h5, h6⟩ := hm a h3
  exact ⟨_, e1, by unfold sRet; rw [h5]; rfl, hK a, h a e1 h6⟩
theorem s_frz {i : Nat} {τ : Type} {ct ct' : τ → D} [Fz ct ct'] {a : τ} (h : Mt P env) (hi : P[i]? = some (some (ct a))) (h2 : ∀ e, Mt (P.set i (some (ct' a))) e → ES mS e o K Q) : ES (fun env => mS (frzAt i env)) env o K Q := by
  have : frzAt i env = env.set i (some (ct' a)) := by
    unfold frzAt
    rw [h.join hi]
    dsimp only
    rw [Fz.fz (c := ct)]
  show ES (fun env => mS (frzAt i env)) env o K Q
  intro x e
  obtain ⟨fl, e2, h8, h9⟩ := h2 _ (h.set (o := some (ct' a))) x e
  exact ⟨fl, e2, by show mS (frzAt i env) = _; rw [this]; exact h8, h9⟩

section
variable {p : Prop} [Decidable p]
theorem e_dec {b : Bool} (h : mt env = some b) : mt env = some (decide (b = true)) := by
  rw [h]
  cases b <;> rfl
theorem if_go (ht : mt env = some (decide p)) : sIf (liftT mt) mA mB env = if p then mA env else mB env := by
  unfold sIf liftT
  rw [ht, Option.map_some, Option.bind_some]
  by_cases hp : p <;> simp [hp]
theorem s_if (ht : mt env = some (decide p)) (hA : p → ES mA env oa K Q) (hB : ¬p → ES mB env ob K Q) : ES (sIf (liftT mt) mA mB) env (if p then oa else ob) K Q := fun x e => by
  rw [if_go ht]
  by_cases hp : p
  · rw [if_pos hp] at e ⊢; exact hA hp x e
  · rw [if_neg hp] at e ⊢; exact hB hp x e
theorem seq_pass {mS n : SM} {e e1 : Env} {fl : O} (h : mS e = some (fl, e1)) (hf : fl ≠ .nx) : sSeq mS n e = some (fl, e1) := by
  unfold sSeq
  rw [h, Option.bind_some]
  cases fl <;> first | rfl | exact absurd rfl hf
theorem s_ifx (ht : mt env = some (decide p)) (hA : p → ES mA env oa (fun x fl => K x fl ∧ fl ≠ .nx) Q) (hB : ¬p → ES (sSeq mB n) env ob K Q) : ES (sSeq (sIf (liftT mt) mA mB) n) env (if p then oa else ob) K Q := fun x e => by
  by_cases hp : p
  · rw [if_pos hp] at e
    obtain ⟨fl, e1, h1, h2, h3⟩ := hA hp x e
    exact ⟨fl, e1, seq_pass (by rw [if_go ht, if_pos hp]; exact h1) h2.2, h2.1, h3⟩
  · rw [if_neg hp] at e
    obtain ⟨fl, e1, h1, h2, h3⟩ := hB hp x e
    refine ⟨fl, e1, ?_, h2, h3⟩
    unfold sSeq at h1 ⊢
    rw [if_go ht, if_neg hp]; exact h1
theorem s_if2 (ht : mt env = some (decide p)) (hA : p → ES (sSeq mA n) env oa K Q) (hB : ¬p → ES (sSeq mB n) env ob K Q) : ES (sSeq (sIf (liftT mt) mA mB) n) env (if p then oa else ob) K Q := fun x e => by
  by_cases hp : p
  · rw [if_pos hp] at e
    obtain ⟨fl, e1, h1, h2, h3⟩ := hA hp x e
    refine ⟨fl, e1, ?_, h2, h3⟩
    unfold sSeq at h1 ⊢
    rw [if_go ht, if_pos hp]; exact h1
  · rw [if_neg hp] at e
    obtain ⟨fl, e1, h1, h2, h3⟩ := hB hp x e
    refine ⟨fl, e1, ?_, h2, h3⟩
    unfold sSeq at h1 ⊢
    rw [if_go ht, if_neg hp]; exact h1
end
theorem s_sk (h : ES n env o K Q) : ES (sSeq sNx n) env o K Q := h
theorem s_assoc {mC : SM} (h : ES (sSeq mA (sSeq mB mC)) env o K Q) : ES (sSeq (sSeq mA mB) mC) env o K Q := fun x e => by
  obtain ⟨fl, e1, h1, h2⟩ := h x e
  refine ⟨fl, e1, ?_, h2⟩
  unfold sSeq at h1 ⊢
  cases ha : mA env with
  | none => rw [ha] at h1; cases h1
  | some y =>
    rw [ha] at h1
    obtain ⟨f, e2⟩ := y
    cases f <;> first | exact h1 | (rw [← h1]; rfl)

section
variable {τ : Type} {oc : Option τ} {mc : TM} {p : τ → Prop} [DecidablePred p] {Pa : τ → Pat} {fa fb : τ → Option α}
theorem s_ifE (hc : ET mc env oc (fun a => (decide (p a), Pa a))) (hA : ∀ a e, Mt (Pa a) e → p a → ES mA e (fa a) K Q) (hB : ∀ a e, Mt (Pa a) e → ¬p a → ES mB e (fb a) K Q) : ES (sIf mc mA mB) env (oc.bind fun a => if p a then fa a else fb a) K Q := fun x e => by
  obtain ⟨a, h3, h4⟩ := bsome e
  obtain ⟨e1, h5, h6⟩ := hc a h3
  unfold sIf
  rw [h5, Option.bind_some]
  by_cases hp : p a
  · rw [if_pos hp] at h4
    rw [if_pos (decide_eq_true hp)]
    exact hA a e1 h6 hp x h4
  · rw [if_neg hp] at h4
    rw [if_neg (by simpa using hp)]
    exact hB a e1 h6 hp x h4
end


def lpB (cr : ρ → D) : Lp σ ρ → O → Prop
  | .go _, fl => fl = .nx ∨ fl = .ct
  | .br _, fl => fl = .bk
  | .rt r, fl => fl = .rt (cr r)
def lpD (cr : ρ → D) : Lp σ ρ → O → Prop
  | .go _, fl => fl = .nx
  | .br _, fl => fl = .nx
  | .rt r, fl => fl = .rt (cr r)
def lpQ (Pl : σ → Pat) (Pr : ρ → Pat) : Lp σ ρ → Pat
  | .go s => Pl s
  | .br s => Pl s
  | .rt r => Pr r
theorem s_for {g : Tg} {mb : SM} {xs : List α} {s0 : σ} {f : σ → α → Option σ} {Pl : σ → Pat} {Px : σ → α → Pat} (w : mi env = some (xs.map c)) [Pu c] (h : Mt (Pl s0) env) (hb : ∀ s x, BDt g (c x) (Pl s) (Px s x))
    (hs : ∀ s x e, Mt (Px s x) e → ES mb e (f s x) (fun _ fl => fl = .nx ∨ fl = .ct) Pl) : ES (sFor mi g mb) env (forO xs s0 f) (fun _ fl => fl = .nx) Pl := fun y e => by
  unfold sFor
  rw [w, Option.bind_some, if_pos (pureL_cod xs)]
  clear w
  induction xs generalizing s0 env with
  | nil => cases e; exact ⟨.nx, env, rfl, rfl, h⟩
  | cons x xs ih =>
    rw [forO] at e
    obtain ⟨s1, h1, h2⟩ := bsome e
    obtain ⟨e1, g1, g2⟩ := hb s0 x env h
    obtain ⟨fl, e2, g3, g4, g5⟩ := hs s0 x e1 g2 s1 h1
    rw [List.map_cons, forD, g1, Option.bind_some, g3, Option.bind_some]
    rcases g4 with rfl | rfl
    · exact ih g5 h2
    · exact ih g5 h2
theorem s_forR {g : Tg} {mb : SM} {xs : List α} {s0 : σ} {cr : ρ → D} {f : σ → α → Option (Lp σ ρ)} {Pl : σ → Pat} {Pr : ρ → Pat} {Px : σ → α → Pat} (w : mi env = some (xs.map c)) [Pu c] (h : Mt (Pl s0) env) (hb : ∀ s x, BDt g (c x) (Pl s) (Px s x))
    (hs : ∀ s x e, Mt (Px s x) e → ES mb e (f s x) (lpB cr) (lpQ Pl Pr)) : ES (sFor mi g mb) env (forR xs s0 f) (lpD cr) (lpQ Pl Pr) := fun y e => by
  unfold sFor
  rw [w, Option.bind_some, if_pos (pureL_cod xs)]
  clear w
  induction xs generalizing s0 env with
  | nil => cases e; exact ⟨.nx, env, rfl, rfl, h⟩
  | cons x xs ih =>
    rw [forR] at e
    obtain ⟨r, h1, h2⟩ := bsome e
    obtain ⟨e1, g1, g2⟩ := hb s0 x env h
    obtain ⟨fl, e2, g3, g4, g5⟩ := hs s0 x e1 g2 r h1
    rw [List.map_cons, forD, g1, Option.bind_some, g3, Option.bind_some]
    cases r with
    | go s1 =>
      rcases g4 with rfl | rfl
      · exact ih g5 h2
      · exact ih g5 h2
    | br s1 =>
      cases g4
      cases h2
      exact ⟨.nx, e2, rfl, rfl, g5⟩
    | rt v =>
      cases g4
      cases h2
      exact ⟨_, e2, rfl, rfl, g5⟩
theorem s_wh {mb : SM} {s0 : σ} {k : Nat} {cd : σ → Option Bool} {f : σ → Option σ} {Pl : σ → Pat} (h : Mt (Pl s0) env) (hc : ∀ s e, Mt (Pl s) e → EVB mt e (cd s)) (hs : ∀ s e, Mt (Pl s) e → ES mb e (f s) (fun _ fl => fl = .nx ∨ fl = .ct) Pl) :
    ES (whD (liftT mt) mb k) env (whO k s0 cd f) (fun _ fl => fl = .nx) Pl := fun y e => by
  induction k generalizing s0 env with
  | zero => cases e
  | succ k ih =>
    rw [whO] at e
    obtain ⟨b, h1, h2⟩ := bsome e
    rw [whD]
    unfold liftT
    rw [hc s0 env h b h1, Option.map_some, Option.bind_some]
    cases b with
    | true =>
      rw [if_pos rfl] at h2 ⊢
      obtain ⟨s1, h3, h4⟩ := bsome h2
      obtain ⟨fl, e2, g3, g4, g5⟩ := hs s0 env h s1 h3
      rw [g3, Option.bind_some]
      rcases g4 with rfl | rfl
      · exact ih g5 h4
      · exact ih g5 h4
    | false =>
      rw [if_neg (by decide)] at h2
      rw [if_neg (fun z => by cases z)]
      cases h2
      exact ⟨.nx, env, rfl, rfl, h⟩
theorem s_aft {cr : ρ → D} {ol : Option (Lp σ ρ)} {f : σ → Option α} {w : ρ → α} {Pl : σ → Pat} {Pr : ρ → Pat} (h : ES mS env ol (lpD cr) (lpQ Pl Pr)) (h2 : ∀ s e, Mt (Pl s) e → ES n e (f s) K Q) (h3 : ∀ r e, Mt (Pr r) e → Mt (Q (w r)) e) (hK : ∀ r, K (w r) (.rt (cr r))) : ES (sSeq mS n) env (aft ol f fun r => some (w r)) K Q := fun x e => by
  unfold aft at e
  obtain ⟨r, h4, h5⟩ := bsome e
  obtain ⟨fl, e1, h6, h7, h8⟩ := h r h4
  cases r with
  | go s =>
    cases h7
    obtain ⟨fl, e2, h9, h10⟩ := h2 s e1 h8 x h5
    exact ⟨fl, e2, by unfold sSeq; rw [h6]; exact h9, h10⟩
  | br s =>
    cases h7
    obtain ⟨fl, e2, h9, h10⟩ := h2 s e1 h8 x h5
    exact ⟨fl, e2, by unfold sSeq; rw [h6]; exact h9, h10⟩
  | rt v =>
    cases h7
    cases h5
    exact ⟨_, e1, by unfold sSeq; rw [h6]; rfl, hK v, h3 v e1 h8⟩


class Nx (c : α → D) : Prop where
  nx : ∀ x, (c x).isx = false
instance : Nx cI := ⟨fun _ => rfl⟩
instance : Nx cB := ⟨fun _ => rfl⟩
instance : Nx cU := ⟨fun _ => rfl⟩
instance {o : Fl} {c : α → D} : Nx (cL o c) := ⟨fun _ => rfl⟩
instance {k : α → List D} : Nx (cT k) := ⟨fun _ => rfl⟩
instance {o : Fl} {k : α → List D} : Nx (cR o k) := ⟨fun _ => rfl⟩
instance {c : α → D} [Nx c] : Nx (cO c) := ⟨fun x => by cases x <;> first | rfl | exact Nx.nx (c := c) _⟩
def fnK (c : α → D) (x : α) : O → Prop
  | .rt d => d = c x
  | .nx => c x = .s .non
  | _ => False
theorem run_p [Nx c] {k : Nat} {ds : List D} (h : ES mS (initD k ds) o (fnK c) Q) : ∀ x, o = some x → runP k mS ds = some (c x) := fun x e => by
  obtain ⟨fl, e1, h1, h2, h3⟩ := h x e
  unfold runP
  rw [h1, Option.bind_some]
  cases fl with
  | rt d => cases h2; dsimp only; rw [Nx.nx (c := c)]; rfl
  | nx =>
    have h2 : c x = .s .non := h2
    show some (D.s .non) = _
    rw [h2]
  | bk => exact h2.elim
  | ct => exact h2.elim
theorem pick_mt : ∀ {mu : List Nat} {P : Pat} {e : Env} {os : List D}, Mt P e → pickD mu P = some os → pickD mu e = some os
  | [], _, _, _, _, h => h
  | i :: is, P, e, os, hm, h => by
    unfold pickD at h ⊢
    obtain ⟨d, h1, h2⟩ := bind_some h
    have hi : P[i]? = some (some d) := by
      cases q : P[i]? with
      | none => rw [q] at h1; cases h1
      | some z => rw [q] at h1; cases z with
        | none => cases h1
        | some z => cases h1; rfl
    rw [hm.join hi, Option.bind_some]
    cases q : pickD is (P.set i none) with
    | none => rw [q] at h2; cases h2
    | some zs =>
      rw [q] at h2
      rw [pick_mt (hm.set (i := i) (o := none)) q]; exact h2
theorem run_m {k : Nat} {mu : List Nat} {ds : List D} {os : α → List D} (h : ES mS (initD k ds) o (fnK c) Q) (hp : ∀ x, pickD mu (Q x) = some (os x)) (hx : ∀ x, (c x).isx = false := by intro x; first | rfl | exact Nx.nx _) : ∀ x, o = some x → runM k mu mS ds = some (c x, os x) := fun x e => by
  obtain ⟨fl, e1, h1, h2, h3⟩ := h x e
  unfold runM
  rw [h1, Option.bind_some]
  have q := pick_mt h3 (hp x)
  cases fl with
  | rt d =>
    cases h2
    dsimp only
    rw [hx, q]; rfl
  | nx =>
    have h2 : c x = .s .non := h2
    dsimp only
    rw [q, h2]; rfl
  | bk => exact h2.elim
  | ct => exact h2.elim
end
end Ow

namespace Ow
open PySem L2 Ty
section
variable {α β γ σ ρ ζ τ : Type} {env : Env} {P P1 P2 : Pat} {ma mb m : PM} {mt mu : BM} {ml mi : LM} {c c' : α → D} {cz : ζ → D} {d : D} {v : V}
variable {K : β → O → Prop} {Q : β → Pat} {n mS : SM} {me m1 m2 : EM} {i : Nat} {pm : Env → Option (List Nat)} {x : α} {up : ζ → α}

theorem ES.bindE {oa : Option τ} {o : τ → Option β} {ms : SM} (f : ∀ a, oa = some a → ES ms env (o a) K Q) : ES ms env (oa.bind o) K Q := fun x e => by
  obtain ⟨a, h1, h2⟩ := bsome e
  exact f a h1 x h2
theorem EE.bindE {oa : Option τ} {o : τ → Option β} {k : β → D × Pat} (f : ∀ a, oa = some a → EE me env (o a) k) : EE me env (oa.bind o) k := fun x e => by
  obtain ⟨a, h1, h2⟩ := bsome e
  exact f a h1 x h2

structure PLs (pm : Env → Option (List Nat)) (env : Env) (i : Nat) (x : α) (c : α → D) (z : ζ) (cz : ζ → D) (up : ζ → α) : Prop where
  ex : ∃ p, pm env = some p ∧ atD p (c x) = some (cz z) ∧ ∀ (F : List D → Option (List D)) (ds ds' : List D) (z' : ζ), cz z = .n (.lst .o) ds → F ds = some ds' → cz z' = .n (.lst .o) ds' → modD p F (c x) = some (c (up z'))
  sl : env[i]?.join = some (c x)
theorem pl_name (h : Mt P env) (e : P[i]? = some (some (c x))) : PLs (plName i) env i x c x c id := by
  refine ⟨⟨[], by unfold plName; rw [h.join e]; rfl, rfl, fun F ds ds' z' h1 h2 h3 => ?_⟩, h.join e⟩
  rw [h1, modD, h2, Option.map_some]
  show some _ = some (c z')
  rw [h3]
theorem modD_snoc : ∀ (p : List Nat) (j : Nat) (F : List D → Option (List D)) (d : D) (ds : List D) (x y : D), atD p d = some (.n (.lst .o) ds) → ds[j]? = some x → modD [] F x = some y → modD (p ++ [j]) F d = modD p (fun ds => some (ds.set j y)) d
  | [], j, F, d, ds, x, y, h1, h2, h3 => by
    cases h1
    show modD [j] F _ = modD [] _ _
    simp only [modD, h2, h3, Option.bind_some, Option.map_some]
  | k :: p, j, F, d, ds, x, y, h1, h2, h3 => by
    unfold atD at h1
    obtain ⟨u, h4, h5⟩ := bind_some h1
    have ih := modD_snoc p j F u ds x y h5 h2 h3
    cases d with
    | s v => simp [D.kids] at h4
    | n k' es =>
      have h6 : es[k]? = some u := h4
      clear h1 h4
      show modD (k :: (p ++ [j])) F _ = _
      cases k' with
      | lst o => cases o <;> simp only [modD, h6, ih, Option.bind_some]
      | tup => simp only [modD, h6, ih, Option.bind_some]
      | ktp => simp only [modD]
      | dic o ks => simp only [modD]
      | dct o ks => simp only [modD]
theorem atD_sn : ∀ (p : List Nat) (j : Nat) (d : D) (e : D) (x : D), atD p d = some e → e.kids[j]? = some x → atD (p ++ [j]) d = some x
  | [], j, d, e, x, h1, h2 => by
    cases h1
    show atD [j] _ = _
    rw [atD, h2]; rfl
  | k :: p, j, d, e, x, h1, h2 => by
    unfold atD at h1
    obtain ⟨u, h4, h5⟩ := bind_some h1
    show atD (k :: (p ++ [j])) d = _
    rw [atD, h4, Option.bind_some, atD_sn p j u e x h5 h2]
theorem idx_ix {xs : List ζ} {k : Int} {z : ζ} (h : idx xs k = some z) : ∃ j, ixN xs.length k = some j ∧ xs[j]? = some z := by
  rw [← atI_idx] at h
  unfold atI at h
  exact bind_some h
theorem setI_ix {xs : List ζ} {k : Int} {j : Nat} {z : ζ} (h : ixN xs.length k = some j) : setI xs k z = xs.set j z := by
  unfold setI
  rw [← ixN_Z, h]; rfl
theorem pl_item {xs : List ζ} {k : Int} {z : ζ} {up : List ζ → α} (h : PLs pm env i x c xs (cL .o cz) up) (hk : mb env = some (cI k)) (hz : idx xs k = some z) : PLs (plItem i pm mb) env i x c z cz fun z' => up (setI xs k z') := by
  obtain ⟨⟨p, h1, h2, h3⟩, hs⟩ := h
  obtain ⟨j, h4, h5⟩ := idx_ix hz
  have h6 : (xs.map cz)[j]? = some (cz z) := by rw [List.getElem?_map, h5]; rfl
  refine ⟨⟨p ++ [j], ?_, atD_sn p j _ _ _ h2 h6, fun F ds ds' z' g1 g2 g3 => ?_⟩, hs⟩
  · unfold plItem
    rw [h1, Option.bind_some, hk, Option.bind_some]
    show Option.bind (some k) _ = _
    rw [Option.bind_some, hs, Option.bind_some, h2, Option.bind_some]
    show Option.map _ (ixN (xs.map cz).length k) = _
    rw [List.length_map, h4]; rfl
  · have h7 : modD [] F (cz z) = some (cz z') := by rw [g1, modD, g2, g3]; rfl
    rw [modD_snoc p j F (c x) (xs.map cz) (cz z) (cz z') h2 h6 h7]
    exact h3 _ (xs.map cz) ((xs.map cz).set j (cz z')) (setI xs k z') rfl rfl (by rw [setI_ix h4, cL, List.map_set])
theorem s_app {xs : List ζ} {y : ζ} {o : List ζ → Option β} {up : List ζ → α} (h : PLs pm env i x c xs (cL .o cz) up) (hy : m env = some (cz y)) (hm : Mt P env) (h2 : ∀ z e, Mt (P.set i (some (c (up z)))) e → ES n e (o z) K Q) : ES (sSeq (sApp i pm (lift m)) n) env ((app xs y).bind o) K Q := ES.bindE fun z e => by
  unfold app at e
  split at e
  · rename_i hl
    cases e
    obtain ⟨⟨p, g1, g2, g3⟩, hs⟩ := h
    have g4 := g3 (fun ds => if ds.length < 16777216 then some (ds ++ [cz y]) else none) (xs.map cz) ((xs ++ [y]).map cz) (xs ++ [y]) rfl (by rw [List.length_map, if_pos hl, List.map_append]; rfl) rfl
    intro w hw
    obtain ⟨fl, e2, q1, q2⟩ := h2 _ _ (hm.set (i := i) (o := some (c (up (xs ++ [y]))))) w hw
    refine ⟨fl, e2, ?_, q2⟩
    unfold sSeq sApp lift
    rw [g1, Option.bind_some, hy, Option.map_some, Option.bind_some, hs, Option.bind_some]
    dsimp only
    rw [g4]; exact q1
  · cases e
theorem s_appE {xs : List ζ} {oy : Option τ} {y : τ → ζ} {Py : τ → Pat} {o : τ → List ζ → Option β} {up : List ζ → α} (h : PLs pm env i x c xs (cL .o cz) up) (hy : EE me env oy (fun a => (cz (y a), Py a))) (h2 : ∀ a z e, Mt ((Py a).set i (some (c (up z)))) e → ES n e (o a z) K Q) : ES (sSeq (sApp i pm me) n) env (oy.bind fun a => (app xs (y a)).bind (o a)) K Q := ES.bindE fun a ha => ES.bindE fun z e => by
  unfold app at e
  split at e
  · rename_i hl
    cases e
    obtain ⟨⟨p, g1, g2, g3⟩, hs⟩ := h
    obtain ⟨e1, f1, f2⟩ := hy a ha
    have g4 := g3 (fun ds => if ds.length < 16777216 then some (ds ++ [cz (y a)]) else none) (xs.map cz) ((xs ++ [y a]).map cz) (xs ++ [y a]) rfl (by rw [List.length_map, if_pos hl, List.map_append]; rfl) rfl
    intro w hw
    obtain ⟨fl, e2, q1, q2⟩ := h2 a _ _ (f2.set (i := i) (o := some (c (up (xs ++ [y a]))))) w hw
    refine ⟨fl, e2, ?_, q2⟩
    unfold sSeq sApp
    rw [g1, Option.bind_some, f1, Option.bind_some, hs, Option.bind_some]
    dsimp only
    rw [g4]; exact q1
  · cases e
theorem s_put {xs : List ζ} {y : ζ} {k : Int} {o : List ζ → Option β} {up : List ζ → α} (hy : m env = some (cz y)) (h : PLs pm env i x c xs (cL .o cz) up) (hk : mb env = some (cI k)) (hm : Mt P env) (h2 : ∀ z e, Mt (P.set i (some (c (up z)))) e → ES n e (o z) K Q) : ES (sSeq (sPut i pm mb (lift m)) n) env ((putI xs k y).bind o) K Q := ES.bindE fun z e => by
  unfold putI at e
  rw [← ixN_Z] at e
  cases hj : ixN xs.length k with
  | none => rw [hj] at e; cases e
  | some j =>
    rw [hj] at e
    cases e
    obtain ⟨⟨p, g1, g2, g3⟩, hs⟩ := h
    have g4 := g3 (fun ds => (ixN ds.length k).map fun j => ds.set j (cz y)) (xs.map cz) ((xs.map cz).set j (cz y)) (xs.set j y) rfl (by rw [List.length_map, hj]; rfl) (by rw [cL, List.map_set])
    intro w hw
    obtain ⟨fl, e2, q1, q2⟩ := h2 _ _ (hm.set (i := i) (o := some (c (up (xs.set j y))))) w hw
    refine ⟨fl, e2, ?_, q2⟩
    unfold sSeq sPut lift
    rw [hy, Option.map_some, Option.bind_some, g1, Option.bind_some, hk, Option.bind_some]
    show Option.bind (Option.bind (some k) _) _ = _
    rw [Option.bind_some, hs, Option.bind_some]
    dsimp only
    rw [g4]; exact q1
theorem s_putR {y : D} {k : Int} {ds ds' : List D} {x' : α} {o : Option β} (hy : m env = some y) (hm : Mt P env) (e : P[i]? = some (some (c x))) (hk : mb env = some (cI k)) (hd : c x = .n (.lst .o) ds) (hd' : ((ixN ds.length k).map fun j => ds.set j y) = some ds') (hx : c x' = .n (.lst .o) ds') (h2 : ∀ e, Mt (P.set i (some (c x'))) e → ES n e o K Q) : ES (sSeq (sPut i (plName i) mb (lift m)) n) env o K Q := fun w hw => by
  obtain ⟨fl, e2, q1, q2⟩ := h2 _ (hm.set (i := i) (o := some (c x'))) w hw
  refine ⟨fl, e2, ?_, q2⟩
  unfold sSeq sPut lift plName
  rw [hy, Option.map_some, Option.bind_some, hm.join e, Option.map_some, Option.bind_some, hk, Option.bind_some]
  show Option.bind (Option.bind (some (c x)) fun d => _) _ = _
  rw [Option.bind_some, hd]
  simp only [modD, hd', Option.map_some, Option.bind_some]
  rw [← hx]
  exact q1

theorem ee_move (hm : Mt P env) (e : P[i]? = some (some d)) : EE (eMove i) env (some ()) (fun _ => (d, P.set i none)) := fun x _ => ⟨_, by unfold eMove; rw [hm.join e]; rfl, hm.set⟩
theorem s_retM {w : β} (hm : Mt P env) (e : P[i]? = some (some d)) (h : ∀ e, Mt (P.set i none) e → Mt (Q w) e) (hK : K w (.rt d)) : ES (sRet (eMove i)) env (some w) K Q := fun x hx => by
  cases hx
  exact ⟨_, _, by unfold sRet eMove; rw [hm.join e]; rfl, hK, h _ hm.set⟩
theorem s_appM {xs : List ζ} {j : Nat} {y : ζ} {o : List ζ → Option β} {up : List ζ → α} (h : PLs pm env i x c xs (cL .o cz) up) (hm : Mt P env) (e : P[j]? = some (some (cz y))) (h2 : ∀ z e, Mt ((P.set j none).set i (some (c (up z)))) e → ES n e (o z) K Q) : ES (sSeq (sApp i pm (eMove j)) n) env ((app xs y).bind o) K Q := by
  have := s_appE (o := fun _ z => o z) (n := n) (K := K) (Q := Q) (cz := cz) (y := fun _ : Unit => y) h (ee_move hm e) (fun _ z e => h2 z e)
  exact this
theorem ee_opL {f : D → D → Option V} {oa : Option α} {da : α → D} {Pa : α → Pat} {db : α → D} {w : α → V} (ha : EE m1 env oa (fun a => (da a, Pa a))) (hb : ∀ a e, Mt (Pa a) e → mb e = some (db a)) (hf : ∀ a, f (da a) (db a) = some (w a)) (hs : ∀ a, scl (w a) = true) :
    EE (eOp2 f m1 (lift mb)) env oa (fun a => (.s (w a), Pa a)) := fun a h1 => by
  obtain ⟨e1, h3, h4⟩ := ha a h1
  refine ⟨e1, ?_, h4⟩
  unfold eOp2 lift
  rw [h3, Option.bind_some, hb a e1 h4, Option.map_some, Option.bind_some, hf a, Option.bind_some]
  show Option.map _ (if _ then _ else _) = _
  rw [if_pos (hs a)]; rfl
theorem ee_opR {f : D → D → Option V} {ob : Option γ} {da : D} {db : γ → D} {Pb : γ → Pat} {w : γ → V} (ha : ma env = some da) (hb : EE m2 env ob (fun b => (db b, Pb b))) (hf : ∀ b, f da (db b) = some (w b)) (hs : ∀ b, scl (w b) = true) :
    EE (eOp2 f (lift ma) m2) env ob (fun b => (.s (w b), Pb b)) := fun b h1 => by
  obtain ⟨e1, h3, h4⟩ := hb b h1
  refine ⟨e1, ?_, h4⟩
  unfold eOp2 lift
  rw [ha, Option.map_some, Option.bind_some, h3, Option.bind_some, hf b, Option.bind_some]
  show Option.map _ (if _ then _ else _) = _
  rw [if_pos (hs b)]; rfl
theorem ee_itemR {xs : List α} {o : Fl} {ob : Option γ} {k : γ → Int} {Pb : γ → Pat} [Pu c] (ha : ma env = some (cL o c xs)) (hb : EE m2 env ob (fun b => (cI (k b), Pb b))) :
    EE (eItem (lift ma) m2) env (ob.bind fun b => (idx xs (k b)).bind fun z => some (b, z)) (fun x => (c x.2, Pb x.1)) := EE.bindE fun b h1 => EE.bindE fun z h2 => fun x e => by
  cases e
  obtain ⟨e1, h3, h4⟩ := hb b h1
  refine ⟨e1, ?_, h4⟩
  unfold eItem lift
  rw [ha, Option.map_some, Option.bind_some, h3, Option.bind_some]
  have : fItem (cL o c xs) (cI (k b)) = some (c z) := by
    show atI (xs.map c) (k b) = _
    rw [atI_map, atI_idx, h2]; rfl
  rw [this, Option.bind_some, if_pos (Pu.pu z)]
theorem ee_sorted {oa : Option γ} {o : Fl} {xs : γ → List Int} {Pa : γ → Pat} (ha : EE me env oa (fun a => (cL o cI (xs a), Pa a))) : EE (eSorted me) env oa (fun a => (cL .o cI (Ty.srt (xs a)), Pa a)) := fun a h1 => by
  obtain ⟨e1, h3, h4⟩ := ha a h1
  refine ⟨e1, ?_, h4⟩
  unfold eSorted
  rw [h3, Option.bind_some]
  have : fSorted [cL o cI (xs a)] = some ((srt (xs a)).map cI) := by
    rw [fSorted, li_cod]; rfl
  dsimp only
  rw [this]; rfl
theorem et_B {oa : Option γ} {b : γ → Bool} {Pa : γ → Pat} (ha : EE me env oa (fun a => (cB (b a), Pa a))) : ET (eB me) env oa (fun a => (b a, Pa a)) := fun a h1 => by
  obtain ⟨e1, h3, h4⟩ := ha a h1
  exact ⟨e1, by unfold eB; rw [h3]; rfl, h4⟩

def EA (as : List As) (env : Env) (o : Option γ) (k : γ → List D × Pat) : Prop := ∀ x, o = some x → ∃ e, evA as env = some ((k x).1, e) ∧ Mt (k x).2 e
theorem ea_nil (h : Mt P env) : EA [] env (some ()) (fun _ => ([], P)) := fun x _ => ⟨env, rfl, h⟩
theorem ea_bor {as : List As} {o : Option γ} {k : γ → List D × Pat} (h : EA as env o k) : EA (.bor i :: as) env o k := fun x e => h x e
theorem ea_mv {as : List As} {o : Option γ} {k : γ → List D × Pat} (h : EA as env o k) : EA (.mv i :: as) env o k := fun x e => h x e
theorem ea_ev {as : List As} {o : Option γ} {ds : γ → List D} {Pa : γ → Pat} (hm : m env = some d) (h : EA as env o (fun a => (ds a, Pa a))) : EA (.ev (lift m) :: as) env o (fun a => (d :: ds a, Pa a)) := fun x e => by
  obtain ⟨e1, h1, h2⟩ := h x e
  exact ⟨e1, by unfold evA lift; rw [hm, Option.map_some, Option.bind_some, h1]; rfl, h2⟩
theorem ea_evE {as : List As} {oa : Option γ} {da : γ → D} {Pa : γ → Pat} {ds : γ → List D} (hm : EE me env oa (fun a => (da a, Pa a))) (h : ∀ a e, Mt (Pa a) e → EA as e (some ()) (fun _ => (ds a, Pa a))) : EA (.ev me :: as) env oa (fun a => (da a :: ds a, Pa a)) := fun x e => by
  obtain ⟨e1, h1, h2⟩ := hm x e
  obtain ⟨e2, h3, h4⟩ := h x e1 h2 () rfl
  exact ⟨e2, by unfold evA; rw [h1, Option.bind_some, h3]; rfl, h4⟩
theorem getj {P : Pat} {i : Nat} (h : P[i]?.join = some d) : P[i]? = some (some d) := by
  cases q : P[i]? with
  | none => rw [q] at h; cases h
  | some z => rw [q] at h; cases z with
    | none => cases h
    | some z => cases h; rfl
theorem ins_mt : ∀ {as : List As} {ds : List D} {P P' : Pat} {e : Env} {is : List D}, Mt P e → insA as ds P = some (is, P') → ∃ e', insA as ds e = some (is, e') ∧ Mt P' e'
  | [], _, P, P', e, is, h, q => by
    cases q
    exact ⟨e, rfl, h⟩
  | .ev m :: r, [], P, P', e, is, h, q => by simp at q
  | .tm m :: r, [], P, P', e, is, h, q => by simp at q
  | .ev m :: r, d :: ds, P, P', e, is, h, q => by
    unfold insA at q ⊢
    cases z : insA r ds P with
    | none => rw [z] at q; cases q
    | some y =>
      rw [z] at q
      cases q
      obtain ⟨e', h1, h2⟩ := ins_mt (as := r) h z
      exact ⟨e', by rw [h1]; rfl, h2⟩
  | .tm m :: r, d :: ds, P, P', e, is, h, q => by
    unfold insA at q ⊢
    cases z : insA r ds P with
    | none => rw [z] at q; cases q
    | some y =>
      rw [z] at q
      cases q
      obtain ⟨e', h1, h2⟩ := ins_mt (as := r) h z
      exact ⟨e', by rw [h1]; rfl, h2⟩
  | .bor i :: r, ds, P, P', e, is, h, q => by
    unfold insA at q ⊢
    obtain ⟨d, h1, q⟩ := bind_some q
    rw [h.join (getj h1), Option.bind_some]
    cases z : insA r ds P with
    | none => rw [z] at q; cases q
    | some y =>
      rw [z] at q
      cases q
      obtain ⟨e', h1, h2⟩ := ins_mt (as := r) h z
      exact ⟨e', by rw [h1]; rfl, h2⟩
  | .mv i :: r, ds, P, P', e, is, h, q => by
    unfold insA at q ⊢
    obtain ⟨d, h1, q⟩ := bind_some q
    rw [h.join (getj h1), Option.bind_some]
    cases z : insA r ds (P.set i none) with
    | none => rw [z] at q; cases q
    | some y =>
      rw [z] at q
      cases q
      obtain ⟨e', h1, h2⟩ := ins_mt (as := r) (h.set (i := i) (o := none)) z
      exact ⟨e', by rw [h1]; rfl, h2⟩
theorem put_mt : ∀ {as : List As} {os : List D} {P P' : Pat} {e : Env}, Mt P e → putA as os P = some P' → ∃ e', putA as os e = some e' ∧ Mt P' e'
  | [], [], P, P', e, h, q => by
    cases q
    exact ⟨e, rfl, h⟩
  | [], _ :: _, _, _, _, _, q => by simp at q
  | .ev m :: r, os, P, P', e, h, q => by
    unfold putA at q ⊢
    exact put_mt (as := r) h q
  | .bor i :: r, os, P, P', e, h, q => by
    unfold putA at q ⊢
    exact put_mt (as := r) h q
  | .mv i :: r, [], P, P', e, h, q => by simp at q
  | .tm m :: r, [], P, P', e, h, q => by simp at q
  | .mv i :: r, o :: os, P, P', e, h, q => by
    unfold putA at q ⊢
    exact put_mt (as := r) (h.set (i := i) (o := some o)) q
  | .tm m :: r, o :: os, P, P', e, h, q => by
    unfold putA at q ⊢
    exact put_mt (as := r) h q
theorem all_mt {is : List Nat} (h : Mt P env) (q : (is.all fun i => (P[i]?.join).isSome) = true) : (is.all fun i => (env[i]?.join).isSome) = true := by
  rw [List.all_eq_true] at q ⊢
  intro j hj
  have := q j hj
  cases z : P[j]?.join with
  | none => rw [z] at this; cases this
  | some d => rw [h.join (getj z)]; rfl
theorem ee_call {f : FMu} {as : List As} {oa : Option τ} {ds : τ → List D} {Pa : τ → Pat} {is : τ → List D} {Pi : τ → Pat} {t : τ → Option ρ} {dr : ρ → D} {os : ρ → List D} {Pf : ρ → Pat} (hm : Mt P env) (hs : ((muS as ++ boS as).all fun i => (P[i]?.join).isSome) = true) (ha : EA as env oa (fun a => (ds a, Pa a)))
    (hi : ∀ a, insA as (ds a) (Pa a) = some (is a, Pi a)) (hf : ∀ a r, t a = some r → f (is a) = some (dr r, os r)) (hn : ∀ r, ((dr r).noF && noFL (os r)) = true) (hp : ∀ a r, putA as (os r) (Pi a) = some (Pf r)) : EE (eCallM f as) env (oa.bind t) (fun r => (dr r, Pf r)) := EE.bindE fun a h1 => fun r h2 => by
  obtain ⟨e1, h3, h4⟩ := ha a h1
  obtain ⟨e2, h5, h6⟩ := ins_mt h4 (hi a)
  obtain ⟨e3, h7, h8⟩ := put_mt h6 (hp a r)
  refine ⟨e3, ?_, h8⟩
  unfold eCallM
  rw [all_mt hm hs, if_neg (fun z => by cases z), h3, Option.bind_some]
  dsimp only
  rw [h5, Option.bind_some]
  dsimp only
  rw [hf a r h2, Option.bind_some]
  dsimp only
  rw [if_pos (hn r), h7]; rfl
theorem ee_call0 {f : FMu} {as : List As} {ds : List D} {is : List D} {Pi : Pat} {t : Option ρ} {dr : ρ → D} {os : ρ → List D} {Pf : ρ → Pat} (hm : Mt P env) (hs : ((muS as ++ boS as).all fun i => (P[i]?.join).isSome) = true) (ha : EA as env (some ()) (fun _ => (ds, P)))
    (hi : insA as ds P = some (is, Pi)) (hf : ∀ r, t = some r → f is = some (dr r, os r)) (hn : ∀ r, ((dr r).noF && noFL (os r)) = true) (hp : ∀ r, putA as (os r) Pi = some (Pf r)) : EE (eCallM f as) env t (fun r => (dr r, Pf r)) :=
  ee_call (t := fun _ : Unit => t) (ds := fun _ => ds) (Pa := fun _ => P) (is := fun _ => is) (Pi := fun _ => Pi) hm hs ha (fun _ => hi) (fun _ => hf) hn (fun _ => hp)



section
variable {κ ν : Type} [DecidableEq κ]
def cD (o : Fl) (ck : κ → Key) (cv : ν → V) (kvs : List (κ × ν)) : D := dicD o (kvs.map fun e => (ck e.1, cv e.2))
def ckI (x : Int) : Key := .inl x
def ckS (x : Str) : Key := .inr x
def cvI (x : Int) : V := .int x
def cvB (x : Bool) : V := .bl x
class CK (ck : κ → Key) : Prop where
  inj : ∀ a b, ck a = ck b → a = b
class CV (cv : ν → V) : Prop where
  sc : ∀ x, scl (cv x) = true
instance : CK ckI := ⟨fun a b h => by cases h; rfl⟩
instance : CK ckS := ⟨fun a b h => by cases h; rfl⟩
instance : CV cvI := ⟨fun _ => rfl⟩
instance : CV cvB := ⟨fun _ => rfl⟩
variable {ck : κ → Key} {cv : ν → V} {kvs : List (κ × ν)} {k : κ} {w : ν} {o : Fl} {dk : D}
theorem valV_cod [CK ck] (kvs : List (κ × ν)) (k : κ) : valV (kvs.map fun e => (ck e.1, cv e.2)) (ck k) = (dget kvs k).map cv := dget_map (f := ck) (g := cv) CK.inj kvs k
theorem sclD_cod [CV cv] : ∀ kvs : List (κ × ν), sclD (kvs.map fun e => D.s (cv e.2)) = some (kvs.map fun e => cv e.2)
  | [] => rfl
  | e :: kvs => by rw [List.map_cons, sclD, if_pos (CV.sc e.2), sclD_cod kvs]; rfl
theorem dicP_cod [CV cv] (hn : nw o = true) (kvs : List (κ × ν)) : dicP (cD o ck cv kvs) = some (kvs.map fun e => (ck e.1, cv e.2)) := by
  unfold cD dicD dicP
  dsimp only
  rw [List.map_map, List.map_map, if_pos (by rw [hn, List.length_map, List.length_map]; simp)]
  rw [show (kvs.map ((fun p : Key × V => D.s p.2) ∘ fun e => (ck e.1, cv e.2))) = kvs.map fun e => D.s (cv e.2) from rfl, sclD_cod, Option.map_some]
  congr 1
  clear hn
  induction kvs with
  | nil => rfl
  | cons e r ih => rw [List.map_cons, List.map_cons, List.map_cons, List.zip_cons_cons, ih]; rfl
theorem e_din [CK ck] [CV cv] (h1 : ma env = some dk) (h2 : mb env = some (cD o ck cv kvs)) (hk : keyD dk = some (ck k)) (hn : nw o = true := by rfl) : mDin ma mb env = some (decide (dhas kvs k = true)) := by
  unfold mDin
  rw [h1, Option.bind_some, h2, Option.bind_some, hk, Option.bind_some, dicP_cod hn, Option.map_some, valV_cod, Option.isSome_map, ← dhas_get]
  cases dhas kvs k <;> rfl
theorem putK_cod [CK ck] (kvs : List (κ × ν)) (k : κ) (v : ν) : putK (kvs.map fun e => (ck e.1, cv e.2)) (ck k) (cv v) = (dput kvs k v).map fun e => (ck e.1, cv e.2) := by
  unfold putK dput
  have h1 : ((kvs.map fun e => (ck e.1, cv e.2)).any fun kv => decide (kv.1 = ck k)) = dhas kvs k := by
    unfold dhas
    rw [List.any_map]
    congr 1
    funext e
    show decide (ck e.1 = ck k) = decide (e.1 = k)
    rw [Bool.eq_iff_iff, decide_eq_true_iff, decide_eq_true_iff]
    exact ⟨CK.inj _ _, fun h => by rw [h]⟩
  rw [h1]
  split
  · rw [List.map_map, List.map_map]
    apply List.map_congr_left
    intro e _
    show (if ck e.1 = ck k then (ck e.1, cv v) else (ck e.1, cv e.2)) = (fun e => (ck e.1, cv e.2)) (if e.1 = k then (e.1, v) else e)
    by_cases h : e.1 = k
    · rw [if_pos h, if_pos (by rw [h])]
    · rw [if_neg h, if_neg (fun z => h (CK.inj _ _ z))]
  · rw [List.map_append]; rfl
theorem dropK_cod [CK ck] (kvs : List (κ × ν)) (k : κ) : dropK (kvs.map fun e => (ck e.1, cv e.2)) (ck k) = (ddel kvs k).map fun e => (ck e.1, cv e.2) := by
  unfold dropK ddel
  rw [List.filter_map]
  congr 1
  apply List.filter_congr
  intro e _
  show decide (ck e.1 ≠ ck k) = decide (e.1 ≠ k)
  rw [Bool.eq_iff_iff, decide_eq_true_iff, decide_eq_true_iff]
  exact ⟨fun h z => h (by rw [z]), fun h z => h (CK.inj _ _ z)⟩
theorem dicO_cod [CV cv] (kvs : List (κ × ν)) : dicO (cD .o ck cv kvs) = some (kvs.map fun e => (ck e.1, cv e.2)) := dicP_cod (o := .o) rfl kvs
theorem s_ddel [CK ck] [CV cv] {oo : List (κ × ν) → Option β} (hm : Mt P env) (e : P[i]? = some (some (cD .o ck cv kvs))) (h1 : ma env = some dk) (hk : keyD dk = some (ck k)) (h2 : ∀ z e, Mt (P.set i (some (cD .o ck cv z))) e → ES n e (oo z) K Q) : ES (sSeq (sDdel i ma) n) env ((ddelO kvs k).bind oo) K Q := ES.bindE fun z hz => by
  unfold ddelO at hz
  split at hz
  · rename_i hl
    cases hz
    intro y hy
    obtain ⟨fl, e2, q1, q2⟩ := h2 _ _ (hm.set (i := i) (o := some (cD .o ck cv (ddel kvs k)))) y hy
    refine ⟨fl, e2, ?_, q2⟩
    unfold sSeq sDdel
    rw [hm.join e, Option.bind_some, h1, Option.bind_some, hk, Option.bind_some, dicO_cod, Option.bind_some, if_pos (by rw [valV_cod, Option.isSome_map, ← dhas_get]; exact hl), dropK_cod]; exact q1
  · cases hz
theorem v_dc [CK ck] [CV cv] {g : Tg} {mx mv : PM} {vs : List Nat} {xs : List α} {p : α → Option Bool} {f : α → Option (κ × ν)} {Px : α → Pat} {dx : κ → D} (w : mi env = some (xs.map c)) (h : Mt P env) (hb : ∀ x, BDt g (c x) (wipeD P vs) (Px x)) (ht : ∀ x e, Mt (Px x) e → EVB mt e (p x)) (hk : ∀ k, keyD (dx k) = some (ck k))
    (he : ∀ x e r, Mt (Px x) e → f x = some r → mx e = some (dx r.1) ∧ mv e = some (.s (cv r.2))) : EV (mDc mi g mt mx mv vs) env (dcp xs p f) (cD .o ck cv) := fun x e => by
  unfold dcp at e
  split at e
  · rename_i hl
    unfold mDc
    rw [w, Option.bind_some, if_pos (by rw [List.length_map]; exact hl)]
    have : ∀ (xs : List α) (m r : List (κ × ν)), dcO p f xs m = some r → dcD g mt mx mv (wipeD env vs) (xs.map c) (m.map fun e => (ck e.1, cv e.2)) = some (r.map fun e => (ck e.1, cv e.2)) := fun xs => by
      induction xs with
      | nil => intro m r hy; cases hy; rfl
      | cons x xs ih =>
        intro m r hy
        rw [dcO] at hy
        obtain ⟨b, hb1, hy⟩ := bsome hy
        obtain ⟨e1, g1, g2⟩ := hb x _ h.wipe
        rw [List.map_cons, dcD, g1, Option.bind_some, ht x e1 g2 b hb1, Option.bind_some]
        cases b with
        | true =>
          rw [if_pos rfl] at hy
          obtain ⟨y, hy1, hy⟩ := bsome hy
          obtain ⟨q1, q2⟩ := he x e1 y g2 hy1
          rw [if_pos rfl, q1, Option.bind_some, hk, Option.bind_some, q2, Option.bind_some]
          show Option.bind (if _ then _ else _) _ = _
          rw [if_pos (CV.sc y.2), Option.bind_some, putK_cod]
          exact ih _ r hy
        | false =>
          rw [if_neg (by decide)] at hy
          rw [if_neg (by decide)]
          exact ih m r hy
    have := this xs [] x e
    rw [List.map_nil] at this
    rw [this]; rfl
  · cases e
end
end
end Ow

namespace Ow
open PySem L2 Ty
theorem le_nil : Le [] [] := trivial
theorem le_none {p : Option D} {P P' : Pat} (h : Le P P') : Le (p :: P) (none :: P') := h
theorem le_some {d : D} {P P' : Pat} (h : Le P P') : Le (some d :: P) (some d :: P') := ⟨rfl, h⟩
theorem fz_nil : frzD [] = [] := rfl
theorem fz_cons {α : Type} {c c' : α → D} [Fz c c'] {x : α} {ds ds' : List D} (h : frzD ds = ds') : frzD (c x :: ds) = c' x :: ds' := by rw [frzD, h, Fz.fz (c := c)]
theorem l_nil : ([] : List D) = [] := rfl
theorem l_cons {d d' : D} {ds ds' : List D} (h : d = d') (h2 : ds = ds') : d :: ds = d' :: ds' := by rw [h, h2]
theorem e_cI {env : Env} (i : Int) : mC (.int i) env = some (cI i) := rfl
theorem e_cB {env : Env} (i : Bool) : mC (.bl i) env = some (cB i) := rfl
theorem v_pure {α : Type} {env : Env} {m : PM} {o : Option α} {c : α → D} [Pu c] (h : EV m env o c) : EV (mPure m) env o c := fun x e => e_pureC (h x e)
theorem isi_of {d : D} {n T : String} {b : Bool} (h : tyN d = some n) (hk : kitB n T = some b) : isiD T d = some (.bl b) := by
  unfold isiD
  rw [h, Option.bind_some, hk]; rfl
section
variable {α β : Type} {env : Env} {P : Pat} {m mb : PM} {c : α → D} {K : β → O → Prop} {Q : β → Pat} {n : SM} {i : Nat}
theorem s_putRn {x x' : α} {y : D} {k : Int} {ds ds' : List D} {o : α → Option β} (hy : m env = some y) (hm : Mt P env) (e : P[i]? = some (some (c x))) (hk : mb env = some (cI k)) (hd : c x = .n (.lst .o) ds) (hd' : ((ixN ds.length k).map fun j => ds.set j y) = some ds') (hx : c x' = .n (.lst .o) ds') (h2 : ∀ z e, Mt (P.set i (some (c z))) e → ES n e (o z) K Q) : ES (sSeq (sPut i (plName i) mb (lift m)) n) env (lt x' o) K Q := s_putR hy hm e hk hd hd' hx (h2 x')
end


section
variable {α β γ τ σ ρ ζ : Type} {env : Env} {P : Pat} {m ma mb : PM} {c c' : α → D} {K : β → O → Prop} {Q : β → Pat} {n mS : SM} {me : EM} {i : Nat} {pm : Env → Option (List Nat)} {x : α} {cz : ζ → D}
theorem s_ext [Pu cz] {xs ys : List ζ} {fl : Fl} {o : List ζ → Option β} {up : List ζ → α} (h : PLs pm env i x c xs (cL .o cz) up) (hy : m env = some (cL fl cz ys)) (hm : Mt P env) (hn : nw fl = true) (h2 : ∀ z e, Mt (P.set i (some (c (up z)))) e → ES n e (o z) K Q) : ES (sSeq (sExt i pm m) n) env ((extO xs ys).bind o) K Q := ES.bindE fun z e => by
  unfold extO at e
  split at e
  · rename_i hl
    cases e
    obtain ⟨⟨p, g1, g2, g3⟩, hs⟩ := h
    have g4 := g3 (fun ds => if ds.length + (ys.map cz).length < 16777216 then some (ds ++ ys.map cz) else none) (xs.map cz) ((xs ++ ys).map cz) (xs ++ ys) rfl (by rw [List.length_map, List.length_map, if_pos hl, List.map_append]) rfl
    intro w hw
    obtain ⟨fl2, e2, q1, q2⟩ := h2 _ _ (hm.set (i := i) (o := some (c (up (xs ++ ys))))) w hw
    refine ⟨fl2, e2, ?_, q2⟩
    unfold sSeq sExt
    rw [g1, Option.bind_some, hy, Option.bind_some]
    unfold cL
    dsimp only
    rw [if_pos (by rw [hn, pureL_cod]; rfl), hs, Option.bind_some, g4]; exact q1
  · cases e
theorem ee_mk {k : Kd} {as : List As} {oa : Option γ} {ds : γ → List D} {Pa : γ → Pat} (ha : EA as env oa (fun a => (ds a, Pa a))) (hv : allEv as = true := by rfl) (hl : ∀ a, (ds a).length ≤ 16777216 := by exact fun _ => Nat.le_of_ble_eq_true rfl) : EE (eMk k as) env oa (fun a => (.n k (ds a), Pa a)) := fun a h => by
  obtain ⟨e1, h1, h2⟩ := ha a h
  refine ⟨e1, ?_, h2⟩
  unfold eMk
  rw [if_pos hv, h1, Option.bind_some, if_pos (hl a)]
theorem pM_of {f : FM} {ds ds' : List D} {d : D} (h : frzD ds = ds') (h2 : f ds' = some d) : pM f ds = some (d, []) := by
  unfold pM
  rw [h, h2]; rfl
theorem xor_one (i : Int) : Builtin.bitXor i 1 = i + 1 - 2 * (i % 2) := by
  rw [PyProof.Rows.bitXor_and, PyProof.Rows.bitAnd_m1]
theorem e_xorT {i : Int} (h1 : ma env = some (cI i)) (h2 : mb env = some (cI 1)) : mOp2 fXor ma mb env = some (cI (i + 1 - 2 * (i % 2))) := by
  exact e_op2 h1 h2 (by
    show some (V.int (Builtin.bitXor i 1)) = _
    rw [xor_one])
theorem ee_callP {f : FMu} {as : List As} {oa : Option τ} {ds : τ → List D} {Pa : τ → Pat} {is : τ → List D} {t : τ → Option ρ} {dr : ρ → D} (hm : Mt P env) (hs : ((muS as ++ boS as).all fun i => (P[i]?.join).isSome) = true) (ha : EA as env oa (fun a => (ds a, Pa a)))
    (hi : ∀ a, insA as (ds a) (Pa a) = some (is a, Pa a)) (hf : ∀ a r, t a = some r → f (is a) = some (dr r, [])) (hn : ∀ r, (dr r).noF = true) (hp : ∀ a, putA as [] (Pa a) = some (Pa a)) : EE (eCallM f as) env (oa.bind fun a => (t a).bind fun r => some (a, r)) (fun x => (dr x.2, Pa x.1)) := EE.bindE fun a h1 => EE.bindE fun r h2 => fun x hx => by
  cases hx
  obtain ⟨e1, h3, h4⟩ := ha a h1
  obtain ⟨e2, h5, h6⟩ := ins_mt h4 (hi a)
  obtain ⟨e3, h7, h8⟩ := put_mt h6 (hp a)
  refine ⟨e3, ?_, h8⟩
  unfold eCallM
  rw [all_mt hm hs, if_neg (fun z => by cases z), h3, Option.bind_some]
  dsimp only
  rw [h5, Option.bind_some]
  dsimp only
  rw [hf a r h2, Option.bind_some]
  dsimp only
  rw [if_pos (by rw [hn]; rfl), h7]; rfl
theorem s_asgE {g : Tg} {oa : Option τ} {d : τ → D} {Pa Pb : τ → Pat} {o : τ → Option β} (hm : EE me env oa (fun a => (d a, Pa a))) (hb : ∀ a, BDt g (d a) (Pa a) (Pb a)) (h2 : ∀ a e, Mt (Pb a) e → ES n e (o a) K Q) : ES (sSeq (sAsgE g me) n) env (oa.bind o) K Q := ES.bindE fun a ha => fun w hw => by
  obtain ⟨e1, h3, h4⟩ := hm a ha
  obtain ⟨e2, h5, h6⟩ := hb a e1 h4
  obtain ⟨fl2, e3, q1, q2⟩ := h2 a e2 h6 w hw
  refine ⟨fl2, e3, ?_, q2⟩
  unfold sSeq sAsgE
  rw [h3, Option.bind_some, h5]; exact q1
end
section
variable {α β γ τ σ ρ ζ : Type} {env : Env} {P : Pat} {m ma mb : PM} {c c' : α → D} {K : β → O → Prop} {Q : β → Pat} {n mS : SM} {me m1 : EM} {i : Nat}
theorem s_hide {g : Tg} {mb : SM} {xs : List α} {fl : Fl} [Pu c] {ol : Option β} (hm : Mt P env) (e : P[i]? = some (some (cL fl c xs))) (h : ∀ e, Mt (P.set i none) e → ES (sFor (fun _ => some (xs.map c)) g mb) e ol K Q) : ES (sForH i g mb) env ol K (fun r => (Q r).set i (some (cL fl c xs))) := fun x hx => by
  obtain ⟨fl2, e1, h1, h2, h3⟩ := h _ (hm.set (i := i) (o := none)) x hx
  refine ⟨fl2, e1.set i (some (cL fl c xs)), ?_, h2, h3.set⟩
  unfold sForH
  rw [hm.join e, Option.bind_some]
  show Option.bind (some (xs.map c)) _ = _
  rw [Option.bind_some, if_pos (pureL_cod _)]
  unfold sFor at h1
  rw [Option.bind_some, if_pos (pureL_cod _)] at h1
  rw [h1]; rfl
def ET1 (m : EM) (env : Env) (d : D) (P1 : Pat) : Prop := ∃ e, m env = some (d, e) ∧ Mt P1 e
theorem t1_move {d : D} (hm : Mt P env) (e : P[i]? = some (some d)) : ET1 (eMove i) env d (P.set i none) := ⟨_, by unfold eMove; rw [hm.join e]; rfl, hm.set⟩
theorem ee_cat {P1 : Pat} {fl fl2 : Fl} {xs : List α} {oy : Option (List α)} {mr : PM} (hl : ET1 m1 env (cL fl c xs) P1) (hr : ∀ e, Mt P1 e → EV mr e oy (cL fl2 c)) (hn : (nw fl && nw fl2) = true := by rfl) : EE (eCat m1 (lift mr)) env (oy.bind fun ys => cat xs ys) (fun z => (cL .o c z, P1)) := EE.bindE fun ys hy => fun z hz => by
  obtain ⟨e1, h1, h2⟩ := hl
  refine ⟨e1, ?_, h2⟩
  unfold cat at hz
  split at hz
  · rename_i hlen
    cases hz
    unfold eCat lift
    rw [h1, Option.bind_some]
    dsimp only
    rw [hr e1 h2 ys hy, Option.map_some, Option.bind_some]
    have : fCat (cL fl c xs) (cL fl2 c ys) = some ((xs ++ ys).map c) := by
      unfold fCat cL
      dsimp only
      rw [if_pos (by rw [hn]; simpa using hlen), List.map_append]
    dsimp only
    rw [this]; rfl
  · cases hz
theorem ea_evT {as : List As} {d : D} {ds : List D} {P1 P2 : Pat} (hm : ET1 me env d P1) (h : ∀ e, Mt P1 e → EA as e (some ()) (fun _ => (ds, P2))) : EA (.ev me :: as) env (some ()) (fun _ => (d :: ds, P2)) := fun x _ => by
  obtain ⟨e1, h1, h2⟩ := hm
  obtain ⟨e2, h3, h4⟩ := h e1 h2 () rfl
  exact ⟨e2, by unfold evA; rw [h1, Option.bind_some, h3]; rfl, h4⟩
end
section
variable {α : Type}
def kk2 (y : α × α) : List α := [y.1, y.2]
def kk3 (y : α × α × α) : List α := [y.1, y.2.1, y.2.2]
def kk4 (y : α × α × α × α) : List α := [y.1, y.2.1, y.2.2.1, y.2.2.2]
def kk5 (y : α × α × α × α × α) : List α := [y.1, y.2.1, y.2.2.1, y.2.2.2.1, y.2.2.2.2]
def kk6 (y : α × α × α × α × α × α) : List α := [y.1, y.2.1, y.2.2.1, y.2.2.2.1, y.2.2.2.2.1, y.2.2.2.2.2]
end
end Ow

namespace Ow
open PySem L2 Ty
section
variable {κ ν : Type} [DecidableEq κ] {env : Env} {m : PM} {ck : κ → Key} {cv : ν → V} {o : Fl}
end
section
variable {env : Env} {ma mb : PM}
end
section
variable {β ζ ζ0 τ : Type} {env : Env} {P : Pat} {me : EM} {K : β → O → Prop} {Q : β → Pat} {n : SM} {i : Nat} {c0 : ζ0 → D} {cz : ζ → D} {xs0 : List ζ0}
end
section
variable {κ ν : Type} {ck : κ → Key} {cv : ν → V}
theorem frzD_sc : ∀ kvs : List (Key × V), frzD (kvs.map fun p => D.s p.2) = kvs.map fun p => D.s p.2
  | [] => rfl
  | v :: vs => by rw [List.map_cons, frzD, frzD_sc vs]; rfl
instance : Fz (cD .o ck cv) (cD .s ck cv) := ⟨fun x => by rw [cD, dicD, D.frz, frzD_sc]; rfl⟩
instance : Fz (cD .s ck cv) (cD .s ck cv) := ⟨fun x => by rw [cD, dicD, D.frz, frzD_sc]; rfl⟩
end
section
variable {κ ν : Type} [DecidableEq κ] {env : Env} {ma mb : PM} {ck : κ → Key} {cv : ν → V} {o : Fl} {dk : D}
theorem noFL_sc : ∀ kvs : List (Key × V), noFL (kvs.map fun p => D.s p.2) = true
  | [] => rfl
  | v :: vs => by rw [List.map_cons, noFL, noFL_sc vs]; rfl
instance : NoF (cD .o ck cv) := ⟨fun x => by rw [cD, dicD, D.noF, noFL_sc]; rfl⟩
end
end Ow

namespace Ty
def once (xs : List Int) : List Int := xs.foldl (fun l x => if x ∈ l then l else l ++ [x]) []
@[irreducible] def dist (xs : List Int) : Option Int := if xs.length < 4000 then some ((once xs).length : Int) else none
end Ty

namespace Ow
open PySem L2 Ty
end Ow

namespace Ow
open PySem L2 Ty
section
variable {ν : Type} {env : Env} {m : PM} {cv : ν → V} {o : Fl}
end
end Ow

namespace Ow
open PySem L2 Ty
section
variable {α β : Type} {env : Env} {P : Pat} {m : PM} {K : α → O → Prop} {Q : α → Pat} {n : SM} {o : Option α} {d : D}
theorem s_dropP (hm : m env = some d) (h : Mt P env) (h2 : ∀ e, Mt P e → ES n e o K Q) : ES (sSeq (sDrop (lift m)) n) env o K Q := fun x e => by
  obtain ⟨fl, e2, h8, h9⟩ := h2 env h x e
  exact ⟨fl, e2, by unfold sSeq sDrop lift; rw [hm]; exact h8, h9⟩
end
end Ow

namespace Ow
open PySem L2 Ty
section
variable {env : Env} {ma mb : PM} {o : Fl}
end
end Ow

namespace Ty
inductive Rx (α : Type) where
  | ok (a : α)
  | ex (n : String)
def bx {α β : Type} (o : Option (Rx α)) (f : α → Option β) (w : String → β) : Option β := o.bind fun r => match r with
  | .ok a => f a
  | .ex n => some (w n)
def okX {α : Type} (o : Option (Rx α)) : Option α := o.bind fun r => match r with
  | .ok a => some a
  | .ex _ => none
def mapX {α β : Type} (o : Option (Rx α)) (f : α → β) : Option (Rx β) := o.map fun r => match r with
  | .ok a => .ok (f a)
  | .ex n => .ex n
def tabS (R : List String) (d : String) (n : String) : Option Bool := if n ∈ R then some (n == d || d == "FloorError" || d == "ValueError") else none
def tryL {σ ρ : Type} (o : Option (Lp σ (Rx ρ))) (h : String → Option (Lp σ ρ)) : Option (Lp σ ρ) := o.bind fun r => match r with
  | .go s => some (.go s)
  | .br s => some (.go s)
  | .rt (.ok r) => some (.rt r)
  | .rt (.ex n) => h n
@[simp] theorem bx_ok {α β : Type} {a : α} {f : α → Option β} {w : String → β} : bx (some (.ok a)) f w = f a := rfl
@[simp] theorem bx_ex {α β : Type} {n : String} {f : α → Option β} {w : String → β} : bx (some (.ex n)) f w = some (w n) := rfl
@[simp] theorem okX_ok {α : Type} {a : α} : okX (some (.ok a)) = some a := rfl
@[simp] theorem mapX_ok {α β : Type} {a : α} {f : α → β} : mapX (some (.ok a)) f = some (.ok (f a)) := rfl
@[simp] theorem mapX_ex {α β : Type} {n : String} {f : α → β} : mapX (some (.ex n)) f = some (.ex n) := rfl
@[simp] theorem tryL_go {σ ρ : Type} {s : σ} {h : String → Option (Lp σ ρ)} : tryL (some (.go s)) h = some (.go s) := rfl
@[simp] theorem tryL_rt {σ ρ : Type} {r : ρ} {h : String → Option (Lp σ ρ)} : tryL (some (.rt (.ok r))) h = some (.rt r) := rfl
@[simp] theorem tryL_ex {σ ρ : Type} {n : String} {h : String → Option (Lp σ ρ)} : tryL (some (.rt (.ex n))) h = h n := rfl
def okT (xs : List Nat) : Bool := xs.all (decide <| · < 1114112)
def Txt := {xs : List Nat // okT xs = true}
instance : DecidableEq Txt := fun a b => if h : a.1 = b.1 then isTrue (Subtype.ext h) else isFalse fun q => h (congrArg (·.1) q)
end Ty
namespace Ty
def fb (xs : List Int) : Option Unit := if ∀ i ∈ xs, i.natAbs < 2 ^ 250 then some () else none
end Ty
namespace Ty
def b2i (b : Bool) : Int := if b = true then 1 else 0
@[simp] theorem b2i_t : b2i true = 1 := rfl
@[simp] theorem b2i_f : b2i false = 0 := rfl
end Ty

namespace Ow
open PySem L2 Ty
section
variable {α β γ σ ρ τ : Type}
def cX (c : α → D) : Rx α → D
  | .ok a => c a
  | .ex n => .s (.ty n)

def mkS (xs : List Nat) : Str := ⟨xs.toArray⟩
def cS (x : Txt) : D := .s (.str (mkS x.1))
instance : Pu cS := ⟨fun _ => rfl⟩
instance : NoF cS := ⟨fun _ => rfl⟩
instance : Fz cS cS := ⟨fun _ => rfl⟩
instance : Nx cS := ⟨fun _ => rfl⟩
def cW (s : Str) (c : α → D) : Option α → D
  | none => .s (.str s)
  | some a => c a
instance {s : Str} {c : α → D} [Pu c] : Pu (cW s c) := ⟨fun x => by cases x <;> first | rfl | exact Pu.pu (c := c) _⟩
instance {s : Str} {c : α → D} [NoF c] : NoF (cW s c) := ⟨fun x => by cases x <;> first | rfl | exact NoF.no (c := c) _⟩
instance {s : Str} {c c' : α → D} [Fz c c'] : Fz (cW s c) (cW s c') := ⟨fun x => by cases x <;> first | rfl | exact Fz.fz (c := c) _⟩
instance {κ ν : Type} {o : Fl} {ck : κ → Key} {cv : ν → V} : Nx (cD o ck cv) := ⟨fun _ => rfl⟩
instance {s : Str} {c : α → D} [Nx c] : Nx (cW s c) := ⟨fun x => by cases x <;> first | rfl | exact Nx.nx (c := c) _⟩
def pS (x : Txt) : PyData := .str (mkS x.1)
theorem mkS_inj {x y : List Nat} : mkS x = mkS y ↔ x = y := by
  constructor
  · intro h
    have h := congrArg (fun s : Str => s.cps.toList) h
    simpa [mkS] using h
  · intro h; rw [h]
instance : Pd pS := ⟨0, fun x => by
  have := x.2
  show PyData.strOk (mkS x.1) = true
  unfold PyData.strOk mkS
  simpa [okT] using this, fun _ => Nat.le_refl _, fun x y => by
  simp only [pS, PyData.eqv, beq_iff_eq, mkS_inj]
  exact ⟨fun h => Subtype.ext h, fun h => by rw [h]⟩⟩
instance : Dt cS pS := ⟨fun _ => rfl⟩
class StrOk (s : Str) : Prop where
  ok : PyData.strOk s = true
class Pn (p : α → PyData) : Prop where
  s1 : ∀ x s, PyData.eqv (p x) (.str s) = false
  s2 : ∀ x s, PyData.eqv (.str s) (p x) = false
  n1 : ∀ x, PyData.eqv (p x) .none = false
  n2 : ∀ x, PyData.eqv .none (p x) = false
instance {p : α → PyData} : Pn (pL p) := ⟨fun _ _ => by simp [pL, PyData.eqv], fun _ _ => by simp [pL, PyData.eqv], fun _ => by simp [pL, PyData.eqv], fun _ => by simp [pL, PyData.eqv]⟩
instance {p : α → List PyData} : Pn (pT p) := ⟨fun _ _ => by simp [pT, PyData.eqv], fun _ _ => by simp [pT, PyData.eqv], fun _ => by simp [pT, PyData.eqv], fun _ => by simp [pT, PyData.eqv]⟩
instance {p : α → List PyData} : Pn (pR p) := ⟨fun _ _ => by simp [pR, PyData.eqv], fun _ _ => by simp [pR, PyData.eqv], fun _ => by simp [pR, PyData.eqv], fun _ => by simp [pR, PyData.eqv]⟩
instance : Pn pI := ⟨fun _ _ => by simp [pI, PyData.eqv], fun _ _ => by simp [pI, PyData.eqv], fun _ => by simp [pI, PyData.eqv], fun _ => by simp [pI, PyData.eqv]⟩
instance : Pn pB := ⟨fun _ _ => by simp [pB, PyData.eqv], fun _ _ => by simp [pB, PyData.eqv], fun _ => by simp [pB, PyData.eqv], fun _ => by simp [pB, PyData.eqv]⟩
def pW (s : Str) (p : α → PyData) : Option α → PyData
  | none => .str s
  | some a => p a
def pO (p : α → PyData) : Option α → PyData
  | none => .none
  | some a => p a
instance {s : Str} {p : α → PyData} [Pd p] [Pn p] [StrOk s] : Pd (pW s p) := ⟨Pd.dep p, fun x => by
  cases x with
  | none => exact StrOk.ok
  | some a => exact Pd.can (p := p) a, fun x => by
  cases x with
  | none => exact Nat.zero_le _
  | some a => exact Pd.deep (p := p) a, fun x y => by
  cases x <;> cases y <;> simp [pW, Pn.s1, Pn.s2, Pd.inj, PyData.eqv]⟩
instance {p : α → PyData} [Pd p] [Pn p] : Pd (pO p) := ⟨Pd.dep p, fun x => by
  cases x with
  | none => rfl
  | some a => exact Pd.can (p := p) a, fun x => by
  cases x with
  | none => exact Nat.zero_le _
  | some a => exact Pd.deep (p := p) a, fun x y => by
  cases x <;> cases y <;> simp [pO, Pn.n1, Pn.n2, Pd.inj, PyData.eqv]⟩
instance {s : Str} {c : α → D} {p : α → PyData} [Dt c p] : Dt (cW s c) (pW s p) := ⟨fun x => by cases x <;> first | rfl | exact Dt.dt (c := c) _⟩
instance {c : α → D} {p : α → PyData} [Dt c p] : Dt (cO c) (pO p) := ⟨fun x => by cases x <;> first | rfl | exact Dt.dt (c := c) _⟩


variable {env : Env} {P : Pat} {K : β → O → Prop} {Q : β → Pat} {n mS mb : SM} {me : EM} {m : PM} {ml : LM} {c : α → D} {o : Option β}

variable {cr : ρ → D} {Pl : σ → Pat} {Pr : ρ → Pat} {ol o1 o2 : Option (Lp σ ρ)}
end
end Ow
namespace Ow
open PySem L2 Ty
section
variable {β : Type} {env : Env} {K : β → O → Prop} {Q : β → Pat}
def FJ (env : Env) : List Fp → List Int → Prop
  | [], [] => True
  | .c x :: ms, is => x.length ≤ 1000 ∧ FJ env ms is
  | .v m :: ms, i :: is => m env = some (cI i) ∧ FJ env ms is
  | _, _ => False
def tbQ {σ ρ : Type} (Pl : σ → Pat) (Pr : ρ → Pat) (Px : Pat) : Lp σ (Rx ρ) → Pat
  | .go s => Pl s
  | .br s => Pl s
  | .rt (.ok r) => Pr r
  | .rt (.ex _) => Px
end
end Ow
namespace Ow
open PySem L2 Ty
section
variable {α β : Type} {env : Env} {m : PM} {ml : LM}
end
end Ow
namespace Ow
open PySem L2 Ty
section
variable {β : Type} {env : Env} {P : Pat} {K : β → O → Prop} {Q : β → Pat} {n : SM} {m : PM} {o : Option β}
end
end Ow
namespace Ow
open PySem L2 Ty
end Ow
namespace Ow
open PySem L2 Ty
end Ow
namespace Ow
open PySem L2 Ty
theorem e_chain {env : Env} {f f' : D → D → Option V} {ma mb mc : PM} {p q : Prop} [Decidable p] [Decidable q] {x y z : D} (h1 : ma env = some x) (h2 : mb env = some y) (h3 : mc env = some z) (hf : f x y = some (.bl (decide p))) (hf' : f' y z = some (.bl (decide q))) : mChain f f' ma mb mc env = some (cB (decide (p ∧ q))) := by
  unfold mChain
  rw [h1, Option.bind_some, h2, Option.bind_some, hf, Option.bind_some]
  by_cases hp : p
  · simp only [hp, decide_true, true_and]
    rw [h3, Option.bind_some, hf']; rfl
  · simp only [hp, decide_false, false_and]; rfl
end Ow

namespace Ty
variable {α β : Type}
def lcqO (p : α → Option Bool) (b : α → Option (List β)) : List α → Option (List β)
  | [] => some []
  | x :: xs => (p x).bind fun q => if q = true then (b x).bind fun r => (lcqO p b xs).map (r ++ ·) else lcqO p b xs
@[irreducible] def lcq (xs : List α) (p : α → Option Bool) (b : α → Option (List β)) : Option (List β) := (lcqO p b xs).bind fun rs => if rs.length ≤ 16777216 then some rs else none
section
variable {σ : Type}
def lceO (p : σ → α → Option Bool) (f : σ → α → Option (β × σ)) : List α → σ → Option (List β × σ)
  | [], s => some ([], s)
  | x :: xs, s => (p s x).bind fun b => if b = true then (f s x).bind fun r => (lceO p f xs r.2).map fun y => (r.1 :: y.1, y.2) else lceO p f xs s
@[irreducible] def lce (xs : List α) (s : σ) (p : σ → α → Option Bool) (f : σ → α → Option (β × σ)) : Option (List β × σ) := if xs.length ≤ 16777216 then lceO p f xs s else none
end
section
variable {σ ρ : Type}
def forWR : List α → σ → (σ → α → Option (Lp (σ × α) (ρ × α))) → Option (Lp (σ × List α) (ρ × List α))
  | [], s, _ => some (.go (s, []))
  | x :: xs, s, f => (f s x).bind fun r => match r with
    | .go q => (forWR xs q.1 f).map fun z => match z with
      | .go p => .go (p.1, q.2 :: p.2)
      | .br p => .br (p.1, q.2 :: p.2)
      | .rt p => .rt (p.1, q.2 :: p.2)
    | .br q => some (.go (q.1, q.2 :: xs))
    | .rt q => some (.rt (q.1, q.2 :: xs))
end
def tx (xs : List Nat) (h : okT xs = true := by rfl) : Txt := ⟨xs, h⟩
end Ty

namespace Ow
open PySem L2 Ty
section
variable {α β γ σ ρ : Type} {env : Env} {P P1 P2 : Pat} {ma mb m : PM} {mt mu : BM} {ml mi : LM} {c c' : α → D} {d : D} {v : V}
theorem EVL.hoistL {oa : Option (List β)} {o : List β → Option (List α)} {c2 : β → D} {mk : LM} (h : EVL mk env oa c2) (k : ∀ a, mk env = some (a.map c2) → EVL ml env (o a) c) : EVL ml env (oa.bind o) c := fun x e => by
  obtain ⟨a, h1, h2⟩ := bsome e
  exact k a (h a h1) x h2
theorem lcD_of {c2 : β → D} {g : Tg} {me : PM} {vs : List Nat} {p : α → Option Bool} {f : α → Option β} {Px : α → Pat} (h : Mt P env) (hb : ∀ x, BDt g (c x) (wipeD P vs) (Px x)) (ht : ∀ x e, Mt (Px x) e → EVB mt e (p x)) (he : ∀ x e, Mt (Px x) e → EV me e (f x) c2) :
    ∀ {xs : List α} (ys : List β), lcO p f xs = some ys → lcD g mt me (wipeD env vs) (xs.map c) = some (ys.map c2)
  | [], ys, hy => by cases hy; rfl
  | x :: xs, ys, hy => by
    rw [lcO] at hy
    obtain ⟨b, hb1, hy⟩ := bsome hy
    obtain ⟨e1, g1, g2⟩ := hb x _ h.wipe
    rw [List.map_cons, lcD, g1, Option.bind_some, ht x e1 g2 b hb1, Option.bind_some]
    cases b with
    | true =>
      rw [if_pos rfl] at hy
      obtain ⟨y, hy1, hy⟩ := bsome hy
      cases hr : lcO p f xs with
      | none => rw [hr] at hy; cases hy
      | some zs =>
        rw [hr] at hy
        cases hy
        rw [if_pos rfl, he x e1 g2 y hy1, Option.bind_some, lcD_of h hb ht he zs hr]; rfl
    | false =>
      rw [if_neg Bool.false_ne_true] at hy
      rw [if_neg Bool.false_ne_true]
      exact lcD_of h hb ht he ys hy
theorem v_in2 {c2 : β → D} {g : Tg} {me : PM} {vs : List Nat} {xs : List α} {p : α → Option Bool} {f : α → Option β} {Px : α → Pat} (w : mi env = some (xs.map c)) (h : Mt P env) (hb : ∀ x, BDt g (c x) (wipeD P vs) (Px x)) (ht : ∀ x e, Mt (Px x) e → EVB mt e (p x)) (he : ∀ x e, Mt (Px x) e → EV me e (f x) c2) :
    EVL (bdy2 mi g mt me vs) env (lcO p f xs) c2 := fun ys e => by
  unfold bdy2
  rw [w, Option.bind_some]
  exact lcD_of h hb ht he ys e
theorem v_lc2 {c2 : β → D} {g g1 : Tg} {mi1 : LM} {mt1 : BM} {me : PM} {vs vs1 : List Nat} {xs : List α} {p : α → Option Bool} {b : α → Option (List β)} {Px : α → Pat} (w : mi env = some (xs.map c)) (h : Mt P env) (hb : ∀ x, BDt g (c x) (wipeD P vs) (Px x)) (ht : ∀ x e, Mt (Px x) e → EVB mt e (p x)) (he : ∀ x e, Mt (Px x) e → EVL (bdy2 mi1 g1 mt1 me vs1) e (b x) c2) :
    EV (mLc2 mi g mt mi1 g1 mt1 me vs vs1) env (lcq xs p b) (cL .o c2) := fun ys e => by
  unfold lcq at e
  obtain ⟨rs, h1, e⟩ := bsome e
  split at e
  case isFalse => cases e
  rename_i hl
  cases e
  unfold mLc2
  rw [w, Option.bind_some]
  have : ∀ (xs : List α) (ys : List β), lcqO p b xs = some ys → lcD2 g mt (bdy2 mi1 g1 mt1 me vs1) (wipeD env vs) (xs.map c) = some (ys.map c2) := fun xs => by
    induction xs with
    | nil => intro ys hy; cases hy; rfl
    | cons x xs ih =>
      intro ys hy
      rw [lcqO] at hy
      obtain ⟨q, hb1, hy⟩ := bsome hy
      obtain ⟨e1, g1, g2⟩ := hb x _ h.wipe
      rw [List.map_cons, lcD2, g1, Option.bind_some, ht x e1 g2 q hb1, Option.bind_some]
      cases q with
      | true =>
        rw [if_pos rfl] at hy
        obtain ⟨y, hy1, hy⟩ := bsome hy
        cases hr : lcqO p b xs with
        | none => rw [hr] at hy; cases hy
        | some zs =>
          rw [hr] at hy
          cases hy
          rw [if_pos rfl, he x e1 g2 y hy1, Option.bind_some, ih zs hr, Option.map_some, List.map_append]
      | false =>
        rw [if_neg Bool.false_ne_true] at hy
        rw [if_neg Bool.false_ne_true]
        exact ih ys hy
  rw [this xs _ h1, Option.bind_some, if_pos (by rw [List.length_map]; exact hl)]; rfl

def cQ (c : α → D) (xs : List α) : D := .n .ktp (xs.map c)
instance [Pu c] : Pu (cQ c) := ⟨fun xs => by rw [cQ, D.pure, pureL_cod]; rfl⟩
instance [NoF c] : NoF (cQ c) := ⟨fun xs => by rw [cQ, D.noF, noFL_cod]; rfl⟩
instance [Fz c c'] : Fz (cQ c) (cQ c') := ⟨fun xs => by rw [cQ, D.frz, frzL_cod]; rfl⟩
theorem e_lenQ {xs : List α} (h : m env = some (cQ c xs)) : mCall fLen (lCons m lNil) env = some (cI xs.length) := e_call1 h (by rw [cQ, fLen, List.length_map])
theorem w_Q {xs : List α} (h : m env = some (cQ c xs)) : wT m env = some (xs.map c) := by unfold wT; rw [h]; rfl
end
end Ow

set_option maxHeartbeats 1000000

namespace Ow
open PySem L2 PySem.Spec PyProof.Rows
theorem meets_enum1 {v : Value} {o : Obj} {H : Heap → Prop} (B : Begins v o H) :
    Meets (Builtin.«enumerate.__new__» ⟨[.type "enumerate", v], []⟩) (fun _ R s => H s.heap ∧
      R (.ok (.ret (.ref (s.heap.push o).objs.size))) { s with heap := (s.heap.push o).push { cls := .type "enumerate", data := .fields #[.none, .bool false, .ref s.heap.objs.size, rawInt 0, .none, .none] } }) :=
  .of_wp fun prog w A R s h => by
    obtain ⟨hp, g, d, tk, os⟩ := s
    obtain ⟨h1, h⟩ := h
    have hsub := sub_enumerate
    have q1 : ∀ {A' : Around} {E : Value → Shared → Prop} {Q : Value → Shared → Prop}, Q (.ref hp.objs.size) ⟨hp.push o, g, d, tk, os⟩ → wpAny (model prog w) A' (pyIter v) Q E ⟨hp, g, d, tk, os⟩ :=
      fun q => B.iter prog w _ _ ⟨hp, g, d, tk, os⟩ _ h1 q
    wp_walk using q1
    refine wpAny_stack_any fun st => wpAny_pure ?_
    split
    · rename_i c _ _ _ _ _
      cases (c == Value.type "enumerate") <;> (wp_walk using q1; exact ⟨_, rfl, h⟩)
    · wp_walk using q1
      exact ⟨_, rfl, h⟩
section
variable {prog : Program} {w : World} {A : Around} {E : Value → Shared → Prop} {s : Shared}
theorem enum1_begins {v : Value} {o : Obj} {H : Heap → Prop} {Q : Value → Shared → Prop} (B : Begins v o H) (h1 : H s.heap)
    (h : ∀ h', IsEnum h' (s.heap.objs.size + 1) s.heap.objs.size 0 .none → h'.get? s.heap.objs.size = some o →
      (∀ b o, s.heap.get? b = some o → h'.get? b = some o) → Q (.ref (s.heap.objs.size + 1)) { s with heap := h' }) :
    wpAny (model prog w) A (call (.type "enumerate") [v]) Q E s := by
  refine callType_new F.called_enumerate (by decide) (F.typeCall_enumerate_1 _) (F.newCall_enumerate_1 _) (fun obj => F.args_object_init_2 obj _) F.entry_enumerate_new (meets_enum1 B) ⟨h1, ?_⟩
  have hz : (s.heap.push o).objs.size = s.heap.objs.size + 1 := Heap.size_push ..
  show _ ∧ _
  rw [hz]
  have he := Heap.get?_push_size (s.heap.push o) (o := { cls := .type "enumerate", data := .fields #[.none, .bool false, .ref s.heap.objs.size, rawInt 0, .none, .none] }) rfl
  rw [hz] at he
  exact ⟨⟨_, he, rfl⟩, h _ he (Heap.get?_push_of_some _ (Heap.get?_push_size _ B.free)) fun b o x => Heap.get?_push_of_some _ (Heap.get?_push_of_some _ x)⟩
end
def IteT (K : PySem.W.Frag) (a : Addr) : It :=
  ⟨fun i H => ∃ (xs : List V) (x : V), SqT K H a xs ∧ xs[i]? = some x, fun i H v H' => ∃ T x, v = .ref T ∧ H T = none ∧ H' = upd H T (.tup [.int (i : Nat), x]) ∧ ∀ xs, SqT K H a xs → xs[i]? = some x, fun i H => ∃ xs : List V, SqT K H a xs ∧ xs.length ≤ i⟩
theorem turn_enumT {P : Program} {w : World} {K : PySem.W.Frag} {elts : List Expr} {kk : Nat} {tpos : Pos} (a e it : Addr) (hai : a ≠ it) (hea : e ≠ a) :
    Turn P w K (.Tuple elts kk tpos) (IteT K a) [e, it] e (fun i h => (∃ old, IsEnum h e it ((i : Nat) : Int) old) ∧ h.IsTupleIter it a i ∧ e ≠ it) where
  mem := by simp
  obj := fun i h st b hb => by
    obtain ⟨⟨old, he⟩, ⟨o, ho, hc, hd⟩, _⟩ := st
    rcases List.mem_cons.mp hb with z | z
    · rw [z]; exact ⟨_, he, fun v q => nomatch q⟩
    · rw [List.mem_singleton.mp z]; exact ⟨o, ho, fun v q => by rw [hd] at q; cases q⟩
  keep := fun i h h' st k => let ⟨⟨old, he⟩, hi, hne⟩ := st; ⟨⟨old, k e (by simp) _ he⟩, hi.at fun o q => k it (by simp) o q, hne⟩
  item := by
    intro X hP hw hK hc i pins s σ H E I hf st hg
    subst hP hw hK
    obtain ⟨⟨old, he⟩, hit, hne⟩ := st
    obtain ⟨xs, x, hq, hx⟩ := hg
    obtain ⟨its, rv, p, hz⟩ := I.tuple hq
    have p : s.heap.IsTuple a its.toArray := p
    obtain ⟨u, hu, ru⟩ := rv.get hx
    have hel : e < s.heap.objs.size := Heap.lt_size he
    have hil : it < s.heap.objs.size := by obtain ⟨_, q, _⟩ := hit; exact Heap.lt_size q
    have hA : X.A.in1.handled = none := (I.ok.hd hc)
    have D := Draws.tuple (prog := X.prog) (w := X.w) (A := X.A.in1) hA it a hai its.toArray
    have hlt : i < its.toArray.size := by
      obtain ⟨q, _⟩ := List.getElem?_eq_some_iff.mp hu
      simpa using q
    refine wpAny_pyNext_enum_itemC D he ⟨hit, p⟩ hlt hne (by simp [hne, hea]) fun u' h' tk hP' ho hs' hT hsz hk => ?_
    have eu : u' = u := by
      have : its.toArray[i]? = some u := by simpa using hu
      rw [this] at hP'
      exact (Option.some.inj hP').symm
    subst eu
    refine ⟨_, rfl, wpAny_letOwnedTupleGo_enum (s := { s with heap := h', toks := tk + 1 }) ho fun h'' he' sb => ?_⟩
    have hT2 : h''.get? s.heap.objs.size = some { cls := .type "tuple", data := .seq #[.int i tk, u'] } := (sb.2 _ (Nat.ne_of_gt hel)).trans hT
    have new : ObjOk X.prog X.w (upd H s.heap.objs.size (.tup [.int (i : Nat), x])) h'' s.heap.objs.size (.tup [.int (i : Nat), x]) :=
      ⟨by show 2 ≤ sizeLine; decide, [.int i tk, u'], .cons ⟨_, rfl⟩ (.cons ru .nil), ⟨_, hT2, rfl, _, rfl⟩⟩
    have I1 : Inv X pins σ (upd H s.heap.objs.size (.tup [.int (i : Nat), x])) { s with heap := h'', toks := tk + 1 } :=
      I.turnedNew (ch := [e, it]) (fun b ob hb q => (sb.2 b (fun z => hb (by simp [z]))).trans (hk b ob (fun z => hb (by simp [z])) (fun z => hb (by simp [z])) q)) hf (Nat.le_refl _) new
    refine ⟨.ref s.heap.objs.size, _, I1, rfl, ⟨_, x, rfl, I.hok.fresh (Nat.le_refl _), rfl, fun ys hy => by rw [I.tuple_inj hy hq]; exact hx⟩, ⟨⟨u', ?_⟩, hs'.1.at fun o q => (sb.2 it (Ne.symm hne)).trans q, hne⟩, fun b hb => ?_⟩
    · rw [show ((i + 1 : Nat) : Int) = (i : Int) + 1 by omega]; exact he'
    · have hb' : b < s.heap.objs.size := by
        rcases List.mem_cons.mp hb with z | z
        · rw [z]; exact hel
        · rw [List.mem_singleton.mp z]; exact hil
      rw [upd_ne (Nat.ne_of_lt hb')]
      exact (hf b hb).1
  done := by
    intro X hP hw hK hc i pins s σ H E I hf st hg
    subst hP hw hK
    obtain ⟨⟨old, he⟩, hit, hne⟩ := st
    obtain ⟨xs, hq, hx⟩ := hg
    obtain ⟨its, rv, p, hz⟩ := I.tuple hq
    have p : s.heap.IsTuple a its.toArray := p
    obtain ⟨f0, f1, f2, f3, f4, f5⟩ := hf it (by simp)
    have hl := rv.length
    have hT : s.TypeIs (.ref e) "enumerate" := ⟨_, he, rfl⟩
    unfold pyNext
    refine wpAny_bind (wpAny_attempt (wpAny_callSpecial?_slot (name := Str.ofString "__next__") hT F.slot_enumerate_next
      (wpAny_call_entry F.slot_enumerate_next hT F.entry_enumerate_next ?_ (F.args_enumerate_next_1 _))))
    show wpAny _ _ (field (.ref e) 2 >>= _) _ _ _
    refine wpAny_bind (wpAny_field he rfl (x := .ref it) rfl ?_)
    refine wpAny_bind (wpAny_nextOf_tuple_end (I.ok.hd hc) hit p (by simp; omega) fun h' x he' hx' => ?_)
    obtain ⟨o, ho, hc'⟩ := hx'
    refine wpAny_bind (wpAny_isInstance (T := "StopIteration") (b := true) ⟨o, ho, hc'⟩ isSubtype_stop ?_)
    exact wpAny_pure ⟨rfl, I.turned (t' := s.toks) (fun b o hb q => he' b o hb q) f0 f1 f3 f4 f5⟩
  self := fun A i s Q E st h => let ⟨⟨_, he⟩, _⟩ := st; wpAny_pyIter_enum he h
def iEnumT (K : PySem.W.Frag) (ta : TA) : TI := fun σ H R => ta σ H fun vs H1 => ∃ a xs, vs = [.ref a] ∧ SqT K H1 a xs ∧ R (IteT K a) H1
theorem pi_enumT {X : Cx} {e : Expr} {ta : TA} {p pos tpos : Pos} {elts : List Expr} {kk : Nat} (hg : Gl X "enumerate") (hm : X.mg "enumerate" = none) (ha : PA X [e] ta) (hs : starEach [e] X.env = [(false, eval e X.env)] := by rfl) :
    PI X (.Tuple elts kk tpos) (.Call (.Name "enumerate" p) [e] [] pos) (iEnumT X.K ta) := by
  refine ⟨fun pins s σ H R I h => ?_⟩
  refine Call_ (ld_blt I hg hm boot_enumerate (PyProof.Rows.callWith_type1 (thn (ha.run pos pins s σ H _ I h) fun us s1 ⟨vs, H1, I1, r1, q1⟩ => ?_) hs rfl))
  obtain ⟨a, xs, ex, hq, q⟩ := q1
  subst ex
  cases r1 with
  | cons r rr =>
    cases rr
    cases r
    obtain ⟨its, rv, p', hz⟩ := I1.tuple hq
    have p' : s1.heap.IsTuple a its.toArray := p'
    have la : a < s1.heap.objs.size := by obtain ⟨_, q, _⟩ := p'; exact Heap.lt_size q
    refine enum1_begins (begins_tuple a its.toArray) p' fun h' he hit hk => wpAny_pyIter_enum he ?_
    have I2 : Inv X pins σ H1 { s1 with heap := h' } := I1.kept (t' := s1.toks) hk
    refine ⟨s1.heap.objs.size + 1, [s1.heap.objs.size + 1, s1.heap.objs.size], _, _, H1, rfl, I2, turn_enumT a (s1.heap.objs.size + 1) s1.heap.objs.size (Nat.ne_of_lt la) (Nat.ne_of_gt (Nat.lt_succ_of_lt la)), ⟨⟨.none, he⟩, ⟨_, hit, rfl, rfl⟩, Nat.succ_ne_self _⟩, fun b hb => ?_, q⟩
    have hle : s1.heap.objs.size ≤ b := by
      rcases List.mem_cons.mp hb with z | z
      · rw [z]; exact Nat.le_add_right _ _
      · rw [List.mem_singleton.mp z]; exact Nat.le_refl _
    exact I1.fpOk hle (I1.hok.fresh hle)
section
variable {K : PySem.W.Frag}
theorem wk_enumT {t : T} {H0 : Hp} {ds : List D} {kd : Kd} (hs0 : t.sat K H0) (e : t.er = .n kd ds) (hk : kd = .tup ∨ kd = .ktp := by first | exact .inl rfl | exact .inr rfl) : ∃ a, t.val = .ref a ∧ SqT K H0 a (vals t.kids) ∧ Wk K (IteT K a) [t] (enD 0 ds) := by
  obtain ⟨a, f1, f2, f3, _, f5, f6⟩ := rdTk hs0 e hk
  have key : ∀ H, satL K H [t] → SqT K H a (vals t.kids) ∧ satL K H t.kids := fun H hs => by
    obtain ⟨a', g1, g2, g3, g4, _⟩ := rdTk hs.1 e hk
    rw [f1] at g1
    cases g1
    exact ⟨g3, g4⟩
  have hl : ds.length = (vals t.kids).length := by rw [List.length_map, len_er f2]
  refine ⟨a, f1, f3, fun i H hs hi => ⟨_, (key H hs).1, by rw [← hl]; rw [enD_len] at hi; exact hi⟩, fun i H hs hi => ?_, fun i H x H' hs y d hd => ?_⟩
  · rw [enD_len] at hi
    obtain ⟨u, hu, _⟩ := er_at f2 (List.getElem?_eq_getElem hi)
    exact ⟨_, u.val, (key H hs).1, vals_at hu⟩
  · obtain ⟨p, x1, rfl, hp, rfl, z1⟩ := y
    obtain ⟨c, hc, rfl⟩ := enD_at hd
    obtain ⟨u, hu, he⟩ := er_at f2 hc
    have q := z1 _ (key _ hs).1
    rw [vals_at hu] at q
    cases q
    obtain ⟨x3, s3⟩ := pair_new (K := K) (t := .s (.int ((i : Nat) : Int))) hp trivial (sat_at (key _ hs).2 hu)
    have m1 := List.mem_of_getElem? hu
    refine ⟨.n .tup p [.s (.int ((i : Nat) : Int)), u], rfl, ?_, x3, s3, fun c hc => ?_, fun c hc => ?_⟩
    · rw [T.er, erL, erL, erL, he, T.er, Nat.zero_add]
      rfl
    · have n1 := Nat.le_trans (coL_mem (a := c) m1) (f5 c)
      simp only [T.co, coL, Kd.own, Bool.false_eq_true, false_and, if_false] at hc ⊢
      omega
    · have n1 := Nat.le_trans (cuL_mem (a := c) m1) (f6 c)
      by_cases q : p = c
      · subst q
        exact .inr hp
      · simp only [T.cu, cuL, q, and_false, if_false] at hc ⊢
        exact .inl (by omega)
end
section
variable {X : Cx} {a : Expr} {ma : PM} {pos p tpos : Pos}
@[simp] def wET (m : PM) : LM := fun env => (m env).bind fun x => (asT x).map (enD 0)
theorem sj_enumT {elts : List Expr} {kk : Nat} (hm : X.mg "enumerate" = none) (ha : SP X a ma) (hg : Gl X "enumerate" := by rfl) (hp : starEach [a] X.env = (false, eval a X.env) :: starEach [] X.env := by rfl) (hs : starEach [a] X.env = [(false, eval a X.env)] := by rfl) :
    SJ X (.Tuple elts kk tpos) (.Call (.Name "enumerate" p) [a] [] pos) (wET ma) :=
  PI.weak (pi_enumT hg hm (spa_cons ha spa_nil hp) hs) fun σ H R ⟨env, ds, hm, r, s, k⟩ => by
    obtain ⟨x, hx, hm⟩ := bind_some hm
    obtain ⟨xs, h1, rfl⟩ := map_some hm
    obtain ⟨kd, h2, hk⟩ := asT_some h1
    subst h2
    refine ⟨env, [_], by rw [lCons, hx]; rfl, r, s, fun ts H1 e1 x1 s1 b1 => ?_⟩
    obtain ⟨t, rfl, et⟩ := one_er e1
    obtain ⟨a, f1, f2, w⟩ := wk_enumT s1.1 et hk
    exact ⟨a, _, by rw [vals, List.map_cons, f1]; rfl, f2, k _ [t] H1 x1 s1 b1 w⟩
end
theorem sub5 {z TI TO i1 i2 c : Addr} (h : c ∈ [z, TO, i1, i2]) : c ∈ [z, TI, TO, i1, i2] := by
  have e' : c = z ∨ c = TO ∨ c = i1 ∨ c = i2 := by simpa using h
  rcases e' with q | q | q | q <;> subst q <;> simp


def ItzTL (K : PySem.W.Frag) (a b : Addr) : It :=
  ⟨fun i H => ∃ (xs ys : List V) (x y : V), SqT K H a xs ∧ SqL K H b ys ∧ xs[i]? = some x ∧ ys[i]? = some y,
    fun i H v H' => ∃ T x y, v = .ref T ∧ H T = none ∧ H' = upd H T (.tup [x, y]) ∧ (∀ xs, SqT K H a xs → xs[i]? = some x) ∧ ∀ ys, SqL K H b ys → ys[i]? = some y,
    fun i H => ∃ xs ys : List V, SqT K H a xs ∧ SqL K H b ys ∧ min xs.length ys.length ≤ i⟩
theorem doneT {prog : Program} {w : World} {A : Around} (hh : A.handled = none) (it t : Addr) (items : Array Value) {i : Nat} (hi : items[i]? = none) :
    Draws prog w A it [it, t] i (fun _ _ => True) (fun j h => j = i ∧ h.IsTupleIter it t j ∧ h.IsTuple t items) where
  live := fun _ _ st => let ⟨o, ho, _⟩ := st.2.1; ⟨o, ho⟩
  frame := fun _ _ _ st hk => ⟨st.1, st.2.1.at fun o e => hk it (by simp) o e, st.2.2.at fun o e => hk t (by simp) o e⟩
  item := fun j s Q E hj st hQ => absurd st.1 (by omega)
  done := fun s Q E st hE => wpAny_nextOf_tuple_end hh st.2.1 st.2.2 hi hE
theorem doneL {prog : Program} {w : World} {A : Around} (hh : A.handled = none) (it t : Addr) (items : Array Value) {i : Nat} (hi : items[i]? = none) :
    Draws prog w A it [it, t] i (fun _ _ => True) (fun j h => j = i ∧ h.IsListIter it t j ∧ h.IsList t items) where
  live := fun _ _ st => let ⟨o, ho, _⟩ := st.2.1; ⟨o, ho⟩
  frame := fun _ _ _ st hk => ⟨st.1, st.2.1.at fun o e => hk it (by simp) o e, st.2.2.at fun o e => hk t (by simp) o e⟩
  item := fun j s Q E hj st hQ => absurd st.1 (by omega)
  done := fun s Q E st hE => wpAny_nextOf_list_end hh st.2.1 st.2.2 hi hE
theorem turn_zipTL {P : Program} {w : World} {K : PySem.W.Frag} {elts : List Expr} {kk : Nat} {tpos : Pos} {a b z TI TO i1 i2 : Addr} (S : ZipSep2 z TI TO i1 i2 [i1, a] [i2, b]) (ha : a ≠ i1) (hb : b ≠ i2) :
    Turn P w K (.Tuple elts kk tpos) (ItzTL K a b) [z, TI, TO, i1, i2] z (fun i h => IsZip h z TI TO .none ∧ IsTupOf2 h TI (.ref i1) (.ref i2) ∧ (∃ x y, IsTupOf2 h TO x y) ∧ h.IsTupleIter i1 a i ∧ h.IsListIter i2 b i) where
  mem := by simp
  obj := fun i h st c hc => by
    obtain ⟨hz, hTI, ⟨x, y, hTO⟩, ⟨o1, e1, _, d1⟩, ⟨o2, e2, _, d2⟩⟩ := st
    have e' : c = z ∨ c = TI ∨ c = TO ∨ c = i1 ∨ c = i2 := by simpa using hc
    rcases e' with q | q | q | q | q <;> subst q
    · exact ⟨_, hz, fun v q => nomatch q⟩
    · exact ⟨_, hTI, fun v q => nomatch q⟩
    · exact ⟨_, hTO, fun v q => nomatch q⟩
    · exact ⟨o1, e1, fun v q => by rw [d1] at q; cases q⟩
    · exact ⟨o2, e2, fun v q => by rw [d2] at q; cases q⟩
  keep := fun i h h' st k => by
    obtain ⟨hz, hTI, ⟨x, y, hTO⟩, h1, h2⟩ := st
    exact ⟨k z (by simp) _ hz, k TI (by simp) _ hTI, ⟨x, y, k TO (by simp) _ hTO⟩, h1.at fun o q => k i1 (by simp) o q, h2.at fun o q => k i2 (by simp) o q⟩
  item := by
    intro X hP hw hK hc i pins s σ H E I hf st hg
    subst hP hw hK
    obtain ⟨hz, hTI, hTO, h1, h2⟩ := st
    obtain ⟨xs, ys, x, y, hqx, hqy, hx, hy⟩ := hg
    obtain ⟨its, rv, p, _⟩ := I.tuple hqx
    have p : s.heap.IsTuple a its.toArray := p
    obtain ⟨its2, rv2, p2, _⟩ := I.list hqy
    obtain ⟨u, hu, ru⟩ := rv.get hx
    obtain ⟨u2, hu2, ru2⟩ := rv2.get hy
    have hh : X.A.in1.handled = none := (I.ok.hd hc)
    have W := WalksT.zipD2 (prog := X.prog) (w := X.w) (A := X.A) S (Draws.tuple hh i1 a ha its.toArray) (Draws.list hh i2 b hb its2.toArray)
    have hlt : i < min its.toArray.size its2.toArray.size := by
      obtain ⟨q, _⟩ := List.getElem?_eq_some_iff.mp hu
      obtain ⟨q2, _⟩ := List.getElem?_eq_some_iff.mp hu2
      simp; omega
    refine W.item i s _ _ hlt ⟨hz, hTI, hTO, ⟨h1, p⟩, ⟨h2, p2.isList⟩⟩ fun T vals h' tk hP' hle hT hmid hk => ?_
    obtain ⟨v1, v2, g1, g2, ev⟩ := hP'
    have ev1 : v1 = u := by
      have : its.toArray[i]? = some u := by simpa using hu
      rw [this] at g1
      exact (Option.some.inj g1).symm
    have ev2 : v2 = u2 := by
      have : its2.toArray[i]? = some u2 := by simpa using hu2
      rw [this] at g2
      exact (Option.some.inj g2).symm
    subst ev1 ev2 ev
    have hTw := W.apart _ _ _ hmid
    refine ⟨_, rfl, W.go elts kk tpos i T { s with heap := h', toks := tk } _ _ hmid fun h'' st'' hk2 => ?_⟩
    have hT2 : h''.IsTuple T #[v1, v2] := hT.at fun o q => hk2 T o hTw q
    have new : ObjOk X.prog X.w (upd H T (.tup [x, y])) h'' T (.tup [x, y]) :=
      ⟨by show 2 ≤ sizeLine; decide, [v1, v2], .cons ru (.cons ru2 .nil), hT2⟩
    have I1 : Inv X pins σ (upd H T (.tup [x, y])) { s with heap := h'', toks := tk } :=
      I.turnedNew (ch := [z, TI, TO, i1, i2]) (fun c o hb q => hk2 c o (fun q' => hb (sub5 q')) (hk c o (fun q' => hb (sub5 q')) q)) hf hle new
    obtain ⟨z'', TI'', TO'', ⟨i1'', _⟩, ⟨i2'', _⟩⟩ := st''
    refine ⟨.ref T, _, I1, rfl, ⟨_, x, y, rfl, I.hok.fresh hle, rfl, fun l hl => by rw [I.tuple_inj hl hqx]; exact hx, fun l hl => by rw [I.list_inj hl hqy]; exact hy⟩, ⟨z'', TI'', TO'', i1'', i2''⟩, fun c hcm => ?_⟩
    have hlt : c < s.heap.objs.size := by
      obtain ⟨x0, y0, hTO⟩ := hTO
      have e' : c = z ∨ c = TI ∨ c = TO ∨ c = i1 ∨ c = i2 := by simpa using hcm
      rcases e' with q | q | q | q | q <;> subst q
      · exact Heap.lt_size hz
      · exact Heap.lt_size hTI
      · exact Heap.lt_size hTO
      · obtain ⟨_, e1, _⟩ := h1; exact Heap.lt_size e1
      · obtain ⟨_, e2, _⟩ := h2; exact Heap.lt_size e2
    rw [upd_ne (Nat.ne_of_lt (Nat.lt_of_lt_of_le hlt hle))]
    exact (hf c hcm).1
  done := by
    intro X hP hw hK hc i pins s σ H E I hf st hg
    subst hP hw hK
    obtain ⟨hz, hTI, hTO, h1, h2⟩ := st
    obtain ⟨xs, ys, hqx, hqy, hend⟩ := hg
    obtain ⟨its, rv, p, _⟩ := I.tuple hqx
    have p : s.heap.IsTuple a its.toArray := p
    obtain ⟨its2, rv2, p2, _⟩ := I.list hqy
    have l1 := rv.length
    have l2 := rv2.length
    have hh : X.A.in1.handled = none := (I.ok.hd hc)
    have fin : ∀ {n1 n2 : Nat} {P1 P2 : Nat → Value → Prop} {St1 St2 : Nat → Heap → Prop}, Draws X.prog X.w X.A.in1 i1 [i1, a] n1 P1 St1 → Draws X.prog X.w X.A.in1 i2 [i2, b] n2 P2 St2 → min n1 n2 = i → St1 i s.heap → St2 i s.heap →
        wpAny (model X.prog X.w) X.A (pyNext (.ref z)) (fun r s1 => r = none ∧ Inv X pins σ H s1) E s := fun D1 D2 en q1 q2 => by
      have W := WalksT.zipD2 (prog := X.prog) (w := X.w) (A := X.A) S D1 D2
      rw [en] at W
      exact W.done s _ _ ⟨hz, hTI, hTO, q1, q2⟩ fun h' tk hk => ⟨rfl, I.turnedL (t' := tk) (ch := [z, TI, TO, i1, i2]) (fun c o hb q => hk c o (fun q' => hb (sub5 q')) q) hf⟩
    by_cases c1 : xs.length ≤ i
    · have D1 := doneT (prog := X.prog) (w := X.w) (A := X.A.in1) hh i1 a its.toArray (i := i) (by simp; omega)
      by_cases c2 : ys.length ≤ i
      · exact fin D1 (doneL (prog := X.prog) (w := X.w) (A := X.A.in1) hh i2 b its2.toArray (i := i) (by simp; omega)) (Nat.min_self i) ⟨rfl, h1, p⟩ ⟨rfl, h2, p2.isList⟩
      · exact fin D1 (Draws.list hh i2 b hb its2.toArray) (by simp; omega) ⟨rfl, h1, p⟩ ⟨h2, p2.isList⟩
    · exact fin (Draws.tuple hh i1 a ha its.toArray) (doneL (prog := X.prog) (w := X.w) (A := X.A.in1) hh i2 b its2.toArray (i := i) (by simp; omega)) (by simp; omega) ⟨h1, p⟩ ⟨rfl, h2, p2.isList⟩
  self := fun A i s Q E st h => wpAny_pyIter_zip st.1 h
def iZipTL (K : PySem.W.Frag) (ta : TA) : TI := fun σ H R => ta σ H fun vs H1 => ∃ a b xs ys, vs = [.ref a, .ref b] ∧ SqT K H1 a xs ∧ SqL K H1 b ys ∧ R (ItzTL K a b) H1
theorem pi_zipTL {X : Cx} {e e2 : Expr} {ta : TA} {p pos tpos : Pos} {elts : List Expr} {kk : Nat} (hg : Gl X "zip") (hm : X.mg "zip" = none) (ha : PA X [e, e2] ta)
    (hs : starEach [e, e2] X.env = (false, eval e X.env) :: starEach [e2] X.env := by rfl) (hpl : (backTo pos (starEach [e2] X.env)).any (·.1) = false := by rfl) :
    PI X (.Tuple elts kk tpos) (.Call (.Name "zip" p) [e, e2] [] pos) (iZipTL X.K ta) := by
  refine ⟨fun pins s σ H R I h => ?_⟩
  refine Call_ (ld_blt I hg hm PyProof.Rows.boot_zip (PyProof.Rows.callWith_type1 (thn (ha.run pos pins s σ H _ I h) fun us s1 ⟨vs, H1, I1, r1, q1⟩ => ?_) hs hpl))
  obtain ⟨a, b, xs, ys, ex, hqx, hqy, q⟩ := q1
  subst ex
  cases r1 with
  | cons r rr =>
    cases rr with
    | cons r' rr =>
      cases rr
      cases r
      cases r'
      obtain ⟨its, rv, p1, _⟩ := I1.tuple hqx
      have p1 : s1.heap.IsTuple a its.toArray := p1
      obtain ⟨its2, rv2, p2, _⟩ := I1.list hqy
      have la : a < s1.heap.objs.size := by obtain ⟨_, q, _⟩ := p1; exact Heap.lt_size q
      have lb : b < s1.heap.objs.size := p2.lt
      refine zip_begins2 (begins_tuple a its.toArray) (begins_list b its2.toArray) p1 p2.isList fun h' hz hTI hTO h1 h2 hsz hk => wpAny_pyIter_zip hz ?_
      have I2 : Inv X pins σ H1 { s1 with heap := h' } := I1.kept (t' := s1.toks) hk
      have S := zip_sep2 (N := s1.heap.objs.size) (fp1 := [a]) (fp2 := [b]) (fun c hc => by rw [List.mem_singleton.mp hc]; exact la) (fun c hc => by rw [List.mem_singleton.mp hc]; exact lb)
      refine ⟨s1.heap.objs.size + 4, [s1.heap.objs.size + 4, s1.heap.objs.size + 2, s1.heap.objs.size + 3, s1.heap.objs.size, s1.heap.objs.size + 1], _, _, H1, rfl, I2, turn_zipTL S (Nat.ne_of_lt la) (Nat.ne_of_lt (Nat.lt_succ_of_lt lb)), ⟨hz, hTI, ⟨_, _, hTO⟩, ⟨_, h1, rfl, rfl⟩, ⟨_, h2, rfl, rfl⟩⟩, fun c hcm => ?_, q⟩
      have e' : c = s1.heap.objs.size + 4 ∨ c = s1.heap.objs.size + 2 ∨ c = s1.heap.objs.size + 3 ∨ c = s1.heap.objs.size ∨ c = s1.heap.objs.size + 1 := by simpa using hcm
      have hle : s1.heap.objs.size ≤ c := by
        rcases e' with z | z | z | z | z <;> rw [z]
        · exact Nat.le_add_right _ _
        · exact Nat.le_add_right _ _
        · exact Nat.le_add_right _ _
        · exact Nat.le_refl _
        · exact Nat.le_add_right _ _
      exact I1.fpOk hle (I1.hok.fresh hle)
section
variable {K : PySem.W.Frag}
theorem wk_zipTL {t u : T} {H0 : Hp} {o' : Fl} {ds es : List D} {kd : Kd} (hs0 : t.sat K H0) (e : t.er = .n kd ds) (hs1 : u.sat K H0) (e' : u.er = .n (.lst o') es) (hk : kd = .tup ∨ kd = .ktp := by first | exact .inl rfl | exact .inr rfl) :
    ∃ a b, t.val = .ref a ∧ u.val = .ref b ∧ SqT K H0 a (vals t.kids) ∧ SqL K H0 b (vals u.kids) ∧ Wk K (ItzTL K a b) [t, u] (List.zipWith (fun x y => D.n .tup [x, y]) ds es) := by
  obtain ⟨a, f1, f2, f3, _, f5, f6⟩ := rdTk hs0 e hk
  obtain ⟨b, g1, g2, g3, _, g5, g6⟩ := rdLk hs1 e'
  have key : ∀ H, satL K H [t, u] → (SqT K H a (vals t.kids) ∧ satL K H t.kids) ∧ (SqL K H b (vals u.kids) ∧ satL K H u.kids) := fun H hs => by
    obtain ⟨a', q1, q2, q3, q4, _⟩ := rdTk hs.1 e hk
    obtain ⟨b', p1, p2, p3, p4, _⟩ := rdLk hs.2.1 e'
    rw [f1] at q1
    cases q1
    rw [g1] at p1
    cases p1
    exact ⟨⟨q3, q4⟩, ⟨p3, p4⟩⟩
  have hl : ds.length = (vals t.kids).length := by rw [List.length_map, len_er f2]
  have hl' : es.length = (vals u.kids).length := by rw [List.length_map, len_er g2]
  have hz : (List.zipWith (fun x y => D.n .tup [x, y]) ds es).length = min ds.length es.length := List.length_zipWith
  refine ⟨a, b, f1, g1, f3, g3, fun i H hs hi => ⟨_, _, (key H hs).1.1, (key H hs).2.1, by rw [← hl, ← hl', ← hz]; exact hi⟩, fun i H hs hi => ?_, fun i H x H' hs y d hd => ?_⟩
  · rw [hz] at hi
    obtain ⟨v, hv, _⟩ := er_at f2 (List.getElem?_eq_getElem (show i < ds.length by omega))
    obtain ⟨w, hw, _⟩ := er_at g2 (List.getElem?_eq_getElem (show i < es.length by omega))
    exact ⟨_, _, v.val, w.val, (key H hs).1.1, (key H hs).2.1, vals_at hv, vals_at hw⟩
  · obtain ⟨p, x1, y1, rfl, hp, rfl, z1, z2⟩ := y
    rw [List.getElem?_zipWith] at hd
    cases hc : ds[i]? with
    | none => rw [hc] at hd; simp at hd
    | some c =>
      cases hc' : es[i]? with
      | none => rw [hc, hc'] at hd; simp at hd
      | some c' =>
        rw [hc, hc'] at hd
        have hd : D.n .tup [c, c'] = d := by simpa using hd
        subst hd
        obtain ⟨v, hv, ev⟩ := er_at f2 hc
        obtain ⟨w, hw, ew⟩ := er_at g2 hc'
        have q1 := z1 _ (key _ hs).1.1
        have q2 := z2 _ (key _ hs).2.1
        rw [vals_at hv] at q1
        rw [vals_at hw] at q2
        cases q1
        cases q2
        obtain ⟨x3, s3⟩ := pair_new (K := K) hp (sat_at (key _ hs).1.2 hv) (sat_at (key _ hs).2.2 hw)
        have m1 := List.mem_of_getElem? hv
        have m2 := List.mem_of_getElem? hw
        refine ⟨.n .tup p [v, w], rfl, by rw [T.er, erL, erL, erL, ev, ew], x3, s3, fun c hc => ?_, fun c hc => ?_⟩
        · have n1 := Nat.le_trans (coL_mem (a := c) m1) (f5 c)
          have n2 := Nat.le_trans (coL_mem (a := c) m2) (g5 c)
          simp only [T.co, coL, Kd.own, Bool.false_eq_true, false_and, if_false] at hc ⊢
          omega
        · have n1 := Nat.le_trans (cuL_mem (a := c) m1) (f6 c)
          have n2 := Nat.le_trans (cuL_mem (a := c) m2) (g6 c)
          by_cases q : p = c
          · subst q
            exact .inr hp
          · simp only [T.cu, cuL, q, and_false, if_false] at hc ⊢
            exact .inl (by omega)
end
section
variable {X : Cx} {a b : Expr} {ma mb : PM} {pos p tpos : Pos}
@[simp] def wZTL (m n : PM) : LM := fun env => (m env).bind fun x => (n env).bind fun y => (asT x).bind fun ds => (asL y).map fun es => List.zipWith (fun x y => D.n .tup [x, y]) ds es
theorem sj_zipTL {elts : List Expr} {kk : Nat} (hm : X.mg "zip" = none) (ha : SP X a ma) (hb : SP X b mb) (hg : Gl X "zip" := by rfl) (hs : starEach [a, b] X.env = (false, eval a X.env) :: starEach [b] X.env := by rfl) (hp2 : starEach [b] X.env = (false, eval b X.env) :: starEach [] X.env := by rfl)
    (hpl : (backTo pos (starEach [b] X.env)).any (·.1) = false := by rfl) : SJ X (.Tuple elts kk tpos) (.Call (.Name "zip" p) [a, b] [] pos) (wZTL ma mb) :=
  PI.weak (pi_zipTL hg hm (spa_cons ha (spa_cons hb spa_nil hp2) hs) hs hpl) fun σ H R ⟨env, ds, hm, r, s, k⟩ => by
    obtain ⟨x, hx, hm⟩ := bind_some hm
    obtain ⟨y, hy, hm⟩ := bind_some hm
    obtain ⟨xs, h1, hm⟩ := bind_some hm
    obtain ⟨ys, h2, rfl⟩ := map_some hm
    obtain ⟨kd, h1', hk⟩ := asT_some h1
    subst h1'
    obtain ⟨o', rfl⟩ := asL_some h2
    refine ⟨env, [_, _], by rw [lCons, hx, lCons, hy]; rfl, r, s, fun ts H1 e1 x1 s1 b1 => ?_⟩
    obtain ⟨t, u, rfl, et, eu⟩ := two_er e1
    obtain ⟨a, b, f1, f2, f3, f4, w⟩ := wk_zipTL s1.1 et s1.2.1 eu hk
    exact ⟨a, b, _, _, by rw [vals, List.map_cons, List.map_cons, f1, f2]; rfl, f3, f4, k _ [t, u] H1 x1 s1 b1 w⟩
end
theorem w_ZTL {α β : Type} {c : α → D} {c' : β → D} {m n : PM} {env : Env} {o : Fl} {xs : List α} {ys : List β} (h : m env = some (cQ c xs)) (h' : n env = some (cL o c' ys)) : wZTL m n env = some ((List.zip xs ys).map (cT (k2 c (k1 c')))) := by
  have := w_Z (ma := fun _ => some (cL .s c xs)) (env := env) (o := .s) (c := c) (xs := xs) rfl h'
  unfold wZTL
  rw [h]
  exact this

section
variable {X : Cx} {o e : Expr} {ma mb : PM} {apos cpos : Pos}
def rIndexT (K : PySem.W.Frag) : V → List V → Hp → VK → Prop := fun x xs H Q => ∃ (a : Addr) (ns : List Int) (i : Int), x = V.ref a ∧ xs = [.int i] ∧ SqT K H a (ns.map V.int) ∧ i ∈ ns ∧ Q (.int (ns.idxOf i : Nat)) H
theorem mt_indexT : MtR X "tuple.index" (rIndexT X.K) := by
  intro pins s σ H x xs v us Q I rx rxs h
  obtain ⟨a, ns, i, rfl, rfl, hs, hi, q⟩ := h
  cases rx
  cases rxs with
  | cons ry rt =>
    cases rt
    obtain ⟨t, rfl⟩ := ry
    obtain ⟨its, rv, p, hlen⟩ := I.tuple hs
    refine PySem.SeqAt.tuple_index_ints (vs := its) p (RZ.intsAre_vals rv) hi ?_
    exact ⟨.int (ns.idxOf i : Nat), H, I.tok _, ⟨_, rfl⟩, q⟩
def fIdxT : D → D → Option V
  | .n .ktp ds, .s (.int i) => (intsD ds).bind fun ns => if i ∈ ns then some (.int (ns.idxOf i : Nat)) else none
  | _, _ => none
def mIdxT (ma mb : PM) : PM := fun env => (ma env).bind fun x => (mb env).bind fun y => (fIdxT x y).bind sv
theorem rdKt {K : PySem.W.Frag} {H : Hp} {t : T} {ds : List D} (hs : t.sat K H) (he : t.er = .n .ktp ds) : ∃ a ts, t.val = .ref a ∧ erL ts = ds ∧ SqT K H a (vals ts) ∧ ∃ o, K.lookup a = some o ∧ o.cls = .type "tuple" ∧ o.dict = none := by
  cases t with
  | s v => rw [T.er] at he; cases he
  | n k a ts =>
    rw [T.er] at he
    cases he
    exact absurd hs.1.2 (by simp [Kd.isw])
  | w z k a ts =>
    rw [T.er] at he
    cases k with
    | ktp =>
      cases he
      cases z with
      | true => exact ⟨a, ts, rfl, rfl, sqt_up hs.1.1, hs.1.2⟩
      | false => exact absurd rfl hs.1.1
    | tup => cases he
    | lst _ => cases he
    | dic _ _ => cases he
    | dct _ _ => cases he
theorem sp_indexT (ho : SB X o ma) (ha : SB X e mb)
    (hbase : attributeBase o "index" X.env (eval o X.env) = eval o X.env := by rfl)
    (hfew : ((backTo cpos (starEach ([e]) X.env)).all (fun x => !x.1) && (backToKw cpos (keywordEach [] X.env)).all (fun x => x.1.isSome)
      && decide (([e] : List Expr).length + ([] : List Keyword).length + (if ([] : List Keyword).isEmpty then 0 else 1) < 30)) = true := by rfl)
    (hline : (apos.endLine == cpos.line) = true := by rfl) (hs : starEach [e] X.env = (false, eval e X.env) :: starEach [] X.env := by rfl) : SP X (.Call (.Attribute o "index" apos) [e] [] cpos) (mIdxT ma mb) :=
  PE.weak (pe_bm (T := "tuple") PySem.F.plainAttrs_tuple PySem.F.slot_tuple_index PySem.F.type_tuple_index mt_indexT ho (pa_cons ha pa_nil hs) hbase hfew hline hs (by rfl)) fun σ H Q ⟨env, d, hm, r, s, k⟩ => by
    obtain ⟨x, hx, hm⟩ := bind_some hm
    obtain ⟨y, hy, hm⟩ := bind_some hm
    obtain ⟨v, hv, hm⟩ := bind_some hm
    obtain ⟨s1, rfl⟩ := sv_some hm
    refine ⟨env, x, hx, r, s, fun t H1 e1 x1 s1' b1 => ?_⟩
    subst e1
    unfold fIdxT at hv
    split at hv
    case h_2 => cases hv
    rename_i ds i g1
    obtain ⟨ns, g3, hv⟩ := bind_some hv
    split at hv
    case isFalse => cases hv
    rename_i hi
    cases hv
    obtain ⟨a, ts, f1, f2, f3, f4⟩ := rdKt s1' g1
    rw [f1]
    refine ⟨.inr (.inl ⟨rfl, f4⟩), ?_⟩
    refine ⟨env, _, hy, r, s.ex x1, fun u H2 e2 x2 s2 b2 => ?_⟩
    have hu := er_int e2
    obtain ⟨a', ts', f1', f2', f3', _⟩ := rdKt (sat_ex x2 s1') g1
    rw [f1] at f1'
    cases f1'
    have ht : ts' = ns.map fun i => T.s (.int i) := intsD_of (by rw [f2']; exact g3)
    rw [ht, vals_ints] at f3'
    exact ⟨a, ns, i, rfl, by rw [hu]; rfl, f3', hi, k (.s (.int (ns.idxOf i : Nat))) H2 rfl (x1.trans x2) trivial own_s⟩
end
section
open Ty
theorem v_indexQ {ma mb : PM} {env : Env} {xs : List Int} {i : Int} (h1 : ma env = some (cQ cI xs)) (h2 : mb env = some (cI i)) : EV (mIdxT ma mb) env (ixOf xs i) cI := fun x e => by
  unfold ixOf at e
  split at e
  · rename_i h
    cases e
    unfold mIdxT
    rw [h1, Option.bind_some, h2, Option.bind_some]
    unfold fIdxT cQ cI
    dsimp only
    rw [show (xs.map fun x => D.s (.int x)) = xs.map cI from rfl, intsD_cod, Option.bind_some, if_pos h]; rfl
  · cases e
end
section
open Ty
theorem w_ET {α : Type} {c : α → D} {m : PM} {env : Env} {xs : List α} (h : m env = some (.n .tup (xs.map c))) : wET m env = some ((enu 0 xs).map (cT (k2 cI (k1 c)))) := by
  have := w_E (m := fun _ => some (cL .s c xs)) (env := env) (o := .s) (c := c) (xs := xs) rfl
  unfold wET
  rw [h]
  exact this
end
end Ow
namespace Ow
open PySem L2 Ty
section
variable {α β ρ σ : Type} {env : Env} {P : Pat} {c : α → D} {i : Nat}
end
end Ow

set_option maxHeartbeats 1000000

namespace Ow
open PySem L2
def mDinV (mx my : PM) : PM := fun env => (mDin mx my env).map fun b => .s (.bl b)
def mDninV (mx my : PM) : PM := fun env => (mDnin mx my env).map fun b => .s (.bl b)
section
variable {X : Cx} {k : Nat} {i o : Expr} {mx my : PM} {pos : Pos}
end
section
open Ty
end
end Ow

namespace Ow
open PySem L2 Ty
section
variable {α β γ σ τ ρ : Type} {env : Env} {P P1 P2 : Pat} {ma mb m : PM} {mt mu : BM} {ml : LM} {mi : IM} {me m1 m2 : EM} {c c' : α → D} {d : D}


def EEL (m : IM) (env : Env) (o : Option α) (k : α → List D × Pat) : Prop := ∀ x, o = some x → ∃ e, m env = some ((k x).1, e) ∧ Mt (k x).2 e





end
end Ow

set_option maxHeartbeats 1000000

namespace Ow
open PySem L2
def setT : List Nat → T → T → T
  | [], _, v => v
  | j :: p, t, v => match t.kids[j]? with
    | some u => rek t (t.kids.set j (setT p u v))
    | none => t
def setD : List Nat → D → D → D
  | [], _, v => v
  | j :: p, .n k ds, v => match ds[j]? with
    | some x => .n k (ds.set j (setD p x v))
    | none => .n k ds
  | _ :: _, .s x, _ => .s x
section
variable {K : PySem.W.Frag} {H : Hp}
end
@[simp] def sAlias (i j : Nat) (pm : Env → Option (List Nat)) (mb : SM) : SM := fun env => (pm env).bind fun p => (env[i]?.join).bind fun d => (atD p d).bind fun u => (mb ((env.set i none).set j (some u))).bind fun x => match x.1 with
  | .nx => (x.2[j]?.join).bind fun u' => some (.nx, (x.2.set j none).set i (some (setD p d u')))
  | _ => none
section
variable {X : Cx} {P : List Nat} {mb nS : SM} {a : Expr} {b1 : Stmt} {rest : List Stmt} {pm : Env → Option (List Nat)}
end
end Ow

set_option maxHeartbeats 1000000
namespace Ow
open PySem L2 Ty
section
variable {X : Cx} {P : List Nat} {mb nS : SM} {a : Expr} {b1 : Stmt} {rest : List Stmt} {pm : Env → Option (List Nat)}
end

section
variable {α β γ σ ρ ζ τ κ : Type} {env : Env} {P P1 P2 : Pat} {mb m : PM} {c : α → D} {cz : ζ → D} {cj : κ → D}
variable {K : β → O → Prop} {Q : β → Pat} {n mS : SM} {i : Nat} {pm : Env → Option (List Nat)} {x : α} {up : ζ → α}
structure PLt (pm : Env → Option (List Nat)) (env : Env) (i : Nat) (x : α) (c : α → D) (z : ζ) (cz : ζ → D) (up : ζ → α) : Prop where
  ex : ∃ p, pm env = some p ∧ atD p (c x) = some (cz z) ∧ (∀ z', setD p (c x) (cz z') = c (up z')) ∧ ∀ (q : List Nat) (F : List D → Option (List D)) (z' : ζ), modD q F (cz z) = some (cz z') → modD (p ++ q) F (c x) = some (c (up z'))
  sl : env[i]?.join = some (c x)
end
end Ow
namespace Ow
open PySem L2 Ty
def sFrz (i : Nat) (m : SM) : SM := fun env => m (frzAt i env)
section
variable {X : Cx} {P : List Nat} {mS : SM} {rest : List Stmt}
theorem sss_frzN (i : Nat) (h : SSs X P rest mS) : SSs X P rest (sFrz i mS) := sss_frz i h
end
section
variable {β : Type} {env : Env} {P : Pat} {o : Option β} {K : β → O → Prop} {Q : β → Pat} {mS n : SM}
theorem s_frzN {i : Nat} {τ : Type} {ct ct' : τ → D} [Fz ct ct'] {a : τ} (h : Mt P env) (hi : P[i]? = some (some (ct a))) (h2 : ∀ e, Mt (P.set i (some (ct' a))) e → ES mS e o K Q) : ES (sFrz i mS) env o K Q := s_frz h hi h2
end
end Ow

namespace Lw
open PySem L2 Ow
def topS (i : Nat) : Stmt := PySem.Challenge.pw_ringfloor_k38_numbers_read_back.main.body.getD i (.Pass ⟨0, 0, 0, 0⟩)
structure Fs where
  f_orders_of : Addr
  f_mate_of : Addr
  f_check_end : Addr
  f_count_ends : Addr
  f_homes_of : Addr
  f_behind_of : Addr
  f_ring_from : Addr
  f_begun_least : Addr
  f_fours : Addr
  f_threes : Addr
  f_fours_by : Addr
  f_threes_by : Addr
  f_check_numbers : Addr
  f_are_numbers : Addr
  f_rights_of : Addr
  f_uppers_of : Addr
  f_laid_out : Addr
  f_groups : Addr
  f_drain : Addr
  f_lands_of : Addr
  f_land_from : Addr
  f_parts_of : Addr
  f_read_kind : Addr
  f_sort_of : Addr
  f_all_are : Addr
  f_straight_line : Addr
  f_upper_right : Addr
  f_lay_by : Addr
  f__law_mixed : Addr
  f__law_take : Addr
  f__law_whole : Addr
  f__law_row : Addr
  f__law_rows : Addr
  f__law_least : Addr
  f__law_fours : Addr
  f__law_down : Addr
  f__law_threes : Addr
  f__law_numbers : Addr
  f__law_kind : Addr
  f__law_told : Addr
  f__law_lay : Addr
  f_law : Addr
structure Ds where
  f_orders_of : FuncData
  f_mate_of : FuncData
  f_check_end : FuncData
  f_count_ends : FuncData
  f_homes_of : FuncData
  f_behind_of : FuncData
  f_ring_from : FuncData
  f_begun_least : FuncData
  f_fours : FuncData
  f_threes : FuncData
  f_fours_by : FuncData
  f_threes_by : FuncData
  f_check_numbers : FuncData
  f_are_numbers : FuncData
  f_rights_of : FuncData
  f_uppers_of : FuncData
  f_laid_out : FuncData
  f_groups : FuncData
  f_drain : FuncData
  f_lands_of : FuncData
  f_land_from : FuncData
  f_parts_of : FuncData
  f_read_kind : FuncData
  f_sort_of : FuncData
  f_all_are : FuncData
  f_straight_line : FuncData
  f_upper_right : FuncData
  f_lay_by : FuncData
  f__law_mixed : FuncData
  f__law_take : FuncData
  f__law_whole : FuncData
  f__law_row : FuncData
  f__law_rows : FuncData
  f__law_least : FuncData
  f__law_fours : FuncData
  f__law_down : FuncData
  f__law_threes : FuncData
  f__law_numbers : FuncData
  f__law_kind : FuncData
  f__law_told : FuncData
  f__law_lay : FuncData
  f_law : FuncData
structure Tx (K : PySem.W.Frag) (mg : PySem.Str → Option Value) (f : Fs) (fd : Ds) : Prop where
  F_orders_of : Fun K "orders_of" "orders_of" (topS 6) f.f_orders_of fd.f_orders_of
  g_orders_of : mg "orders_of" = some (.ref f.f_orders_of)
  b_orders_of : Binds K fd.f_orders_of ["drawing"] []
  F_mate_of : Fun K "mate_of" "mate_of" (topS 7) f.f_mate_of fd.f_mate_of
  g_mate_of : mg "mate_of" = some (.ref f.f_mate_of)
  b_mate_of : Binds K fd.f_mate_of ["end"] []
  F_check_end : Fun K "check_end" "check_end" (topS 8) f.f_check_end fd.f_check_end
  g_check_end : mg "check_end" = some (.ref f.f_check_end)
  b_check_end : Binds K fd.f_check_end ["drawing", "end"] []
  F_count_ends : Fun K "count_ends" "count_ends" (topS 9) f.f_count_ends fd.f_count_ends
  g_count_ends : mg "count_ends" = some (.ref f.f_count_ends)
  b_count_ends : Binds K fd.f_count_ends ["rows"] []
  F_homes_of : Fun K "homes_of" "homes_of" (topS 10) f.f_homes_of fd.f_homes_of
  g_homes_of : mg "homes_of" = some (.ref f.f_homes_of)
  b_homes_of : Binds K fd.f_homes_of ["drawing"] []
  F_behind_of : Fun K "behind_of" "behind_of" (topS 11) f.f_behind_of fd.f_behind_of
  g_behind_of : mg "behind_of" = some (.ref f.f_behind_of)
  b_behind_of : Binds K fd.f_behind_of ["drawing"] []
  F_ring_from : Fun K "ring_from" "ring_from" (topS 12) f.f_ring_from fd.f_ring_from
  g_ring_from : mg "ring_from" = some (.ref f.f_ring_from)
  b_ring_from : Binds K fd.f_ring_from ["behind", "end"] []
  F_begun_least : Fun K "begun_least" "begun_least" (topS 13) f.f_begun_least fd.f_begun_least
  g_begun_least : mg "begun_least" = some (.ref f.f_begun_least)
  b_begun_least : Binds K fd.f_begun_least ["row"] []
  F_fours : Fun K "fours" "fours" (topS 19) f.f_fours fd.f_fours
  g_fours : mg "fours" = some (.ref f.f_fours)
  b_fours : Binds K fd.f_fours ["rows", "columns", "shift"] []
  F_threes : Fun K "threes" "threes" (topS 20) f.f_threes fd.f_threes
  g_threes : mg "threes" = some (.ref f.f_threes)
  b_threes : Binds K fd.f_threes ["rows", "columns", "shift"] []
  F_fours_by : Fun K "fours_by" "fours_by" (topS 21) f.f_fours_by fd.f_fours_by
  g_fours_by : mg "fours_by" = some (.ref f.f_fours_by)
  b_fours_by : Binds K fd.f_fours_by ["rows", "columns", "shift"] []
  F_threes_by : Fun K "threes_by" "threes_by" (topS 22) f.f_threes_by fd.f_threes_by
  g_threes_by : mg "threes_by" = some (.ref f.f_threes_by)
  b_threes_by : Binds K fd.f_threes_by ["rows", "columns", "shift"] []
  F_check_numbers : Fun K "check_numbers" "check_numbers" (topS 23) f.f_check_numbers fd.f_check_numbers
  g_check_numbers : mg "check_numbers" = some (.ref f.f_check_numbers)
  b_check_numbers : Binds K fd.f_check_numbers ["rows", "columns", "shift"] []
  F_are_numbers : Fun K "are_numbers" "are_numbers" (topS 24) f.f_are_numbers fd.f_are_numbers
  g_are_numbers : mg "are_numbers" = some (.ref f.f_are_numbers)
  b_are_numbers : Binds K fd.f_are_numbers ["rows", "columns", "shift"] []
  F_rights_of : Fun K "rights_of" "rights_of" (topS 25) f.f_rights_of fd.f_rights_of
  g_rights_of : mg "rights_of" = some (.ref f.f_rights_of)
  b_rights_of : Binds K fd.f_rights_of ["rows", "columns"] []
  F_uppers_of : Fun K "uppers_of" "uppers_of" (topS 26) f.f_uppers_of fd.f_uppers_of
  g_uppers_of : mg "uppers_of" = some (.ref f.f_uppers_of)
  b_uppers_of : Binds K fd.f_uppers_of ["rows", "columns", "shift"] []
  F_laid_out : Fun K "laid_out" "laid_out" (topS 27) f.f_laid_out fd.f_laid_out
  g_laid_out : mg "laid_out" = some (.ref f.f_laid_out)
  b_laid_out : Binds K fd.f_laid_out ["steps", "clock"] []
  F_groups : Fun K "groups" "groups" (topS 29) f.f_groups fd.f_groups
  g_groups : mg "groups" = some (.ref f.f_groups)
  b_groups : Binds K fd.f_groups ["near", "places"] []
  F_drain : Fun K "drain" "drain" (topS 30) f.f_drain fd.f_drain
  g_drain : mg "drain" = some (.ref f.f_drain)
  b_drain : Binds K fd.f_drain ["near", "waiting", "start"] []
  F_lands_of : Fun K "lands_of" "lands_of" (topS 32) f.f_lands_of fd.f_lands_of
  g_lands_of : mg "lands_of" = some (.ref f.f_lands_of)
  b_lands_of : Binds K fd.f_lands_of ["drawing"] []
  F_land_from : Fun K "land_from" "land_from" (topS 33) f.f_land_from fd.f_land_from
  g_land_from : mg "land_from" = some (.ref f.f_land_from)
  b_land_from : Binds K fd.f_land_from ["behind", "first"] []
  F_parts_of : Fun K "parts_of" "parts_of" (topS 34) f.f_parts_of fd.f_parts_of
  g_parts_of : mg "parts_of" = some (.ref f.f_parts_of)
  b_parts_of : Binds K fd.f_parts_of ["drawing"] []
  F_read_kind : Fun K "read_kind" "read_kind" (topS 36) f.f_read_kind fd.f_read_kind
  g_read_kind : mg "read_kind" = some (.ref f.f_read_kind)
  b_read_kind : Binds K fd.f_read_kind ["drawing", "end"] []
  F_sort_of : Fun K "sort_of" "sort_of" (topS 37) f.f_sort_of fd.f_sort_of
  g_sort_of : mg "sort_of" = some (.ref f.f_sort_of)
  b_sort_of : Binds K fd.f_sort_of ["drawing"] []
  F_all_are : Fun K "all_are" "all_are" (topS 38) f.f_all_are fd.f_all_are
  g_all_are : mg "all_are" = some (.ref f.f_all_are)
  b_all_are : Binds K fd.f_all_are ["numbers", "wanted"] []
  F_straight_line : Fun K "straight_line" "straight_line" (topS 39) f.f_straight_line fd.f_straight_line
  g_straight_line : mg "straight_line" = some (.ref f.f_straight_line)
  b_straight_line : Binds K fd.f_straight_line ["behind", "first", "size"] []
  F_upper_right : Fun K "upper_right" "upper_right" (topS 40) f.f_upper_right fd.f_upper_right
  g_upper_right : mg "upper_right" = some (.ref f.f_upper_right)
  b_upper_right : Binds K fd.f_upper_right ["behind", "right", "clock"] []
  F_lay_by : Fun K "lay_by" "lay_by" (topS 41) f.f_lay_by fd.f_lay_by
  g_lay_by : mg "lay_by" = some (.ref f.f_lay_by)
  b_lay_by : Binds K fd.f_lay_by ["behind", "rights", "clock"] []
  F__law_mixed : Fun K "_law_mixed" "_law_mixed" (topS 43) f.f__law_mixed fd.f__law_mixed
  g__law_mixed : mg "_law_mixed" = some (.ref f.f__law_mixed)
  b__law_mixed : Binds K fd.f__law_mixed ["_law_cell", "_law_k", "_law_many"] []
  F__law_take : Fun K "_law_take" "_law_take" (topS 44) f.f__law_take fd.f__law_take
  g__law_take : mg "_law_take" = some (.ref f.f__law_take)
  b__law_take : Binds K fd.f__law_take ["_law_box", "_law_many"] []
  F__law_whole : Fun K "_law_whole" "_law_whole" (topS 45) f.f__law_whole fd.f__law_whole
  g__law_whole : mg "_law_whole" = some (.ref f.f__law_whole)
  b__law_whole : Binds K fd.f__law_whole ["_law_found"] []
  F__law_row : Fun K "_law_row" "_law_row" (topS 46) f.f__law_row fd.f__law_row
  g__law_row : mg "_law_row" = some (.ref f.f__law_row)
  b__law_row : Binds K fd.f__law_row ["_law_found", "_law_due"] []
  F__law_rows : Fun K "_law_rows" "_law_rows" (topS 47) f.f__law_rows fd.f__law_rows
  g__law_rows : mg "_law_rows" = some (.ref f.f__law_rows)
  b__law_rows : Binds K fd.f__law_rows ["_law_found", "_law_due"] []
  F__law_least : Fun K "_law_least" "_law_least" (topS 48) f.f__law_least fd.f__law_least
  g__law_least : mg "_law_least" = some (.ref f.f__law_least)
  b__law_least : Binds K fd.f__law_least ["_law_row_here"] []
  F__law_fours : Fun K "_law_fours" "_law_fours" (topS 49) f.f__law_fours fd.f__law_fours
  g__law_fours : mg "_law_fours" = some (.ref f.f__law_fours)
  b__law_fours : Binds K fd.f__law_fours ["_law_r", "_law_c", "_law_s"] []
  F__law_down : Fun K "_law_down" "_law_down" (topS 50) f.f__law_down fd.f__law_down
  g__law_down : mg "_law_down" = some (.ref f.f__law_down)
  b__law_down : Binds K fd.f__law_down ["_law_r", "_law_c", "_law_s", "_law_p"] []
  F__law_threes : Fun K "_law_threes" "_law_threes" (topS 51) f.f__law_threes fd.f__law_threes
  g__law_threes : mg "_law_threes" = some (.ref f.f__law_threes)
  b__law_threes : Binds K fd.f__law_threes ["_law_r", "_law_c", "_law_s"] []
  F__law_numbers : Fun K "_law_numbers" "_law_numbers" (topS 52) f.f__law_numbers fd.f__law_numbers
  g__law_numbers : mg "_law_numbers" = some (.ref f.f__law_numbers)
  b__law_numbers : Binds K fd.f__law_numbers ["_law_box"] []
  F__law_kind : Fun K "_law_kind" "_law_kind" (topS 53) f.f__law_kind fd.f__law_kind
  g__law_kind : mg "_law_kind" = some (.ref f.f__law_kind)
  b__law_kind : Binds K fd.f__law_kind ["_law_sort", "_law_r", "_law_c", "_law_s"] []
  F__law_told : Fun K "_law_told" "_law_told" (topS 54) f.f__law_told fd.f__law_told
  g__law_told : mg "_law_told" = some (.ref f.f__law_told)
  b__law_told : Binds K fd.f__law_told ["_law_told_here", "_law_sort", "_law_numbers_here"] []
  F__law_lay : Fun K "_law_lay" "_law_lay" (topS 55) f.f__law_lay fd.f__law_lay
  g__law_lay : mg "_law_lay" = some (.ref f.f__law_lay)
  b__law_lay : Binds K fd.f__law_lay ["_law_r", "_law_c", "_law_s", "_law_place", "_law_many"] []
  F_law : Fun K "law" "law" (topS 56) f.f_law fd.f_law
  g_law : mg "law" = some (.ref f.f_law)
  b_law : Binds K fd.f_law ["_law_script"] []
  m_all : mg "all" = none
  m_bool : mg "bool" = none
  m_enumerate : mg "enumerate" = none
  m_int : mg "int" = none
  m_isinstance : mg "isinstance" = none
  m_len : mg "len" = none
  m_list : mg "list" = none
  m_min : mg "min" = none
  m_range : mg "range" = none
  m_sorted : mg "sorted" = none
  m_str : mg "str" = none
  m_sum : mg "sum" = none
  m_tuple : mg "tuple" = none
  m_zip : mg "zip" = none
  c_FOURS_CLOCK : ∃ a, mg "FOURS_CLOCK" = some (.ref a) ∧ SqT K (fun _ => none) a ([0, 3, 1, 2].map V.int) ∧ ∃ o, K.lookup a = some o ∧ o.cls = .type "tuple" ∧ o.dict = none
  c_MOST_KIND_PLACES : ∃ t, mg "MOST_KIND_PLACES" = some (.int 40 t)
  c_THREES_CLOCK : ∃ a, mg "THREES_CLOCK" = some (.ref a) ∧ SqT K (fun _ => none) a ([0, 3, 5, 1, 2, 4].map V.int) ∧ ∃ o, K.lookup a = some o ∧ o.cls = .type "tuple" ∧ o.dict = none
  c_UP_SLOT : ∃ t, mg "UP_SLOT" = some (.int 2 t)
section
variable {P : Program} {w : World} {K : PySem.W.Frag} {mg : PySem.Str → Option Value} {base : Heap} {f : Fs} {fd : Ds}

abbrev nn_mate_of : List PySem.Str := ["end"]
theorem sc_mate_of : FnScope nn_mate_of ["end"] (defScope (topS 7)) := ⟨rfl, rfl, rfl, by decide +kernel, rfl, by decide +kernel, by decide +kernel⟩
def bb_mate_of : SM := (sRet (lift (mOp2 fXor (mVar 0) (mC (.int 1)))))
def ff_mate_of : FM := runP 1 bb_mate_of
theorem ok_mate_of (T : Tx K mg f fd) : FnOk P w K mg base CX0 1 f.f_mate_of fd.f_mate_of ["end"] (spP K 1 ff_mate_of) :=
  have sc := sc_mate_of
  fn_pure T.F_mate_of sc (by decide) fun cdv A outer s H E hr => (sss_one (ss_ret (se_p (sp_xor (sb_var 0) (SP.sb sp_int)))))

abbrev nn_count_ends : List PySem.Str := ["rows", "row"]
theorem sc_count_ends : FnScope nn_count_ends ["rows"] (defScope (topS 9)) := ⟨rfl, rfl, rfl, by decide +kernel, rfl, by decide +kernel, by decide +kernel⟩
def bb_count_ends : SM := (sRet (lift (mCall fSum (lCons (mLc (wL (mVar 0)) (.nm 1) bYes (mCall fLen (lCons (mVar 1) lNil)) [1]) lNil))))
def ff_count_ends : FM := runP 2 bb_count_ends
theorem ok_count_ends (T : Tx K mg f fd) : FnOk P w K mg base CX0 1 f.f_count_ends fd.f_count_ends ["rows"] (spP K 1 ff_count_ends) :=
  have sc := sc_count_ends
  fn_pure T.F_count_ends sc (by decide) fun cdv A outer s H E hr => (sss_one (ss_ret (se_p (sp_callB (cr_sum rfl) opn_sum bt_sum T.m_sum (sba_cons (SP.sb (sp_lc (own := [("row", 1)]) rfl sc.nd (si_list (sb_var 0)) (okb (N := nn_count_ends) (sc := defScope (topS 9)) (by decide +kernel)) (fun _ _ _ _ _ => (sg_name 1 sc.nd)) (fun _ _ _ _ _ => sts_nil) (fun _ _ _ _ _ => (sp_callB call_len_seq opn_len bt_len T.m_len (sba_cons (sb_var 1) sba_nil))) (by simp [Tg.sl, slL]))) sba_nil)))))

abbrev nn_ring_from : List PySem.Str := ["behind", "end", "ring"]
theorem sc_ring_from : FnScope nn_ring_from ["behind", "end"] (defScope (topS 12)) := ⟨rfl, rfl, rfl, by decide +kernel, rfl, by decide +kernel, by decide +kernel⟩
def bb_ring_from : SM := (sSeq (sSet 2 (lift (mk (.lst .o) (lCons (mPure (mVar 1)) lNil)))) (sSeq (whD (liftT (mB (mOp2 fNe (mItem (mVar 0) (mItem (mVar 2) (mOp1 fNeg (mC (.int 1))))) (mVar 1)))) (sApp 2 (plName 2) (lift (mPure (mItem (mVar 0) (mItem (mVar 2) (mOp1 fNeg (mC (.int 1)))))))) 100000) (sRet (eMove 2))))
def ff_ring_from : FM := runP 3 bb_ring_from
theorem ok_ring_from (T : Tx K mg f fd) : FnOk P w K mg base CX0 1 f.f_ring_from fd.f_ring_from ["behind", "end"] (spP K 2 ff_ring_from) :=
  have sc := sc_ring_from
  fn_pure T.F_ring_from sc (by decide) fun cdv A outer s H E hr => (sss_cons (ss_set 2 sc.nd (by decide) (se_p (sp_lst (spa_cons (sp_pure (sb_var 1)) spa_nil)))) (sss_cons (ss_while 100000 PassesOwn.never (set_t (st_ne hr (sb_item (sb_var 0) (sb_item (sb_var 2) (SP.sb (sp_neg (SP.sb sp_int))))) (sb_var 1))) (sss_one (ss_append (spl_name 2) (se_p (sp_item (sb_var 0) (sb_item (sb_var 2) (SP.sb (sp_neg (SP.sb sp_int))))))))) (sss_one (ss_ret (se_move 2 (by decide))))))

abbrev nn_begun_least : List PySem.Str := ["row", "at"]
theorem sc_begun_least : FnScope nn_begun_least ["row"] (defScope (topS 13)) := ⟨rfl, rfl, rfl, by decide +kernel, rfl, by decide +kernel, by decide +kernel⟩
def bb_begun_least : SM := (sSeq (sIf (liftT (mNotT (mTru (mVar 0)))) (sRet (lift (mk (.lst .o) lNil))) sNx) (sSeq (sSet 1 (lift (mIdx (mVar 0) (mCall fMinL (lCons (mVar 0) lNil))))) (sRet (lift (mCat (mSl (mVar 0) (oYes (mVar 1)) oNo) (mSl (mVar 0) oNo (oYes (mVar 1))))))))
def ff_begun_least : FM := runP 2 bb_begun_least
theorem ok_begun_least (T : Tx K mg f fd) : FnOk P w K mg base CX0 1 f.f_begun_least fd.f_begun_least ["row"] (spP K 1 ff_begun_least) :=
  have sc := sc_begun_least
  fn_pure T.F_begun_least sc (by decide) fun cdv A outer s H E hr => (sss_cons (ss_if (set_t (st_not (st_tru (sb_var 0)))) (sss_one (ss_ret (se_p (sp_lst spa_nil)))) sss_nil) (sss_cons (ss_set 1 sc.nd (by decide) (se_p (sp_index (sb_var 0) (SP.sb (sp_callB (cr_min rfl) opn_min bt_min T.m_min (sba_cons (sb_var 0) sba_nil)))))) (sss_one (ss_ret (se_p (sp_cat (SP.sb (sp_slice (sb_var 0) (so_some (sb_var 1)) so_none)) (SP.sb (sp_slice (sb_var 0) so_none (so_some (sb_var 1))))))))))

abbrev nn_are_numbers : List PySem.Str := ["rows", "columns", "shift"]
theorem sc_are_numbers : FnScope nn_are_numbers ["rows", "columns", "shift"] (defScope (topS 24)) := ⟨rfl, rfl, rfl, by decide +kernel, rfl, by decide +kernel, by decide +kernel⟩
def bb_are_numbers : SM := (sRet (lift (mAndV (mOp2 fGe (mVar 0) (mC (.int 1))) (mAndV (mOp2 fGe (mVar 1) (mC (.int 1))) (mChain fLe fLt (mC (.int 0)) (mVar 2) (mVar 1))))))
def ff_are_numbers : FM := runP 3 bb_are_numbers
theorem ok_are_numbers (T : Tx K mg f fd) : FnOk P w K mg base CX0 1 f.f_are_numbers fd.f_are_numbers ["rows", "columns", "shift"] (spP K 3 ff_are_numbers) :=
  have sc := sc_are_numbers
  fn_pure T.F_are_numbers sc (by decide) fun cdv A outer s H E hr => (sss_one (ss_ret (se_p (sp_and (sp_ge (sb_var 0) (SP.sb sp_int)) (sp_and (sp_ge (sb_var 1) (SP.sb sp_int)) (sp_one (sp_chain op_le op_lt op2_I0 op2_I0 (SP.sb sp_int) (sb_var 2) (sb_var 1))))))))

abbrev nn_rights_of : List PySem.Str := ["rows", "columns", "row", "column"]
theorem sc_rights_of : FnScope nn_rights_of ["rows", "columns"] (defScope (topS 25)) := ⟨rfl, rfl, rfl, by decide +kernel, rfl, by decide +kernel, by decide +kernel⟩
def bb_rights_of : SM := (sRet (lift (mLc2 (wR (rg1 (mVar 0))) (.nm 2) bYes (wR (rg1 (mVar 1))) (.nm 3) bYes (mOp2 fAdd (mOp2 fMul (mVar 2) (mVar 1)) (mOp2 fMod (mOp2 fAdd (mVar 3) (mC (.int 1))) (mVar 1))) [2, 3] [3])))
def ff_rights_of : FM := runP 4 bb_rights_of
theorem ok_rights_of (T : Tx K mg f fd) : FnOk P w K mg base CX0 1 f.f_rights_of fd.f_rights_of ["rows", "columns"] (spP K 2 ff_rights_of) :=
  have sc := sc_rights_of
  fn_pure T.F_rights_of sc (by decide) fun cdv A outer s H E hr => (sss_one (ss_ret (se_p (sp_lc2 (own := [("row", 2), ("column", 3)]) (own1 := [3]) rfl sc.nd (si_range1 T.m_range (sb_var 0)) (okb (N := nn_rights_of) (sc := defScope (topS 25)) (by decide +kernel)) (by simp) (fun _ _ _ _ _ => (sg_name 2 sc.nd)) (fun _ _ _ _ _ => sts_nil) (fun _ _ _ _ _ => (si_range1 T.m_range (sb_var 1))) (fun _ _ _ _ _ => (sg_name 3 sc.nd)) (fun _ _ _ _ _ => sts_nil) (fun _ _ _ _ _ => (sp_add (SP.sb (sp_mul (sb_var 2) (sb_var 1))) (SP.sb (sp_mod (SP.sb (sp_add (sb_var 3) (SP.sb sp_int))) (sb_var 1))))) (by simp [Tg.sl, slL]) (by simp [Tg.sl, slL])))))

abbrev nn_uppers_of : List PySem.Str := ["rows", "columns", "shift", "inner", "place", "column"]
theorem sc_uppers_of : FnScope nn_uppers_of ["rows", "columns", "shift"] (defScope (topS 26)) := ⟨rfl, rfl, rfl, by decide +kernel, rfl, by decide +kernel, by decide +kernel⟩
def bb_uppers_of : SM := (sSeq (sSet 3 (lift (mLc (wR (rg1 (mOp2 fMul (mOp2 fSub (mVar 0) (mC (.int 1))) (mVar 1)))) (.nm 4) bYes (mOp2 fAdd (mVar 4) (mVar 1)) [4]))) (sRet (lift (mCat (mVar 3) (mLc (wR (rg1 (mVar 1))) (.nm 5) bYes (mOp2 fMod (mOp2 fAdd (mVar 5) (mVar 2)) (mVar 1)) [5])))))
def ff_uppers_of : FM := runP 6 bb_uppers_of
theorem ok_uppers_of (T : Tx K mg f fd) : FnOk P w K mg base CX0 1 f.f_uppers_of fd.f_uppers_of ["rows", "columns", "shift"] (spP K 3 ff_uppers_of) :=
  have sc := sc_uppers_of
  fn_pure T.F_uppers_of sc (by decide) fun cdv A outer s H E hr => (sss_cons (ss_setLc (own := [("place", 4)]) 3 (by decide) rfl sc.nd (si_range1 T.m_range (SP.sb (sp_mul (SP.sb (sp_sub (sb_var 0) (SP.sb sp_int))) (sb_var 1)))) (okb (N := nn_uppers_of) (sc := defScope (topS 26)) (by decide +kernel)) (fun _ _ _ _ _ => (sg_name 4 sc.nd)) (fun _ _ _ _ _ => sts_nil) (fun _ _ _ _ _ => (sp_add (sb_var 4) (sb_var 1))) (by simp [Tg.sl, slL]) (sw_true rfl rfl rfl (by decide +kernel))) (sss_one (ss_ret (se_p (sp_cat (sb_var 3) (SP.sb (sp_lc (own := [("column", 5)]) rfl sc.nd (si_range1 T.m_range (sb_var 1)) (okb (N := nn_uppers_of) (sc := defScope (topS 26)) (by decide +kernel)) (fun _ _ _ _ _ => (sg_name 5 sc.nd)) (fun _ _ _ _ _ => sts_nil) (fun _ _ _ _ _ => (sp_mod (SP.sb (sp_add (sb_var 5) (sb_var 2))) (sb_var 1))) (by simp [Tg.sl, slL]))))))))

abbrev nn_drain : List PySem.Str := ["near", "waiting", "start", "group", "at", "here", "place"]
theorem sc_drain : FnScope nn_drain ["near", "waiting", "start"] (defScope (topS 30)) := ⟨rfl, rfl, rfl, by decide +kernel, rfl, by decide +kernel, by decide +kernel⟩
def bb_drain : SM := (sSeq (sDdel 1 (mVar 2)) (sSeq (sSet 3 (lift (mk (.lst .o) (lCons (mPure (mVar 2)) lNil)))) (sSeq (sSet 4 (lift (mC (.int 0)))) (sSeq (whD (liftT (mB (mOp2 fLt (mVar 4) (mCall fLen (lCons (mVar 3) lNil))))) (sSeq (sSet 5 (lift (mPure (mItem (mVar 3) (mVar 4))))) (sSeq (sFor (wL (mPure (mItem (mVar 0) (mVar 5)))) (.nm 6) (sIf (liftT (mDin (mVar 6) (mVar 1))) (sSeq (sDdel 1 (mVar 6)) (sApp 3 (plName 3) (lift (mPure (mVar 6))))) sNx)) (sAugF 4 fAdd (mC (.int 1))))) 100000) (sRet (eMove 3))))))
def ff_drain : FMu := runM 7 [1] bb_drain
theorem ok_drain (T : Tx K mg f fd) : FnOk P w K mg base CX0 1 f.f_drain fd.f_drain ["near", "waiting", "start"] (spM K 3 [1] ff_drain) :=
  have sc := sc_drain
  fn_mut T.F_drain sc (by decide) (by decide) fun cdv A outer s H E hr => (sss_cons (ss_ddel (spl_name 1) (sb_var 2)) (sss_cons (ss_set 3 sc.nd (by decide) (se_p (sp_lst (spa_cons (sp_pure (sb_var 2)) spa_nil)))) (sss_cons (ss_set 4 sc.nd (by decide) (se_p sp_int)) (sss_cons (ss_while 100000 PassesOwn.never (set_t (st_lt (sb_var 4) (SP.sb (sp_callB call_len_seq opn_len bt_len T.m_len (sba_cons (sb_var 3) sba_nil))))) (sss_cons (ss_set 5 sc.nd (by decide) (se_p (sp_item (sb_var 3) (sb_var 4)))) (sss_cons (ss_for rfl PassesOwn.never (sj_list (sp_item (sb_var 0) (sb_var 5))) (sg_name 6 sc.nd) (sss_one (ss_if (set_t (st_din hr (sb_var 6) (sb_var 1))) (sss_cons (ss_ddel (spl_name 1) (sb_var 6)) (sss_one (ss_append (spl_name 3) (se_p (sp_pure (sb_var 6)))))) sss_nil)) (by simp [Tg.sl, slL])) (sss_one (ss_augAdd 4 sc.nd (by decide) (SP.sb sp_int)))))) (sss_one (ss_ret (se_move 3 (by decide))))))))

abbrev nn_all_are : List PySem.Str := ["numbers", "wanted", "number"]
theorem sc_all_are : FnScope nn_all_are ["numbers", "wanted"] (defScope (topS 38)) := ⟨rfl, rfl, rfl, by decide +kernel, rfl, by decide +kernel, by decide +kernel⟩
def bb_all_are : SM := (sRet (lift (mCall fAll (lCons (mLc (wL (mVar 0)) (.nm 2) bYes (mOp2 fEq (mVar 2) (mVar 1)) [2]) lNil))))
def ff_all_are : FM := runP 3 bb_all_are
theorem ok_all_are (T : Tx K mg f fd) : FnOk P w K mg base CX0 1 f.f_all_are fd.f_all_are ["numbers", "wanted"] (spP K 2 ff_all_are) :=
  have sc := sc_all_are
  fn_pure T.F_all_are sc (by decide) fun cdv A outer s H E hr => (sss_one (ss_ret (se_p (sp_callB (cr_all rfl) opn_all bt_all T.m_all (sba_cons (SP.sb (sp_lc (own := [("number", 2)]) rfl sc.nd (si_list (sb_var 0)) (okb (N := nn_all_are) (sc := defScope (topS 38)) (by decide +kernel)) (fun _ _ _ _ _ => (sg_name 2 sc.nd)) (fun _ _ _ _ _ => sts_nil) (fun _ _ _ _ _ => (sp_eq hr (sb_var 2) (sb_var 1))) (by simp [Tg.sl, slL]))) sba_nil)))))

abbrev nn__law_mixed : List PySem.Str := ["_law_cell", "_law_k", "_law_many", "_law_one"]
theorem sc__law_mixed : FnScope nn__law_mixed ["_law_cell", "_law_k", "_law_many"] (defScope (topS 43)) := ⟨rfl, rfl, rfl, by decide +kernel, rfl, by decide +kernel, by decide +kernel⟩
def bb__law_mixed : SM := (sSeq (sSet 3 (lift (mOp2 fMod (mOp2 fPow (mOp2 fAdd (mOp2 fAdd (mOp2 fMod (mVar 0) (mC (.int 2147483647))) (mOp2 fMul (mC (.int 40503)) (mVar 1))) (mC (.int 17))) (mC (.int 5))) (mC (.int 2147483647))))) (sRet (lift (mOp2 fMod (mOp2 fMod (mOp2 fMul (mOp2 fMod (mOp2 fMul (mVar 3) (mOp2 fAdd (mC (.int 48271)) (mVar 1))) (mC (.int 999999937))) (mC (.int 39373))) (mC (.int 2147483629))) (mVar 2)))))
def ff__law_mixed : FM := runP 4 bb__law_mixed
theorem ok__law_mixed (T : Tx K mg f fd) : FnOk P w K mg base CX0 1 f.f__law_mixed fd.f__law_mixed ["_law_cell", "_law_k", "_law_many"] (spP K 3 ff__law_mixed) :=
  have sc := sc__law_mixed
  fn_pure T.F__law_mixed sc (by decide) fun cdv A outer s H E hr => (sss_cons (ss_set 3 sc.nd (by decide) (se_p (sp_mod (SP.sb (sp_pow (SP.sb (sp_add (SP.sb (sp_add (SP.sb (sp_mod (sb_var 0) (SP.sb sp_int))) (SP.sb (sp_mul (SP.sb sp_int) (sb_var 1))))) (SP.sb sp_int))) (SP.sb sp_int))) (SP.sb sp_int)))) (sss_one (ss_ret (se_p (sp_mod (SP.sb (sp_mod (SP.sb (sp_mul (SP.sb (sp_mod (SP.sb (sp_mul (sb_var 3) (SP.sb (sp_add (SP.sb sp_int) (sb_var 1))))) (SP.sb sp_int))) (SP.sb sp_int))) (SP.sb sp_int))) (sb_var 2))))))

abbrev nn__law_whole : List PySem.Str := ["_law_found"]
theorem sc__law_whole : FnScope nn__law_whole ["_law_found"] (defScope (topS 45)) := ⟨rfl, rfl, rfl, by decide +kernel, rfl, by decide +kernel, by decide +kernel⟩
def bb__law_whole : SM := (sRet (lift (mAndV (mIsi "int" (mVar 0)) (mNotV (mIsi "bool" (mVar 0))))))
def ff__law_whole : FM := runP 1 bb__law_whole
theorem ok__law_whole (T : Tx K mg f fd) : FnOk P w K mg base CX0 1 f.f__law_whole fd.f__law_whole ["_law_found"] (spP K 1 ff__law_whole) :=
  have sc := sc__law_whole
  fn_pure T.F__law_whole sc (by decide) fun cdv A outer s H E hr => (sss_one (ss_ret (se_p (sp_and (sp_isi T.m_isinstance T.m_int bt_int (sb_var 0) bt_isinstance) (sp_one (sp_not (sp_isi T.m_isinstance T.m_bool bt_bool (sb_var 0) bt_isinstance)))))))

abbrev nn__law_least : List PySem.Str := ["_law_row_here", "_law_at"]
theorem sc__law_least : FnScope nn__law_least ["_law_row_here"] (defScope (topS 48)) := ⟨rfl, rfl, rfl, by decide +kernel, rfl, by decide +kernel, by decide +kernel⟩
def bb__law_least : SM := (sSeq (sIf (liftT (mB (mOp2 fEq (mCall fLen (lCons (mVar 0) lNil)) (mC (.int 0))))) (sRet (lift (mk (.lst .o) lNil))) sNx) (sSeq (sSet 1 (lift (mIdx (mVar 0) (mCall fMinL (lCons (mVar 0) lNil))))) (sRet (lift (mCat (mSl (mVar 0) (oYes (mVar 1)) oNo) (mSl (mVar 0) oNo (oYes (mVar 1))))))))
def ff__law_least : FM := runP 2 bb__law_least
theorem ok__law_least (T : Tx K mg f fd) : FnOk P w K mg base CX0 1 f.f__law_least fd.f__law_least ["_law_row_here"] (spP K 1 ff__law_least) :=
  have sc := sc__law_least
  fn_pure T.F__law_least sc (by decide) fun cdv A outer s H E hr => (sss_cons (ss_if (set_t (st_eq hr (SP.sb (sp_callB call_len_seq opn_len bt_len T.m_len (sba_cons (sb_var 0) sba_nil))) (SP.sb sp_int))) (sss_one (ss_ret (se_p (sp_lst spa_nil)))) sss_nil) (sss_cons (ss_set 1 sc.nd (by decide) (se_p (sp_index (sb_var 0) (SP.sb (sp_callB (cr_min rfl) opn_min bt_min T.m_min (sba_cons (sb_var 0) sba_nil)))))) (sss_one (ss_ret (se_p (sp_cat (SP.sb (sp_slice (sb_var 0) (so_some (sb_var 1)) so_none)) (SP.sb (sp_slice (sb_var 0) so_none (so_some (sb_var 1))))))))))

abbrev nn__law_down : List PySem.Str := ["_law_r", "_law_c", "_law_s", "_law_p"]
theorem sc__law_down : FnScope nn__law_down ["_law_r", "_law_c", "_law_s", "_law_p"] (defScope (topS 50)) := ⟨rfl, rfl, rfl, by decide +kernel, rfl, by decide +kernel, by decide +kernel⟩
def bb__law_down : SM := (sSeq (sIf (liftT (mB (mOp2 fGe (mVar 3) (mVar 1)))) (sRet (lift (mOp2 fSub (mVar 3) (mVar 1)))) sNx) (sRet (lift (mOp2 fAdd (mOp2 fMul (mOp2 fSub (mVar 0) (mC (.int 1))) (mVar 1)) (mOp2 fMod (mOp2 fSub (mVar 3) (mVar 2)) (mVar 1))))))
def ff__law_down : FM := runP 4 bb__law_down
theorem ok__law_down (T : Tx K mg f fd) : FnOk P w K mg base CX0 1 f.f__law_down fd.f__law_down ["_law_r", "_law_c", "_law_s", "_law_p"] (spP K 4 ff__law_down) :=
  have sc := sc__law_down
  fn_pure T.F__law_down sc (by decide) fun cdv A outer s H E hr => (sss_cons (ss_if (set_t (st_ge (sb_var 3) (sb_var 1))) (sss_one (ss_ret (se_p (sp_sub (sb_var 3) (sb_var 1))))) sss_nil) (sss_one (ss_ret (se_p (sp_add (SP.sb (sp_mul (SP.sb (sp_sub (sb_var 0) (SP.sb sp_int))) (sb_var 1))) (SP.sb (sp_mod (SP.sb (sp_sub (sb_var 3) (sb_var 2))) (sb_var 1))))))))

abbrev nn__law_lay : List PySem.Str := ["_law_r", "_law_c", "_law_s", "_law_place", "_law_many", "_law_lay_here", "_law_i", "_law_at", "_law_first", "_law_j", "_law_here", "_law_end"]
theorem sc__law_lay : FnScope nn__law_lay ["_law_r", "_law_c", "_law_s", "_law_place", "_law_many"] (defScope (topS 55)) := ⟨rfl, rfl, rfl, by decide +kernel, rfl, by decide +kernel, by decide +kernel⟩
def bb__law_lay : SM := (sSeq (sSet 5 (lift (mk (.lst .o) lNil))) (sSeq (sFor (wR (rg1 (mVar 0))) (.nm 6) (sSeq (sSet 7 (lift (mOp2 fAdd (mVar 3) (mOp2 fMul (mVar 6) (mVar 1))))) (sSeq (sSet 8 (lift (mOp2 fMod (mVar 7) (mVar 1)))) (sSeq (sIf (liftT (mB (mOp2 fGe (mVar 7) (mOp2 fMul (mVar 0) (mVar 1))))) (sSeq (sSet 7 (lift (mOp2 fSub (mVar 7) (mOp2 fMul (mVar 0) (mVar 1))))) (sSet 8 (lift (mOp2 fAdd (mOp2 fMod (mVar 7) (mVar 1)) (mVar 2))))) sNx) (sFor (wR (rg1 (mVar 1))) (.nm 9) (sSeq (sSet 10 (lift (mOp2 fAdd (mOp2 fMul (mOp2 fDiv (mVar 7) (mVar 1)) (mVar 1)) (mOp2 fMod (mOp2 fAdd (mVar 8) (mVar 9)) (mVar 1))))) (sSet 5 (lift (mCat (mVar 5) (mLc (wR (rg1 (mVar 4))) (.nm 11) bYes (mOp2 fAdd (mOp2 fMul (mVar 4) (mVar 10)) (mVar 11)) [11])))))))))) (sRet (eMove 5))))
def ff__law_lay : FM := runP 12 bb__law_lay
theorem ok__law_lay (T : Tx K mg f fd) : FnOk P w K mg base CX0 1 f.f__law_lay fd.f__law_lay ["_law_r", "_law_c", "_law_s", "_law_place", "_law_many"] (spP K 5 ff__law_lay) :=
  have sc := sc__law_lay
  fn_pure T.F__law_lay sc (by decide) fun cdv A outer s H E hr => (sss_cons (ss_set 5 sc.nd (by decide) (se_p (sp_lst spa_nil))) (sss_cons (ss_for rfl PassesOwn.never (sj_range1 T.m_range (sb_var 0)) (sg_name 6 sc.nd) (sss_cons (ss_set 7 sc.nd (by decide) (se_p (sp_add (sb_var 3) (SP.sb (sp_mul (sb_var 6) (sb_var 1)))))) (sss_cons (ss_set 8 sc.nd (by decide) (se_p (sp_mod (sb_var 7) (sb_var 1)))) (sss_cons (ss_if (set_t (st_ge (sb_var 7) (SP.sb (sp_mul (sb_var 0) (sb_var 1))))) (sss_cons (ss_set 7 sc.nd (by decide) (se_p (sp_sub (sb_var 7) (SP.sb (sp_mul (sb_var 0) (sb_var 1)))))) (sss_one (ss_set 8 sc.nd (by decide) (se_p (sp_add (SP.sb (sp_mod (sb_var 7) (sb_var 1))) (sb_var 2)))))) sss_nil) (sss_one (ss_for rfl PassesOwn.never (sj_range1 T.m_range (sb_var 1)) (sg_name 9 sc.nd) (sss_cons (ss_set 10 sc.nd (by decide) (se_p (sp_add (SP.sb (sp_mul (SP.sb (sp_div (sb_var 7) (sb_var 1))) (sb_var 1))) (SP.sb (sp_mod (SP.sb (sp_add (sb_var 8) (sb_var 9))) (sb_var 1)))))) (sss_one (ss_set 5 sc.nd (by decide) (se_p (sp_cat (sb_var 5) (SP.sb (sp_lc (own := [("_law_end", 11)]) rfl sc.nd (si_range1 T.m_range (sb_var 4)) (okb (N := nn__law_lay) (sc := defScope (topS 55)) (by decide +kernel)) (fun _ _ _ _ _ => (sg_name 11 sc.nd)) (fun _ _ _ _ _ => sts_nil) (fun _ _ _ _ _ => (sp_add (SP.sb (sp_mul (sb_var 4) (sb_var 10))) (sb_var 11))) (by simp [Tg.sl, slL])))))))) (by simp [Tg.sl, slL])))))) (by simp [Tg.sl, slL])) (sss_one (ss_ret (se_move 5 (by decide))))))

abbrev nn_check_end : List PySem.Str := ["drawing", "end"]
theorem sc_check_end : FnScope nn_check_end ["drawing", "end"] (defScope (topS 8)) := ⟨rfl, rfl, rfl, by decide +kernel, rfl, by decide +kernel, by decide +kernel⟩
def bb_check_end : SM := (sIf (liftT (mOr (mB (mOp2 fLt (mVar 1) (mC (.int 0)))) (mB (mOp2 fGe (mVar 1) (mFn ff_count_ends (lCons (mVar 0) lNil)))))) (fun _ => none) sNx)
def ff_check_end : FM := runP 2 bb_check_end
theorem ok_check_end (T : Tx K mg f fd) : FnOk P w K mg base CX0 2 f.f_check_end fd.f_check_end ["drawing", "end"] (spP K 2 ff_check_end) :=
  have sc := sc_check_end
  fn_pure T.F_check_end sc (by decide) fun cdv A outer s H E hr => (sss_one (ss_if (set_t (st_w (sw_or (st_lt (sb_var 1) (SP.sb sp_int)) (sw_or1 (st_ge (sb_var 1) (SP.sb (sp_call (ok_count_ends T) rfl (hr.mono (by decide)) T.g_count_ends T.F_count_ends.kp T.b_count_ends pass0 (sba_cons (sb_var 0) sba_nil) (lcl lnl)))))))) (sss_one ss_none) sss_nil))

abbrev nn_homes_of : List PySem.Str := ["drawing", "homes", "place", "row", "end"]
theorem sc_homes_of : FnScope nn_homes_of ["drawing"] (defScope (topS 10)) := ⟨rfl, rfl, rfl, by decide +kernel, rfl, by decide +kernel, by decide +kernel⟩
def bb_homes_of : SM := (sSeq (sSet 1 (lift (mRep (mk (.lst .o) (lCons (mC (.int 0)) lNil)) (mFn ff_count_ends (lCons (mVar 0) lNil))))) (sSeq (sFor (wE (mPure (mVar 0))) (.tp [(.nm 2), (.nm 3)]) (sFrz 3 (sFor (wL (mPure (mVar 3))) (.nm 4) (sPut 1 (plName 1) (mVar 4) (lift (mPure (mVar 2))))))) (sRet (eMove 1))))
def ff_homes_of : FM := runP 5 bb_homes_of
theorem ok_homes_of (T : Tx K mg f fd) : FnOk P w K mg base CX0 2 f.f_homes_of fd.f_homes_of ["drawing"] (spP K 1 ff_homes_of) :=
  have sc := sc_homes_of
  fn_pure T.F_homes_of sc (by decide) fun cdv A outer s H E hr => (sss_cons (ss_set 1 sc.nd (by decide) (se_p (sp_rep (SP.sb (sp_lst (spa_cons sp_int spa_nil))) (SP.sb (sp_call (ok_count_ends T) rfl (hr.mono (by decide)) T.g_count_ends T.F_count_ends.kp T.b_count_ends pass0 (sba_cons (sb_var 0) sba_nil) (lcl lnl)))))) (sss_cons (ss_for rfl PassesOwn.never (sj_enum T.m_enumerate (sp_pure (sb_var 0))) (sg_tup rfl (sgs_cons (sg_name 2 sc.nd) (sgs_cons (sg_name 3 sc.nd) sgs_nil))) (sss_frzN 3 (sss_one (ss_for rfl PassesOwn.never (sj_list (sp_pure (sb_var 3))) (sg_name 4 sc.nd) (sss_one (ss_put (se_p (sp_pure (sb_var 2))) (spl_name 1) (sb_var 4))) (by simp [Tg.sl, slL])))) (by simp [Tg.sl, slL])) (sss_one (ss_ret (se_move 1 (by decide))))))

abbrev nn_behind_of : List PySem.Str := ["drawing", "behind", "row", "at", "end"]
theorem sc_behind_of : FnScope nn_behind_of ["drawing"] (defScope (topS 11)) := ⟨rfl, rfl, rfl, by decide +kernel, rfl, by decide +kernel, by decide +kernel⟩
def bb_behind_of : SM := (sSeq (sSet 1 (lift (mRep (mk (.lst .o) (lCons (mC (.int 0)) lNil)) (mFn ff_count_ends (lCons (mVar 0) lNil))))) (sSeq (sFor (wL (mPure (mVar 0))) (.nm 2) (sFor (wE (mPure (mVar 2))) (.tp [(.nm 3), (.nm 4)]) (sPut 1 (plName 1) (mItem (mVar 2) (mOp2 fSub (mVar 3) (mC (.int 1)))) (lift (mPure (mVar 4)))))) (sRet (eMove 1))))
def ff_behind_of : FM := runP 5 bb_behind_of
theorem ok_behind_of (T : Tx K mg f fd) : FnOk P w K mg base CX0 2 f.f_behind_of fd.f_behind_of ["drawing"] (spP K 1 ff_behind_of) :=
  have sc := sc_behind_of
  fn_pure T.F_behind_of sc (by decide) fun cdv A outer s H E hr => (sss_cons (ss_set 1 sc.nd (by decide) (se_p (sp_rep (SP.sb (sp_lst (spa_cons sp_int spa_nil))) (SP.sb (sp_call (ok_count_ends T) rfl (hr.mono (by decide)) T.g_count_ends T.F_count_ends.kp T.b_count_ends pass0 (sba_cons (sb_var 0) sba_nil) (lcl lnl)))))) (sss_cons (ss_for rfl PassesOwn.never (sj_list (sp_pure (sb_var 0))) (sg_name 2 sc.nd) (sss_one (ss_for rfl PassesOwn.never (sj_enum T.m_enumerate (sp_pure (sb_var 2))) (sg_tup rfl (sgs_cons (sg_name 3 sc.nd) (sgs_cons (sg_name 4 sc.nd) sgs_nil))) (sss_one (ss_put (se_p (sp_pure (sb_var 4))) (spl_name 1) (sb_item (sb_var 2) (SP.sb (sp_sub (sb_var 3) (SP.sb sp_int)))))) (by simp [Tg.sl, slL]))) (by simp [Tg.sl, slL])) (sss_one (ss_ret (se_move 1 (by decide))))))

abbrev nn_check_numbers : List PySem.Str := ["rows", "columns", "shift"]
theorem sc_check_numbers : FnScope nn_check_numbers ["rows", "columns", "shift"] (defScope (topS 23)) := ⟨rfl, rfl, rfl, by decide +kernel, rfl, by decide +kernel, by decide +kernel⟩
def bb_check_numbers : SM := (sSeq (sIf (liftT (mNotT (mTru (mFn ff_are_numbers (lCons (mVar 0) (lCons (mVar 1) (lCons (mVar 2) lNil))))))) (fun _ => none) sNx) (sIf (liftT (mB (mOp2 fGt (mOp2 fMul (mVar 0) (mVar 1)) (mC (.int 40))))) (fun _ => none) sNx))
def ff_check_numbers : FM := runP 3 bb_check_numbers
theorem ok_check_numbers (T : Tx K mg f fd) : FnOk P w K mg base CX0 2 f.f_check_numbers fd.f_check_numbers ["rows", "columns", "shift"] (spP K 3 ff_check_numbers) :=
  have sc := sc_check_numbers
  fn_pure T.F_check_numbers sc (by decide) fun cdv A outer s H E hr => (sss_cons (ss_if (set_t (st_not (st_tru (SP.sb (sp_call (ok_are_numbers T) rfl (hr.mono (by decide)) T.g_are_numbers T.F_are_numbers.kp T.b_are_numbers pass0 (sba_cons (sb_var 0) (sba_cons (sb_var 1) (sba_cons (sb_var 2) sba_nil))) (lcl (lcl (lcl lnl)))))))) (sss_one ss_none) sss_nil) (sss_one (ss_if (set_t (st_gt (SP.sb (sp_mul (sb_var 0) (sb_var 1))) (SP.sb (sp_intK rfl T.c_MOST_KIND_PLACES)))) (sss_one ss_none) sss_nil)))

abbrev nn_laid_out : List PySem.Str := ["steps", "clock", "size", "slots", "step", "goals", "place", "goal", "even", "_", "row", "slot"]
theorem sc_laid_out : FnScope nn_laid_out ["steps", "clock"] (defScope (topS 27)) := ⟨rfl, rfl, rfl, by decide +kernel, rfl, by decide +kernel, by decide +kernel⟩
def bb_laid_out : SM := (sSeq (sSet 2 (lift (mCall fLen (lCons (mVar 1) lNil)))) (sSeq (sSet 3 (lift (mLc (wL (mItem (mVar 0) (mC (.int 0)))) (.nm 9) bYes (mRep (mk (.lst .o) (lCons (mC (.int 0)) lNil)) (mVar 2)) [9]))) (sSeq (sFor (wE (mPure (mVar 0))) (.tp [(.nm 4), (.nm 5)]) (sFor (wE (mPure (mVar 5))) (.tp [(.nm 6), (.nm 7)]) (sSeq (sSet 8 (lift (mOp2 fAdd (mOp2 fMul (mVar 2) (mVar 6)) (mOp2 fMul (mC (.int 2)) (mVar 4))))) (sSeq (sPut 3 (plItem 3 (plName 3) (mVar 6)) (mOp2 fMul (mC (.int 2)) (mVar 4)) (lift (mPure (mVar 8)))) (sPut 3 (plItem 3 (plName 3) (mVar 7)) (mOp2 fAdd (mOp2 fMul (mC (.int 2)) (mVar 4)) (mC (.int 1))) (lift (mOp2 fAdd (mVar 8) (mC (.int 1))))))))) (sRet (lift (mLc (wL (mVar 3)) (.nm 10) bYes (mFn ff_begun_least (lCons (mLc (wT (mVar 1)) (.nm 11) bYes (mPure (mItem (mVar 10) (mVar 11))) [11]) lNil)) [10]))))))
def ff_laid_out : FM := runP 12 bb_laid_out
theorem ok_laid_out (T : Tx K mg f fd) : FnOk P w K mg base CX0 2 f.f_laid_out fd.f_laid_out ["steps", "clock"] (spP K 2 ff_laid_out) :=
  have sc := sc_laid_out
  fn_pure T.F_laid_out sc (by decide) fun cdv A outer s H E hr => (sss_cons (ss_set 2 sc.nd (by decide) (se_p (sp_callB call_len_seq opn_len bt_len T.m_len (sba_cons (sb_var 1) sba_nil)))) (sss_cons (ss_setLc (own := [("_", 9)]) 3 (by decide) rfl sc.nd (si_list (sb_item (sb_var 0) (SP.sb sp_int))) (okb (N := nn_laid_out) (sc := defScope (topS 27)) (by decide +kernel)) (fun _ _ _ _ _ => (sg_name 9 sc.nd)) (fun _ _ _ _ _ => sts_nil) (fun _ _ _ _ _ => (sp_rep (SP.sb (sp_lst (spa_cons sp_int spa_nil))) (sb_var 2))) (by simp [Tg.sl, slL]) (sw_true rfl rfl rfl (by decide +kernel))) (sss_cons (ss_for rfl PassesOwn.never (sj_enum T.m_enumerate (sp_pure (sb_var 0))) (sg_tup rfl (sgs_cons (sg_name 4 sc.nd) (sgs_cons (sg_name 5 sc.nd) sgs_nil))) (sss_one (ss_for rfl PassesOwn.never (sj_enum T.m_enumerate (sp_pure (sb_var 5))) (sg_tup rfl (sgs_cons (sg_name 6 sc.nd) (sgs_cons (sg_name 7 sc.nd) sgs_nil))) (sss_cons (ss_set 8 sc.nd (by decide) (se_p (sp_add (SP.sb (sp_mul (sb_var 2) (sb_var 6))) (SP.sb (sp_mul (SP.sb sp_int) (sb_var 4)))))) (sss_cons (ss_put (se_p (sp_pure (sb_var 8))) (spl_item (spl_name 3) (sb_var 6)) (SP.sb (sp_mul (SP.sb sp_int) (sb_var 4)))) (sss_one (ss_put (se_p (sp_add (sb_var 8) (SP.sb sp_int))) (spl_item (spl_name 3) (sb_var 7)) (SP.sb (sp_add (SP.sb (sp_mul (SP.sb sp_int) (sb_var 4))) (SP.sb sp_int))))))) (by simp [Tg.sl, slL]))) (by simp [Tg.sl, slL])) (sss_one (ss_ret (se_p (sp_lc (own := [("row", 10)]) rfl sc.nd (si_list (sb_var 3)) (okb (N := nn_laid_out) (sc := defScope (topS 27)) (by decide +kernel)) (fun _ _ _ _ _ => (sg_name 10 sc.nd)) (fun _ _ _ _ _ => sts_nil) (fun _ _ _ _ _ => (sp_call (ok_begun_least T) rfl (hr.mono (by decide)) T.g_begun_least T.F_begun_least.kp T.b_begun_least pass0 (sba_cons (SP.sb (sp_lc (own := [("slot", 11)]) rfl sc.nd (si_tup (sb_var 1)) (by rfl) (fun _ _ _ _ _ => (sg_name 11 sc.nd)) (fun _ _ _ _ _ => sts_nil) (fun _ _ _ _ _ => (sp_item (sb_var 10) (sb_var 11))) (by simp [Tg.sl, slL]))) sba_nil) (lcl lnl))) (by simp [Tg.sl, slL]))))))))

abbrev nn_groups : List PySem.Str := ["near", "places", "waiting", "found", "place"]
theorem sc_groups : FnScope nn_groups ["near", "places"] (defScope (topS 29)) := ⟨rfl, rfl, rfl, by decide +kernel, rfl, by decide +kernel, by decide +kernel⟩
def bb_groups : SM := (sSeq (sSet 2 (lift (mDc (wL (mVar 1)) (.nm 4) bYes (mVar 4) (mC (.bl true)) [4]))) (sSeq (sSet 3 (lift (mk (.lst .o) lNil))) (sSeq (sFor (wL (mPure (mVar 1))) (.nm 4) (sIf (liftT (mDin (mVar 4) (mVar 2))) (sApp 3 (plName 3) (eSorted (eCallM ff_drain [.bor 0, .mv 2, .bor 4]))) sNx)) (sRet (eMove 3)))))
def ff_groups : FM := runP 5 bb_groups
theorem ok_groups (T : Tx K mg f fd) : FnOk P w K mg base CX0 2 f.f_groups fd.f_groups ["near", "places"] (spP K 2 ff_groups) :=
  have sc := sc_groups
  fn_pure T.F_groups sc (by decide) fun cdv A outer s H E hr => (sss_cons (ss_setDc (own := [("place", 4)]) 2 (by decide) rfl sc.nd (si_list (sb_var 1)) (okb (N := nn_groups) (sc := defScope (topS 29)) (by decide +kernel)) (fun _ _ _ _ _ => (sg_name 4 sc.nd)) (fun _ _ _ _ _ => sts_nil) (fun _ _ _ _ _ => (sb_var 4)) (fun _ _ _ _ _ => (SP.sb sp_bl)) (by simp [Tg.sl, slL]) (sw_dc rfl rfl rfl (by decide +kernel))) (sss_cons (ss_set 3 sc.nd (by decide) (se_p (sp_lst spa_nil))) (sss_cons (ss_for rfl PassesOwn.never (sj_list (sp_pure (sb_var 1))) (sg_name 4 sc.nd) (sss_one (ss_if (set_t (st_din hr (sb_var 4) (sb_var 2))) (sss_one (ss_append (spl_name 3) (se_sorted T.m_sorted (se_callM (ok_drain T) (hr.mono (by decide)) T.g_drain T.F_drain.kp T.b_drain pass0 rfl rfl (by simp [muS, boS]) (sea_bor 0 (sea_mut 2 (sea_bor 4 sea_nil))))))) sss_nil)) (by simp [Tg.sl, slL])) (sss_one (ss_ret (se_move 3 (by decide)))))))

abbrev nn_land_from : List PySem.Str := ["behind", "first", "land", "end"]
theorem sc_land_from : FnScope nn_land_from ["behind", "first"] (defScope (topS 33)) := ⟨rfl, rfl, rfl, by decide +kernel, rfl, by decide +kernel, by decide +kernel⟩
def bb_land_from : SM := (sSeq (sSet 2 (lift (mk (.lst .o) (lCons (mPure (mVar 1)) lNil)))) (sSeq (sSet 3 (lift (mPure (mItem (mVar 0) (mFn ff_mate_of (lCons (mVar 1) lNil)))))) (sSeq (whD (liftT (mB (mOp2 fNe (mVar 3) (mVar 1)))) (sSeq (sApp 2 (plName 2) (lift (mPure (mVar 3)))) (sSet 3 (lift (mPure (mItem (mVar 0) (mFn ff_mate_of (lCons (mVar 3) lNil))))))) 100000) (sRet (eMove 2)))))
def ff_land_from : FM := runP 4 bb_land_from
theorem ok_land_from (T : Tx K mg f fd) : FnOk P w K mg base CX0 2 f.f_land_from fd.f_land_from ["behind", "first"] (spP K 2 ff_land_from) :=
  have sc := sc_land_from
  fn_pure T.F_land_from sc (by decide) fun cdv A outer s H E hr => (sss_cons (ss_set 2 sc.nd (by decide) (se_p (sp_lst (spa_cons (sp_pure (sb_var 1)) spa_nil)))) (sss_cons (ss_set 3 sc.nd (by decide) (se_p (sp_item (sb_var 0) (SP.sb (sp_call (ok_mate_of T) rfl (hr.mono (by decide)) T.g_mate_of T.F_mate_of.kp T.b_mate_of pass0 (sba_cons (sb_var 1) sba_nil) (lcl lnl)))))) (sss_cons (ss_while 100000 PassesOwn.never (set_t (st_ne hr (sb_var 3) (sb_var 1))) (sss_cons (ss_append (spl_name 2) (se_p (sp_pure (sb_var 3)))) (sss_one (ss_set 3 sc.nd (by decide) (se_p (sp_item (sb_var 0) (SP.sb (sp_call (ok_mate_of T) rfl (hr.mono (by decide)) T.g_mate_of T.F_mate_of.kp T.b_mate_of pass0 (sba_cons (sb_var 3) sba_nil) (lcl lnl))))))))) (sss_one (ss_ret (se_move 2 (by decide)))))))

abbrev nn_straight_line : List PySem.Str := ["behind", "first", "size", "line", "end"]
theorem sc_straight_line : FnScope nn_straight_line ["behind", "first", "size"] (defScope (topS 39)) := ⟨rfl, rfl, rfl, by decide +kernel, rfl, by decide +kernel, by decide +kernel⟩
def bb_straight_line : SM := (sSeq (sSet 3 (lift (mk (.lst .o) (lCons (mPure (mVar 1)) lNil)))) (sSeq (sSet 4 (lift (mPure (mItem (mFn ff_ring_from (lCons (mVar 0) (lCons (mFn ff_mate_of (lCons (mVar 1) lNil)) lNil))) (mOp2 fDiv (mVar 2) (mC (.int 2))))))) (sSeq (whD (liftT (mB (mOp2 fNe (mVar 4) (mVar 1)))) (sSeq (sApp 3 (plName 3) (lift (mPure (mVar 4)))) (sSet 4 (lift (mPure (mItem (mFn ff_ring_from (lCons (mVar 0) (lCons (mFn ff_mate_of (lCons (mVar 4) lNil)) lNil))) (mOp2 fDiv (mVar 2) (mC (.int 2)))))))) 100000) (sRet (eMove 3)))))
def ff_straight_line : FM := runP 5 bb_straight_line
theorem ok_straight_line (T : Tx K mg f fd) : FnOk P w K mg base CX0 2 f.f_straight_line fd.f_straight_line ["behind", "first", "size"] (spP K 3 ff_straight_line) :=
  have sc := sc_straight_line
  fn_pure T.F_straight_line sc (by decide) fun cdv A outer s H E hr => (sss_cons (ss_set 3 sc.nd (by decide) (se_p (sp_lst (spa_cons (sp_pure (sb_var 1)) spa_nil)))) (sss_cons (ss_set 4 sc.nd (by decide) (se_p (sp_item (SP.sb (sp_call (ok_ring_from T) rfl (hr.mono (by decide)) T.g_ring_from T.F_ring_from.kp T.b_ring_from pass0 (sba_cons (sb_var 0) (sba_cons (SP.sb (sp_call (ok_mate_of T) rfl (hr.mono (by decide)) T.g_mate_of T.F_mate_of.kp T.b_mate_of pass0 (sba_cons (sb_var 1) sba_nil) (lcl lnl))) sba_nil)) (lcl (lcl lnl)))) (SP.sb (sp_div (sb_var 2) (SP.sb sp_int)))))) (sss_cons (ss_while 100000 PassesOwn.never (set_t (st_ne hr (sb_var 4) (sb_var 1))) (sss_cons (ss_append (spl_name 3) (se_p (sp_pure (sb_var 4)))) (sss_one (ss_set 4 sc.nd (by decide) (se_p (sp_item (SP.sb (sp_call (ok_ring_from T) rfl (hr.mono (by decide)) T.g_ring_from T.F_ring_from.kp T.b_ring_from pass0 (sba_cons (sb_var 0) (sba_cons (SP.sb (sp_call (ok_mate_of T) rfl (hr.mono (by decide)) T.g_mate_of T.F_mate_of.kp T.b_mate_of pass0 (sba_cons (sb_var 4) sba_nil) (lcl lnl))) sba_nil)) (lcl (lcl lnl)))) (SP.sb (sp_div (sb_var 2) (SP.sb sp_int))))))))) (sss_one (ss_ret (se_move 3 (by decide)))))))

abbrev nn_upper_right : List PySem.Str := ["behind", "right", "clock", "up"]
theorem sc_upper_right : FnScope nn_upper_right ["behind", "right", "clock"] (defScope (topS 40)) := ⟨rfl, rfl, rfl, by decide +kernel, rfl, by decide +kernel, by decide +kernel⟩
def bb_upper_right : SM := (sSeq (sSet 3 (lift (mPure (mItem (mFn ff_ring_from (lCons (mVar 0) (lCons (mVar 1) lNil))) (mIdxT (mVar 2) (mC (.int 2))))))) (sRet (lift (mPure (mItem (mFn ff_ring_from (lCons (mVar 0) (lCons (mFn ff_mate_of (lCons (mVar 3) lNil)) lNil))) (mOp1 fNeg (mC (.int 1))))))))
def ff_upper_right : FM := runP 4 bb_upper_right
theorem ok_upper_right (T : Tx K mg f fd) : FnOk P w K mg base CX0 2 f.f_upper_right fd.f_upper_right ["behind", "right", "clock"] (spP K 3 ff_upper_right) :=
  have sc := sc_upper_right
  fn_pure T.F_upper_right sc (by decide) fun cdv A outer s H E hr => (sss_cons (ss_set 3 sc.nd (by decide) (se_p (sp_item (SP.sb (sp_call (ok_ring_from T) rfl (hr.mono (by decide)) T.g_ring_from T.F_ring_from.kp T.b_ring_from pass0 (sba_cons (sb_var 0) (sba_cons (sb_var 1) sba_nil)) (lcl (lcl lnl)))) (SP.sb (sp_indexT (sb_var 2) (SP.sb (sp_intK rfl T.c_UP_SLOT))))))) (sss_one (ss_ret (se_p (sp_item (SP.sb (sp_call (ok_ring_from T) rfl (hr.mono (by decide)) T.g_ring_from T.F_ring_from.kp T.b_ring_from pass0 (sba_cons (sb_var 0) (sba_cons (SP.sb (sp_call (ok_mate_of T) rfl (hr.mono (by decide)) T.g_mate_of T.F_mate_of.kp T.b_mate_of pass0 (sba_cons (sb_var 3) sba_nil) (lcl lnl))) sba_nil)) (lcl (lcl lnl)))) (SP.sb (sp_neg (SP.sb sp_int))))))))

abbrev nn_lay_by : List PySem.Str := ["behind", "rights", "clock", "lay", "place", "right", "slot", "end", "even"]
theorem sc_lay_by : FnScope nn_lay_by ["behind", "rights", "clock"] (defScope (topS 41)) := ⟨rfl, rfl, rfl, by decide +kernel, rfl, by decide +kernel, by decide +kernel⟩
def bb_lay_by : SM := (sSeq (sSet 3 (lift (mRep (mk (.lst .o) (lCons (mC (.int 0)) lNil)) (mCall fLen (lCons (mVar 0) lNil))))) (sSeq (sFor (wE (mPure (mVar 1))) (.tp [(.nm 4), (.nm 5)]) (sFor (wZTL (mPure (mVar 2)) (mFn ff_ring_from (lCons (mVar 0) (lCons (mVar 5) lNil)))) (.tp [(.nm 6), (.nm 7)]) (sIf (liftT (mB (mOp2 fEq (mOp2 fMod (mVar 6) (mC (.int 2))) (mC (.int 0))))) (sSeq (sSet 8 (lift (mOp2 fAdd (mOp2 fMul (mCall fLen (lCons (mVar 2) lNil)) (mVar 4)) (mVar 6)))) (sSeq (sPut 3 (plName 3) (mVar 8) (lift (mPure (mVar 7)))) (sPut 3 (plName 3) (mOp2 fAdd (mVar 8) (mC (.int 1))) (lift (mFn ff_mate_of (lCons (mVar 7) lNil)))))) sNx))) (sRet (eMove 3))))
def ff_lay_by : FM := runP 9 bb_lay_by
theorem ok_lay_by (T : Tx K mg f fd) : FnOk P w K mg base CX0 2 f.f_lay_by fd.f_lay_by ["behind", "rights", "clock"] (spP K 3 ff_lay_by) :=
  have sc := sc_lay_by
  fn_pure T.F_lay_by sc (by decide) fun cdv A outer s H E hr => (sss_cons (ss_set 3 sc.nd (by decide) (se_p (sp_rep (SP.sb (sp_lst (spa_cons sp_int spa_nil))) (SP.sb (sp_callB call_len_seq opn_len bt_len T.m_len (sba_cons (sb_var 0) sba_nil)))))) (sss_cons (ss_for rfl PassesOwn.never (sj_enum T.m_enumerate (sp_pure (sb_var 1))) (sg_tup rfl (sgs_cons (sg_name 4 sc.nd) (sgs_cons (sg_name 5 sc.nd) sgs_nil))) (sss_one (ss_for rfl PassesOwn.never (sj_zipTL T.m_zip (sp_pure (sb_var 2)) (sp_call (ok_ring_from T) rfl (hr.mono (by decide)) T.g_ring_from T.F_ring_from.kp T.b_ring_from pass0 (sba_cons (sb_var 0) (sba_cons (sb_var 5) sba_nil)) (lcl (lcl lnl)))) (sg_tup rfl (sgs_cons (sg_name 6 sc.nd) (sgs_cons (sg_name 7 sc.nd) sgs_nil))) (sss_one (ss_if (set_t (st_eq hr (SP.sb (sp_mod (sb_var 6) (SP.sb sp_int))) (SP.sb sp_int))) (sss_cons (ss_set 8 sc.nd (by decide) (se_p (sp_add (SP.sb (sp_mul (SP.sb (sp_callB call_len_seq opn_len bt_len T.m_len (sba_cons (sb_var 2) sba_nil))) (sb_var 4))) (sb_var 6)))) (sss_cons (ss_put (se_p (sp_pure (sb_var 7))) (spl_name 3) (sb_var 8)) (sss_one (ss_put (se_p (sp_call (ok_mate_of T) rfl (hr.mono (by decide)) T.g_mate_of T.F_mate_of.kp T.b_mate_of pass0 (sba_cons (sb_var 7) sba_nil) (lcl lnl))) (spl_name 3) (SP.sb (sp_add (sb_var 8) (SP.sb sp_int))))))) sss_nil)) (by simp [Tg.sl, slL]))) (by simp [Tg.sl, slL])) (sss_one (ss_ret (se_move 3 (by decide))))))

abbrev nn__law_take : List PySem.Str := ["_law_box", "_law_many", "_law_cell", "_law_draw"]
theorem sc__law_take : FnScope nn__law_take ["_law_box", "_law_many"] (defScope (topS 44)) := ⟨rfl, rfl, rfl, by decide +kernel, rfl, by decide +kernel, by decide +kernel⟩
def bb__law_take : SM := (sSeq (sPut 0 (plName 0) (mC (.int 3)) (lift (mOp2 fAdd (mItem (mVar 0) (mC (.int 3))) (mC (.int 1))))) (sSeq (sSet 2 (lift (mC (.int 0)))) (sSeq (sIf (liftT (mAnd (mB (mOp2 fEq (mItem (mVar 0) (mC (.int 2))) (mC (.int 0)))) (mB (mOp2 fLt (mItem (mVar 0) (mC (.int 1))) (mCall fLen (lCons (mItem (mVar 0) (mC (.int 0))) lNil)))))) (sSeq (sSet 2 (lift (mPure (mItem (mItem (mVar 0) (mC (.int 0))) (mItem (mVar 0) (mC (.int 1))))))) (sSeq (sPut 0 (plName 0) (mC (.int 1)) (lift (mOp2 fAdd (mItem (mVar 0) (mC (.int 1))) (mC (.int 1))))) (sSeq (sIf (liftT (mB (mOp2 fLt (mVar 2) (mOp2 fPow (mC (.int 10)) (mC (.int 18)))))) (sRet (lift (mFn ff__law_mixed (lCons (mVar 2) (lCons (mItem (mVar 0) (mC (.int 3))) (lCons (mVar 1) lNil)))))) sNx) (sPut 0 (plName 0) (mC (.int 2)) (lift (mPure (mVar 2))))))) sNx) (sSeq (sIf (liftT (mB (mOp2 fGt (mItem (mVar 0) (mC (.int 2))) (mC (.int 0))))) (sSeq (sSet 3 (lift (mOp2 fMod (mItem (mVar 0) (mC (.int 2))) (mVar 1)))) (sSeq (sPut 0 (plName 0) (mC (.int 2)) (lift (mOp2 fDiv (mItem (mVar 0) (mC (.int 2))) (mVar 1)))) (sRet (eMove 3)))) sNx) (sSeq (sIf (liftT (mB (mOp2 fGt (mCall fLen (lCons (mItem (mVar 0) (mC (.int 0))) lNil)) (mC (.int 0))))) (sSet 2 (lift (mPure (mItem (mItem (mVar 0) (mC (.int 0))) (mOp2 fMod (mItem (mVar 0) (mC (.int 3))) (mCall fLen (lCons (mItem (mVar 0) (mC (.int 0))) lNil))))))) sNx) (sRet (lift (mFn ff__law_mixed (lCons (mVar 2) (lCons (mItem (mVar 0) (mC (.int 3))) (lCons (mVar 1) lNil)))))))))))
def ff__law_take : FMu := runM 4 [0] bb__law_take
theorem ok__law_take (T : Tx K mg f fd) : FnOk P w K mg base CX0 2 f.f__law_take fd.f__law_take ["_law_box", "_law_many"] (spM K 2 [0] ff__law_take) :=
  have sc := sc__law_take
  fn_mut T.F__law_take sc (by decide) (by decide) fun cdv A outer s H E hr => (sss_cons (ss_put (se_p (sp_add (sb_item (sb_var 0) (SP.sb sp_int)) (SP.sb sp_int))) (spl_name 0) (SP.sb sp_int)) (sss_cons (ss_set 2 sc.nd (by decide) (se_p sp_int)) (sss_cons (ss_if (set_t (st_w (sw_and (st_eq hr (sb_item (sb_var 0) (SP.sb sp_int)) (SP.sb sp_int)) (sw_and1 (st_lt (sb_item (sb_var 0) (SP.sb sp_int)) (SP.sb (sp_callB call_len_seq opn_len bt_len T.m_len (sba_cons (sb_item (sb_var 0) (SP.sb sp_int)) sba_nil)))))))) (sss_cons (ss_set 2 sc.nd (by decide) (se_p (sp_item (sb_item (sb_var 0) (SP.sb sp_int)) (sb_item (sb_var 0) (SP.sb sp_int))))) (sss_cons (ss_put (se_p (sp_add (sb_item (sb_var 0) (SP.sb sp_int)) (SP.sb sp_int))) (spl_name 0) (SP.sb sp_int)) (sss_cons (ss_if (set_t (st_lt (sb_var 2) (SP.sb (sp_pow (SP.sb sp_int) (SP.sb sp_int))))) (sss_one (ss_ret (se_p (sp_call (ok__law_mixed T) rfl (hr.mono (by decide)) T.g__law_mixed T.F__law_mixed.kp T.b__law_mixed pass0 (sba_cons (sb_var 2) (sba_cons (sb_item (sb_var 0) (SP.sb sp_int)) (sba_cons (sb_var 1) sba_nil))) (lcl (lcl (lcl lnl))))))) sss_nil) (sss_one (ss_put (se_p (sp_pure (sb_var 2))) (spl_name 0) (SP.sb sp_int)))))) sss_nil) (sss_cons (ss_if (set_t (st_gt (sb_item (sb_var 0) (SP.sb sp_int)) (SP.sb sp_int))) (sss_cons (ss_set 3 sc.nd (by decide) (se_p (sp_mod (sb_item (sb_var 0) (SP.sb sp_int)) (sb_var 1)))) (sss_cons (ss_put (se_p (sp_div (sb_item (sb_var 0) (SP.sb sp_int)) (sb_var 1))) (spl_name 0) (SP.sb sp_int)) (sss_one (ss_ret (se_move 3 (by decide)))))) sss_nil) (sss_cons (ss_if (set_t (st_gt (SP.sb (sp_callB call_len_seq opn_len bt_len T.m_len (sba_cons (sb_item (sb_var 0) (SP.sb sp_int)) sba_nil))) (SP.sb sp_int))) (sss_one (ss_set 2 sc.nd (by decide) (se_p (sp_item (sb_item (sb_var 0) (SP.sb sp_int)) (SP.sb (sp_mod (sb_item (sb_var 0) (SP.sb sp_int)) (SP.sb (sp_callB call_len_seq opn_len bt_len T.m_len (sba_cons (sb_item (sb_var 0) (SP.sb sp_int)) sba_nil))))))))) sss_nil) (sss_one (ss_ret (se_p (sp_call (ok__law_mixed T) rfl (hr.mono (by decide)) T.g__law_mixed T.F__law_mixed.kp T.b__law_mixed pass0 (sba_cons (sb_var 2) (sba_cons (sb_item (sb_var 0) (SP.sb sp_int)) (sba_cons (sb_var 1) sba_nil))) (lcl (lcl (lcl lnl))))))))))))

abbrev nn__law_row : List PySem.Str := ["_law_found", "_law_due", "_law_at", "_law_number"]
theorem sc__law_row : FnScope nn__law_row ["_law_found", "_law_due"] (defScope (topS 46)) := ⟨rfl, rfl, rfl, by decide +kernel, rfl, by decide +kernel, by decide +kernel⟩
def bb__law_row : SM := (sSeq (sIf (liftT (mOr (mNotT (mB (mIsi "list" (mVar 0)))) (mB (mOp2 fNe (mCall fLen (lCons (mVar 0) lNil)) (mCall fLen (lCons (mVar 1) lNil)))))) (sRet (lift (mC (.bl false)))) sNx) (sSeq (sFor (wE (mPure (mVar 1))) (.tp [(.nm 2), (.nm 3)]) (sIf (liftT (mOr (mNotT (mTru (mFn ff__law_whole (lCons (mItem (mVar 0) (mVar 2)) lNil)))) (mB (mOp2 fNe (mItem (mVar 0) (mVar 2)) (mVar 3))))) (sRet (lift (mC (.bl false)))) sNx)) (sRet (lift (mC (.bl true))))))
def ff__law_row : FM := runP 4 bb__law_row
theorem ok__law_row (T : Tx K mg f fd) : FnOk P w K mg base CX0 2 f.f__law_row fd.f__law_row ["_law_found", "_law_due"] (spP K 2 ff__law_row) :=
  have sc := sc__law_row
  fn_pure T.F__law_row sc (by decide) fun cdv A outer s H E hr => (sss_cons (ss_if (set_t (st_w (sw_or (st_not (st_val (SP.sb (sp_isi T.m_isinstance T.m_list bt_list (sb_var 0) bt_isinstance)))) (sw_or1 (st_ne hr (SP.sb (sp_callB call_len_seq opn_len bt_len T.m_len (sba_cons (sb_var 0) sba_nil))) (SP.sb (sp_callB call_len_seq opn_len bt_len T.m_len (sba_cons (sb_var 1) sba_nil)))))))) (sss_one (ss_ret (se_p sp_bl))) sss_nil) (sss_cons (ss_for rfl PassesOwn.never (sj_enum T.m_enumerate (sp_pure (sb_var 1))) (sg_tup rfl (sgs_cons (sg_name 2 sc.nd) (sgs_cons (sg_name 3 sc.nd) sgs_nil))) (sss_one (ss_if (set_t (st_w (sw_or (st_not (st_tru (SP.sb (sp_call (ok__law_whole T) rfl (hr.mono (by decide)) T.g__law_whole T.F__law_whole.kp T.b__law_whole pass0 (sba_cons (sb_item (sb_var 0) (sb_var 2)) sba_nil) (lcl lnl))))) (sw_or1 (st_ne hr (sb_item (sb_var 0) (sb_var 2)) (sb_var 3)))))) (sss_one (ss_ret (se_p sp_bl))) sss_nil)) (by simp [Tg.sl, slL])) (sss_one (ss_ret (se_p sp_bl)))))

abbrev nn__law_fours : List PySem.Str := ["_law_r", "_law_c", "_law_s", "_law_told_here", "_law_i", "_law_j", "_law_p", "_law_left", "_law_down_here"]
theorem sc__law_fours : FnScope nn__law_fours ["_law_r", "_law_c", "_law_s"] (defScope (topS 49)) := ⟨rfl, rfl, rfl, by decide +kernel, rfl, by decide +kernel, by decide +kernel⟩
def bb__law_fours : SM := (sSeq (sSet 3 (lift (mk (.lst .o) lNil))) (sSeq (sFor (wR (rg1 (mVar 0))) (.nm 4) (sFor (wR (rg1 (mVar 1))) (.nm 5) (sSeq (sSet 6 (lift (mOp2 fAdd (mOp2 fMul (mVar 4) (mVar 1)) (mVar 5)))) (sSeq (sSet 7 (lift (mOp2 fAdd (mOp2 fMul (mVar 4) (mVar 1)) (mOp2 fMod (mOp2 fSub (mVar 5) (mC (.int 1))) (mVar 1))))) (sSeq (sSet 8 (lift (mOp2 fSub (mVar 6) (mVar 1)))) (sSeq (sIf (liftT (mB (mOp2 fEq (mVar 4) (mC (.int 0))))) (sSet 8 (lift (mOp2 fAdd (mOp2 fMul (mOp2 fSub (mVar 0) (mC (.int 1))) (mVar 1)) (mOp2 fMod (mOp2 fSub (mVar 5) (mVar 2)) (mVar 1))))) sNx) (sApp 3 (plName 3) (lift (mFn ff__law_least (lCons (mk (.lst .o) (lCons (mOp2 fAdd (mOp2 fMul (mC (.int 4)) (mVar 6)) (mC (.int 2))) (lCons (mOp2 fMul (mC (.int 4)) (mVar 6)) (lCons (mOp2 fAdd (mOp2 fMul (mC (.int 4)) (mVar 8)) (mC (.int 3))) (lCons (mOp2 fAdd (mOp2 fMul (mC (.int 4)) (mVar 7)) (mC (.int 1))) lNil))))) lNil)))))))))) (sRet (eMove 3))))
def ff__law_fours : FM := runP 9 bb__law_fours
theorem ok__law_fours (T : Tx K mg f fd) : FnOk P w K mg base CX0 2 f.f__law_fours fd.f__law_fours ["_law_r", "_law_c", "_law_s"] (spP K 3 ff__law_fours) :=
  have sc := sc__law_fours
  fn_pure T.F__law_fours sc (by decide) fun cdv A outer s H E hr => (sss_cons (ss_set 3 sc.nd (by decide) (se_p (sp_lst spa_nil))) (sss_cons (ss_for rfl PassesOwn.never (sj_range1 T.m_range (sb_var 0)) (sg_name 4 sc.nd) (sss_one (ss_for rfl PassesOwn.never (sj_range1 T.m_range (sb_var 1)) (sg_name 5 sc.nd) (sss_cons (ss_set 6 sc.nd (by decide) (se_p (sp_add (SP.sb (sp_mul (sb_var 4) (sb_var 1))) (sb_var 5)))) (sss_cons (ss_set 7 sc.nd (by decide) (se_p (sp_add (SP.sb (sp_mul (sb_var 4) (sb_var 1))) (SP.sb (sp_mod (SP.sb (sp_sub (sb_var 5) (SP.sb sp_int))) (sb_var 1)))))) (sss_cons (ss_set 8 sc.nd (by decide) (se_p (sp_sub (sb_var 6) (sb_var 1)))) (sss_cons (ss_if (set_t (st_eq hr (sb_var 4) (SP.sb sp_int))) (sss_one (ss_set 8 sc.nd (by decide) (se_p (sp_add (SP.sb (sp_mul (SP.sb (sp_sub (sb_var 0) (SP.sb sp_int))) (sb_var 1))) (SP.sb (sp_mod (SP.sb (sp_sub (sb_var 5) (sb_var 2))) (sb_var 1))))))) sss_nil) (sss_one (ss_append (spl_name 3) (se_p (sp_call (ok__law_least T) rfl (hr.mono (by decide)) T.g__law_least T.F__law_least.kp T.b__law_least pass0 (sba_cons (SP.sb (sp_lst (spa_cons (sp_add (SP.sb (sp_mul (SP.sb sp_int) (sb_var 6))) (SP.sb sp_int)) (spa_cons (sp_mul (SP.sb sp_int) (sb_var 6)) (spa_cons (sp_add (SP.sb (sp_mul (SP.sb sp_int) (sb_var 8))) (SP.sb sp_int)) (spa_cons (sp_add (SP.sb (sp_mul (SP.sb sp_int) (sb_var 7))) (SP.sb sp_int)) spa_nil)))))) sba_nil) (lcl lnl))))))))) (by simp [Tg.sl, slL]))) (by simp [Tg.sl, slL])) (sss_one (ss_ret (se_move 3 (by decide))))))

abbrev nn__law_threes : List PySem.Str := ["_law_r", "_law_c", "_law_s", "_law_told_here", "_law_p", "_law_left", "_law_down_here", "_law_back", "_law_row_here"]
theorem sc__law_threes : FnScope nn__law_threes ["_law_r", "_law_c", "_law_s"] (defScope (topS 51)) := ⟨rfl, rfl, rfl, by decide +kernel, rfl, by decide +kernel, by decide +kernel⟩
def bb__law_threes : SM := (sSeq (sSet 3 (lift (mk (.lst .o) lNil))) (sSeq (sFor (wR (rg1 (mOp2 fMul (mVar 0) (mVar 1)))) (.nm 4) (sSeq (sSet 5 (lift (mOp2 fAdd (mOp2 fSub (mVar 4) (mOp2 fMod (mVar 4) (mVar 1))) (mOp2 fMod (mOp2 fSub (mOp2 fMod (mVar 4) (mVar 1)) (mC (.int 1))) (mVar 1))))) (sSeq (sSet 6 (lift (mFn ff__law_down (lCons (mVar 0) (lCons (mVar 1) (lCons (mVar 2) (lCons (mVar 4) lNil))))))) (sSeq (sSet 7 (lift (mFn ff__law_down (lCons (mVar 0) (lCons (mVar 1) (lCons (mVar 2) (lCons (mVar 5) lNil))))))) (sSeq (sSet 8 (lift (mk (.lst .o) (lCons (mOp2 fAdd (mOp2 fMul (mC (.int 6)) (mVar 4)) (mC (.int 2))) (lCons (mOp2 fAdd (mOp2 fMul (mC (.int 6)) (mVar 4)) (mC (.int 4))) (lCons (mOp2 fMul (mC (.int 6)) (mVar 4)) (lCons (mOp2 fAdd (mOp2 fMul (mC (.int 6)) (mVar 6)) (mC (.int 3))) (lCons (mOp2 fAdd (mOp2 fMul (mC (.int 6)) (mVar 7)) (mC (.int 5))) (lCons (mOp2 fAdd (mOp2 fMul (mC (.int 6)) (mVar 5)) (mC (.int 1))) lNil))))))))) (sApp 3 (plName 3) (lift (mFn ff__law_least (lCons (mVar 8) lNil))))))))) (sRet (eMove 3))))
def ff__law_threes : FM := runP 9 bb__law_threes
theorem ok__law_threes (T : Tx K mg f fd) : FnOk P w K mg base CX0 2 f.f__law_threes fd.f__law_threes ["_law_r", "_law_c", "_law_s"] (spP K 3 ff__law_threes) :=
  have sc := sc__law_threes
  fn_pure T.F__law_threes sc (by decide) fun cdv A outer s H E hr => (sss_cons (ss_set 3 sc.nd (by decide) (se_p (sp_lst spa_nil))) (sss_cons (ss_for rfl PassesOwn.never (sj_range1 T.m_range (SP.sb (sp_mul (sb_var 0) (sb_var 1)))) (sg_name 4 sc.nd) (sss_cons (ss_set 5 sc.nd (by decide) (se_p (sp_add (SP.sb (sp_sub (sb_var 4) (SP.sb (sp_mod (sb_var 4) (sb_var 1))))) (SP.sb (sp_mod (SP.sb (sp_sub (SP.sb (sp_mod (sb_var 4) (sb_var 1))) (SP.sb sp_int))) (sb_var 1)))))) (sss_cons (ss_set 6 sc.nd (by decide) (se_p (sp_call (ok__law_down T) rfl (hr.mono (by decide)) T.g__law_down T.F__law_down.kp T.b__law_down pass0 (sba_cons (sb_var 0) (sba_cons (sb_var 1) (sba_cons (sb_var 2) (sba_cons (sb_var 4) sba_nil)))) (lcl (lcl (lcl (lcl lnl))))))) (sss_cons (ss_set 7 sc.nd (by decide) (se_p (sp_call (ok__law_down T) rfl (hr.mono (by decide)) T.g__law_down T.F__law_down.kp T.b__law_down pass0 (sba_cons (sb_var 0) (sba_cons (sb_var 1) (sba_cons (sb_var 2) (sba_cons (sb_var 5) sba_nil)))) (lcl (lcl (lcl (lcl lnl))))))) (sss_cons (ss_set 8 sc.nd (by decide) (se_p (sp_lst (spa_cons (sp_add (SP.sb (sp_mul (SP.sb sp_int) (sb_var 4))) (SP.sb sp_int)) (spa_cons (sp_add (SP.sb (sp_mul (SP.sb sp_int) (sb_var 4))) (SP.sb sp_int)) (spa_cons (sp_mul (SP.sb sp_int) (sb_var 4)) (spa_cons (sp_add (SP.sb (sp_mul (SP.sb sp_int) (sb_var 6))) (SP.sb sp_int)) (spa_cons (sp_add (SP.sb (sp_mul (SP.sb sp_int) (sb_var 7))) (SP.sb sp_int)) (spa_cons (sp_add (SP.sb (sp_mul (SP.sb sp_int) (sb_var 5))) (SP.sb sp_int)) spa_nil))))))))) (sss_one (ss_append (spl_name 3) (se_p (sp_call (ok__law_least T) rfl (hr.mono (by decide)) T.g__law_least T.F__law_least.kp T.b__law_least pass0 (sba_cons (sb_var 8) sba_nil) (lcl lnl))))))))) (by simp [Tg.sl, slL])) (sss_one (ss_ret (se_move 3 (by decide))))))

abbrev nn__law_told : List PySem.Str := ["_law_told_here", "_law_sort", "_law_numbers_here", "_law_at", "_law_number"]
theorem sc__law_told : FnScope nn__law_told ["_law_told_here", "_law_sort", "_law_numbers_here"] (defScope (topS 54)) := ⟨rfl, rfl, rfl, by decide +kernel, rfl, by decide +kernel, by decide +kernel⟩
def bb__law_told : SM := (sSeq (sIf (liftT (mOr (mNotT (mB (mIsi "tuple" (mVar 0)))) (mB (mOp2 fNe (mCall fLen (lCons (mVar 0) lNil)) (mC (.int 5)))))) (sRet (lift (mC (.bl false)))) sNx) (sSeq (sIf (liftT (mOr (mNotT (mB (mIsi "str" (mItem (mVar 0) (mC (.int 0)))))) (mB (mOp2 fNe (mItem (mVar 0) (mC (.int 0))) (mVar 1))))) (sRet (lift (mC (.bl false)))) sNx) (sSeq (sFor (wET (mPure (mVar 2))) (.tp [(.nm 3), (.nm 4)]) (sIf (liftT (mOr (mNotT (mTru (mFn ff__law_whole (lCons (mItem (mVar 0) (mOp2 fAdd (mVar 3) (mC (.int 1)))) lNil)))) (mB (mOp2 fNe (mItem (mVar 0) (mOp2 fAdd (mVar 3) (mC (.int 1)))) (mVar 4))))) (sRet (lift (mC (.bl false)))) sNx)) (sRet (lift (mC (.bl true)))))))
def ff__law_told : FM := runP 5 bb__law_told
theorem ok__law_told (T : Tx K mg f fd) : FnOk P w K mg base CX0 2 f.f__law_told fd.f__law_told ["_law_told_here", "_law_sort", "_law_numbers_here"] (spP K 3 ff__law_told) :=
  have sc := sc__law_told
  fn_pure T.F__law_told sc (by decide) fun cdv A outer s H E hr => (sss_cons (ss_if (set_t (st_w (sw_or (st_not (st_val (SP.sb (sp_isi T.m_isinstance T.m_tuple bt_tuple (sb_var 0) bt_isinstance)))) (sw_or1 (st_ne hr (SP.sb (sp_callB call_len_seq opn_len bt_len T.m_len (sba_cons (sb_var 0) sba_nil))) (SP.sb sp_int)))))) (sss_one (ss_ret (se_p sp_bl))) sss_nil) (sss_cons (ss_if (set_t (st_w (sw_or (st_not (st_val (SP.sb (sp_isi T.m_isinstance T.m_str bt_str (sb_item (sb_var 0) (SP.sb sp_int)) bt_isinstance)))) (sw_or1 (st_ne hr (sb_item (sb_var 0) (SP.sb sp_int)) (sb_var 1)))))) (sss_one (ss_ret (se_p sp_bl))) sss_nil) (sss_cons (ss_for rfl PassesOwn.never (sj_enumT T.m_enumerate (sp_pure (sb_var 2))) (sg_tup rfl (sgs_cons (sg_name 3 sc.nd) (sgs_cons (sg_name 4 sc.nd) sgs_nil))) (sss_one (ss_if (set_t (st_w (sw_or (st_not (st_tru (SP.sb (sp_call (ok__law_whole T) rfl (hr.mono (by decide)) T.g__law_whole T.F__law_whole.kp T.b__law_whole pass0 (sba_cons (sb_item (sb_var 0) (SP.sb (sp_add (sb_var 3) (SP.sb sp_int)))) sba_nil) (lcl lnl))))) (sw_or1 (st_ne hr (sb_item (sb_var 0) (SP.sb (sp_add (sb_var 3) (SP.sb sp_int)))) (sb_var 4)))))) (sss_one (ss_ret (se_p sp_bl))) sss_nil)) (by simp [Tg.sl, slL])) (sss_one (ss_ret (se_p sp_bl))))))

abbrev nn_orders_of : List PySem.Str := ["drawing", "homes", "row", "end"]
theorem sc_orders_of : FnScope nn_orders_of ["drawing"] (defScope (topS 6)) := ⟨rfl, rfl, rfl, by decide +kernel, rfl, by decide +kernel, by decide +kernel⟩
def bb_orders_of : SM := (sSeq (sSet 1 (lift (mFn ff_homes_of (lCons (mVar 0) lNil)))) (sRet (lift (mLc (wL (mVar 0)) (.nm 2) bYes (mLc (wL (mVar 2)) (.nm 3) bYes (mPure (mItem (mVar 1) (mFn ff_mate_of (lCons (mVar 3) lNil)))) [3]) [2]))))
def ff_orders_of : FM := runP 4 bb_orders_of
theorem ok_orders_of (T : Tx K mg f fd) : FnOk P w K mg base CX0 3 f.f_orders_of fd.f_orders_of ["drawing"] (spP K 1 ff_orders_of) :=
  have sc := sc_orders_of
  fn_pure T.F_orders_of sc (by decide) fun cdv A outer s H E hr => (sss_cons (ss_set 1 sc.nd (by decide) (se_p (sp_call (ok_homes_of T) rfl (hr.mono (by decide)) T.g_homes_of T.F_homes_of.kp T.b_homes_of pass0 (sba_cons (sb_var 0) sba_nil) (lcl lnl)))) (sss_one (ss_ret (se_p (sp_lc (own := [("row", 2)]) rfl sc.nd (si_list (sb_var 0)) (okb (N := nn_orders_of) (sc := defScope (topS 6)) (by decide +kernel)) (fun _ _ _ _ _ => (sg_name 2 sc.nd)) (fun _ _ _ _ _ => sts_nil) (fun _ _ _ _ _ => (sp_lc (own := [("end", 3)]) rfl sc.nd (si_list (sb_var 2)) (by rfl) (fun _ _ _ _ _ => (sg_name 3 sc.nd)) (fun _ _ _ _ _ => sts_nil) (fun _ _ _ _ _ => (sp_item (sb_var 1) (SP.sb (sp_call (ok_mate_of T) rfl (hr.mono (by decide)) T.g_mate_of T.F_mate_of.kp T.b_mate_of pass0 (sba_cons (sb_var 3) sba_nil) (lcl lnl))))) (by simp [Tg.sl, slL]))) (by simp [Tg.sl, slL]))))))

abbrev nn_fours_by : List PySem.Str := ["rows", "columns", "shift"]
theorem sc_fours_by : FnScope nn_fours_by ["rows", "columns", "shift"] (defScope (topS 21)) := ⟨rfl, rfl, rfl, by decide +kernel, rfl, by decide +kernel, by decide +kernel⟩
def bb_fours_by : SM := (sRet (lift (mFn ff_laid_out (lCons (mk (.lst .o) (lCons (mFn ff_rights_of (lCons (mVar 0) (lCons (mVar 1) lNil))) (lCons (mFn ff_uppers_of (lCons (mVar 0) (lCons (mVar 1) (lCons (mVar 2) lNil)))) lNil))) (lCons (mCT [0, 3, 1, 2]) lNil)))))
def ff_fours_by : FM := runP 3 bb_fours_by
theorem ok_fours_by (T : Tx K mg f fd) : FnOk P w K mg base CX0 3 f.f_fours_by fd.f_fours_by ["rows", "columns", "shift"] (spP K 3 ff_fours_by) :=
  have sc := sc_fours_by
  fn_pure T.F_fours_by sc (by decide) fun cdv A outer s H E hr => (sss_one (ss_ret (se_p (sp_call (ok_laid_out T) rfl (hr.mono (by decide)) T.g_laid_out T.F_laid_out.kp T.b_laid_out pass0 (sba_cons (SP.sb (sp_lst (spa_cons (sp_call (ok_rights_of T) rfl (hr.mono (by decide)) T.g_rights_of T.F_rights_of.kp T.b_rights_of pass0 (sba_cons (sb_var 0) (sba_cons (sb_var 1) sba_nil)) (lcl (lcl lnl))) (spa_cons (sp_call (ok_uppers_of T) rfl (hr.mono (by decide)) T.g_uppers_of T.F_uppers_of.kp T.b_uppers_of pass0 (sba_cons (sb_var 0) (sba_cons (sb_var 1) (sba_cons (sb_var 2) sba_nil))) (lcl (lcl (lcl lnl)))) spa_nil)))) (sba_cons (SP.sb (sp_tupK rfl T.c_FOURS_CLOCK)) sba_nil)) (lcl (lcl lnl))))))

abbrev nn_threes_by : List PySem.Str := ["rows", "columns", "shift", "rights", "uppers", "slants", "upper"]
theorem sc_threes_by : FnScope nn_threes_by ["rows", "columns", "shift"] (defScope (topS 22)) := ⟨rfl, rfl, rfl, by decide +kernel, rfl, by decide +kernel, by decide +kernel⟩
def bb_threes_by : SM := (sSeq (sSet 3 (lift (mFn ff_rights_of (lCons (mVar 0) (lCons (mVar 1) lNil))))) (sSeq (sSet 4 (lift (mFn ff_uppers_of (lCons (mVar 0) (lCons (mVar 1) (lCons (mVar 2) lNil)))))) (sSeq (sSet 5 (lift (mLc (wL (mVar 4)) (.nm 6) bYes (mPure (mItem (mVar 3) (mVar 6))) [6]))) (sRet (eCallM (pM ff_laid_out) [.ev (eMk (.lst .o) [.ev (eMove 3), .ev (eMove 4), .ev (eMove 5)]), .ev (lift (mCT [0, 3, 5, 1, 2, 4]))])))))
def ff_threes_by : FM := runP 7 bb_threes_by
theorem ok_threes_by (T : Tx K mg f fd) : FnOk P w K mg base CX0 3 f.f_threes_by fd.f_threes_by ["rows", "columns", "shift"] (spP K 3 ff_threes_by) :=
  have sc := sc_threes_by
  fn_pure T.F_threes_by sc (by decide) fun cdv A outer s H E hr => (sss_cons (ss_set 3 sc.nd (by decide) (se_p (sp_call (ok_rights_of T) rfl (hr.mono (by decide)) T.g_rights_of T.F_rights_of.kp T.b_rights_of pass0 (sba_cons (sb_var 0) (sba_cons (sb_var 1) sba_nil)) (lcl (lcl lnl))))) (sss_cons (ss_set 4 sc.nd (by decide) (se_p (sp_call (ok_uppers_of T) rfl (hr.mono (by decide)) T.g_uppers_of T.F_uppers_of.kp T.b_uppers_of pass0 (sba_cons (sb_var 0) (sba_cons (sb_var 1) (sba_cons (sb_var 2) sba_nil))) (lcl (lcl (lcl lnl)))))) (sss_cons (ss_setLc (own := [("upper", 6)]) 5 (by decide) rfl sc.nd (si_list (sb_var 4)) (okb (N := nn_threes_by) (sc := defScope (topS 22)) (by decide +kernel)) (fun _ _ _ _ _ => (sg_name 6 sc.nd)) (fun _ _ _ _ _ => sts_nil) (fun _ _ _ _ _ => (sp_item (sb_var 3) (sb_var 6))) (by simp [Tg.sl, slL]) (sw_true rfl rfl rfl (by decide +kernel))) (sss_one (ss_ret (se_callM (ok_pM (ok_laid_out T)) (hr.mono (by decide)) T.g_laid_out T.F_laid_out.kp T.b_laid_out pass0 rfl rfl (by simp [muS, boS]) (sea_ev (se_lstA (sea_ev (se_move 3 (by decide)) (sea_ev (se_move 4 (by decide)) (sea_ev (se_move 5 (by decide)) sea_nil)))) (sea_ev (se_p (sp_tupK rfl T.c_THREES_CLOCK)) sea_nil))))))))

abbrev nn_lands_of : List PySem.Str := ["drawing", "behind", "seen", "lands", "first", "land", "end", "row"]
theorem sc_lands_of : FnScope nn_lands_of ["drawing"] (defScope (topS 32)) := ⟨rfl, rfl, rfl, by decide +kernel, rfl, by decide +kernel, by decide +kernel⟩
def bb_lands_of : SM := (sSeq (sSet 1 (lift (mFn ff_behind_of (lCons (mVar 0) lNil)))) (sSeq (sSet 2 (lift (mRep (mk (.lst .o) (lCons (mC (.bl false)) lNil)) (mCall fLen (lCons (mVar 1) lNil))))) (sSeq (sSet 3 (lift (mk (.lst .o) lNil))) (sSeq (sFor (wR (rg1 (mCall fLen (lCons (mVar 1) lNil)))) (.nm 4) (sIf (liftT (mNotT (mTru (mItem (mVar 2) (mVar 4))))) (sSeq (sSet 5 (lift (mFn ff_land_from (lCons (mVar 1) (lCons (mVar 4) lNil))))) (sSeq (sForH 5 (.nm 6) (sPut 2 (plName 2) (mVar 6) (lift (mC (.bl true))))) (sApp 3 (plName 3) (eMove 5)))) sNx)) (sRet (eCat (eMove 3) (lift (mLc (wL (mVar 0)) (.nm 7) (mNotT (mTru (mVar 7))) (mk (.lst .o) lNil) [7]))))))))
def ff_lands_of : FM := runP 8 bb_lands_of
theorem ok_lands_of (T : Tx K mg f fd) : FnOk P w K mg base CX0 3 f.f_lands_of fd.f_lands_of ["drawing"] (spP K 1 ff_lands_of) :=
  have sc := sc_lands_of
  fn_pure T.F_lands_of sc (by decide) fun cdv A outer s H E hr => (sss_cons (ss_set 1 sc.nd (by decide) (se_p (sp_call (ok_behind_of T) rfl (hr.mono (by decide)) T.g_behind_of T.F_behind_of.kp T.b_behind_of pass0 (sba_cons (sb_var 0) sba_nil) (lcl lnl)))) (sss_cons (ss_set 2 sc.nd (by decide) (se_p (sp_rep (SP.sb (sp_lst (spa_cons sp_bl spa_nil))) (SP.sb (sp_callB call_len_seq opn_len bt_len T.m_len (sba_cons (sb_var 1) sba_nil)))))) (sss_cons (ss_set 3 sc.nd (by decide) (se_p (sp_lst spa_nil))) (sss_cons (ss_for rfl PassesOwn.never (sj_range1 T.m_range (SP.sb (sp_callB call_len_seq opn_len bt_len T.m_len (sba_cons (sb_var 1) sba_nil)))) (sg_name 4 sc.nd) (sss_one (ss_if (set_t (st_not (st_tru (sb_item (sb_var 2) (sb_var 4))))) (sss_cons (ss_set 5 sc.nd (by decide) (se_p (sp_call (ok_land_from T) rfl (hr.mono (by decide)) T.g_land_from T.F_land_from.kp T.b_land_from pass0 (sba_cons (sb_var 1) (sba_cons (sb_var 4) sba_nil)) (lcl (lcl lnl))))) (sss_cons (ss_forH 5 rfl PassesOwn.never (sg_name 6 sc.nd) (sss_one (ss_put (se_p sp_bl) (spl_name 2) (sb_var 6))) (by simp [Tg.sl, slL])) (sss_one (ss_append (spl_name 3) (se_move 5 (by decide)))))) sss_nil)) (by simp [Tg.sl, slL])) (sss_one (ss_ret (se_cat (se_move 3 (by decide)) (se_p (sp_lc (own := [("row", 7)]) rfl sc.nd (si_list (sb_var 0)) (okb (N := nn_lands_of) (sc := defScope (topS 32)) (by decide +kernel)) (fun _ _ _ _ _ => (sg_name 7 sc.nd)) (fun _ _ _ _ _ => (sts_one (st_not (st_tru (sb_var 7))))) (fun _ _ _ _ _ => (sp_lst spa_nil)) (by simp [Tg.sl, slL]))))))))))

abbrev nn__law_rows : List PySem.Str := ["_law_found", "_law_due", "_law_at", "_law_row_here"]
theorem sc__law_rows : FnScope nn__law_rows ["_law_found", "_law_due"] (defScope (topS 47)) := ⟨rfl, rfl, rfl, by decide +kernel, rfl, by decide +kernel, by decide +kernel⟩
def bb__law_rows : SM := (sSeq (sIf (liftT (mOr (mNotT (mB (mIsi "list" (mVar 0)))) (mB (mOp2 fNe (mCall fLen (lCons (mVar 0) lNil)) (mCall fLen (lCons (mVar 1) lNil)))))) (sRet (lift (mC (.bl false)))) sNx) (sSeq (sFor (wE (mPure (mVar 1))) (.tp [(.nm 2), (.nm 3)]) (sIf (liftT (mNotT (mTru (mFn ff__law_row (lCons (mItem (mVar 0) (mVar 2)) (lCons (mVar 3) lNil)))))) (sRet (lift (mC (.bl false)))) sNx)) (sRet (lift (mC (.bl true))))))
def ff__law_rows : FM := runP 4 bb__law_rows
theorem ok__law_rows (T : Tx K mg f fd) : FnOk P w K mg base CX0 3 f.f__law_rows fd.f__law_rows ["_law_found", "_law_due"] (spP K 2 ff__law_rows) :=
  have sc := sc__law_rows
  fn_pure T.F__law_rows sc (by decide) fun cdv A outer s H E hr => (sss_cons (ss_if (set_t (st_w (sw_or (st_not (st_val (SP.sb (sp_isi T.m_isinstance T.m_list bt_list (sb_var 0) bt_isinstance)))) (sw_or1 (st_ne hr (SP.sb (sp_callB call_len_seq opn_len bt_len T.m_len (sba_cons (sb_var 0) sba_nil))) (SP.sb (sp_callB call_len_seq opn_len bt_len T.m_len (sba_cons (sb_var 1) sba_nil)))))))) (sss_one (ss_ret (se_p sp_bl))) sss_nil) (sss_cons (ss_for rfl PassesOwn.never (sj_enum T.m_enumerate (sp_pure (sb_var 1))) (sg_tup rfl (sgs_cons (sg_name 2 sc.nd) (sgs_cons (sg_name 3 sc.nd) sgs_nil))) (sss_one (ss_if (set_t (st_not (st_tru (SP.sb (sp_call (ok__law_row T) rfl (hr.mono (by decide)) T.g__law_row T.F__law_row.kp T.b__law_row pass0 (sba_cons (sb_item (sb_var 0) (sb_var 2)) (sba_cons (sb_var 3) sba_nil)) (lcl (lcl lnl))))))) (sss_one (ss_ret (se_p sp_bl))) sss_nil)) (by simp [Tg.sl, slL])) (sss_one (ss_ret (se_p sp_bl)))))

abbrev nn__law_numbers : List PySem.Str := ["_law_box", "_law_way", "_law_r", "_law_c"]
theorem sc__law_numbers : FnScope nn__law_numbers ["_law_box"] (defScope (topS 52)) := ⟨rfl, rfl, rfl, by decide +kernel, rfl, by decide +kernel, by decide +kernel⟩
def bb__law_numbers : SM := (sSeq (sSet 1 (eCallM ff__law_take [.mv 0, .ev (lift (mC (.int 6)))])) (sSeq (sIf (liftT (mB (mOp2 fEq (mVar 1) (mC (.int 0))))) (sSeq (sSet 2 (eItem (lift (mk (.lst .o) (lCons (mC (.int 1)) (lCons (mC (.int 2)) (lCons (mC (.int 4)) (lCons (mC (.int 5)) (lCons (mC (.int 8)) (lCons (mC (.int 10)) (lCons (mC (.int 20)) (lCons (mC (.int 40)) lNil)))))))))) (eCallM ff__law_take [.mv 0, .ev (lift (mC (.int 8)))]))) (sSet 3 (lift (mOp2 fDiv (mC (.int 40)) (mVar 2))))) (sSeq (sSet 2 (eOp2 fAdd (lift (mC (.int 1))) (eCallM ff__law_take [.mv 0, .ev (lift (mPure (mItem (mk (.lst .o) (lCons (mC (.int 3)) (lCons (mC (.int 6)) (lCons (mC (.int 12)) (lCons (mC (.int 40)) (lCons (mC (.int 7)) lNil)))))) (mOp2 fSub (mVar 1) (mC (.int 1))))))]))) (sSeq (sSet 3 (eOp2 fAdd (lift (mC (.int 1))) (eCallM ff__law_take [.mv 0, .ev (lift (mOp2 fDiv (mC (.int 40)) (mVar 2)))]))) (sIf (eB (eOp2 fEq (eCallM ff__law_take [.mv 0, .ev (lift (mC (.int 2)))]) (lift (mC (.int 1))))) (sAsg (.tp [.nm 2, .nm 3]) (mk .tup (lCons (mPure (mVar 3)) (lCons (mPure (mVar 2)) lNil)))) sNx)))) (sRet (eMk .tup [.ev (lift (mPure (mVar 2))), .ev (lift (mPure (mVar 3))), .ev (eCallM ff__law_take [.mv 0, .bor 3])]))))
def ff__law_numbers : FMu := runM 4 [0] bb__law_numbers
theorem ok__law_numbers (T : Tx K mg f fd) : FnOk P w K mg base CX0 3 f.f__law_numbers fd.f__law_numbers ["_law_box"] (spM K 1 [0] ff__law_numbers) :=
  have sc := sc__law_numbers
  fn_mut T.F__law_numbers sc (by decide) (by decide) fun cdv A outer s H E hr => (sss_cons (ss_set 1 sc.nd (by decide) (se_callM (ok__law_take T) (hr.mono (by decide)) T.g__law_take T.F__law_take.kp T.b__law_take pass0 rfl rfl (by simp [muS, boS]) (sea_mut 0 (sea_ev (se_p sp_int) sea_nil)))) (sss_cons (ss_if (set_t (st_eq hr (sb_var 1) (SP.sb sp_int))) (sss_cons (ss_set 2 sc.nd (by decide) (se_item (se_p (sp_lst (spa_cons sp_int (spa_cons sp_int (spa_cons sp_int (spa_cons sp_int (spa_cons sp_int (spa_cons sp_int (spa_cons sp_int (spa_cons sp_int spa_nil)))))))))) (se_callM (ok__law_take T) (hr.mono (by decide)) T.g__law_take T.F__law_take.kp T.b__law_take pass0 rfl rfl (by simp [muS, boS]) (sea_mut 0 (sea_ev (se_p sp_int) sea_nil))))) (sss_one (ss_set 3 sc.nd (by decide) (se_p (sp_div (SP.sb sp_int) (sb_var 2)))))) (sss_cons (ss_set 2 sc.nd (by decide) (se_add (se_p sp_int) (se_callM (ok__law_take T) (hr.mono (by decide)) T.g__law_take T.F__law_take.kp T.b__law_take pass0 rfl rfl (by simp [muS, boS]) (sea_mut 0 (sea_ev (se_p (sp_item (SP.sb (sp_lst (spa_cons sp_int (spa_cons sp_int (spa_cons sp_int (spa_cons sp_int (spa_cons sp_int spa_nil))))))) (SP.sb (sp_sub (sb_var 1) (SP.sb sp_int))))) sea_nil))))) (sss_cons (ss_set 3 sc.nd (by decide) (se_add (se_p sp_int) (se_callM (ok__law_take T) (hr.mono (by decide)) T.g__law_take T.F__law_take.kp T.b__law_take pass0 rfl rfl (by simp [muS, boS]) (sea_mut 0 (sea_ev (se_p (sp_div (SP.sb sp_int) (sb_var 2))) sea_nil))))) (sss_one (ss_if (set_eq hr (se_callM (ok__law_take T) (hr.mono (by decide)) T.g__law_take T.F__law_take.kp T.b__law_take pass0 rfl rfl (by simp [muS, boS]) (sea_mut 0 (sea_ev (se_p sp_int) sea_nil))) (se_p sp_int)) (sss_one (ss_par 2 3 rfl sc.nd (by decide) (by decide) (by decide) (spa_cons (sp_pure (sb_var 3)) (spa_cons (sp_pure (sb_var 2)) spa_nil)))) sss_nil))))) (sss_one (ss_ret (se_tupA (sea_ev (se_p (sp_pure (sb_var 2))) (sea_ev (se_p (sp_pure (sb_var 3))) (sea_ev (se_callM (ok__law_take T) (hr.mono (by decide)) T.g__law_take T.F__law_take.kp T.b__law_take pass0 rfl rfl (by simp [muS, boS]) (sea_mut 0 (sea_bor 3 sea_nil))) sea_nil))))))))

abbrev nn__law_kind : List PySem.Str := ["_law_sort", "_law_r", "_law_c", "_law_s"]
theorem sc__law_kind : FnScope nn__law_kind ["_law_sort", "_law_r", "_law_c", "_law_s"] (defScope (topS 53)) := ⟨rfl, rfl, rfl, by decide +kernel, rfl, by decide +kernel, by decide +kernel⟩
def bb__law_kind : SM := (sSeq (sIf (liftT (mB (mOp2 fEq (mVar 0) (mC (.str "fours"))))) (sRet (lift (mFn ff__law_fours (lCons (mVar 1) (lCons (mVar 2) (lCons (mVar 3) lNil)))))) sNx) (sRet (lift (mFn ff__law_threes (lCons (mVar 1) (lCons (mVar 2) (lCons (mVar 3) lNil)))))))
def ff__law_kind : FM := runP 4 bb__law_kind
theorem ok__law_kind (T : Tx K mg f fd) : FnOk P w K mg base CX0 3 f.f__law_kind fd.f__law_kind ["_law_sort", "_law_r", "_law_c", "_law_s"] (spP K 4 ff__law_kind) :=
  have sc := sc__law_kind
  fn_pure T.F__law_kind sc (by decide) fun cdv A outer s H E hr => (sss_cons (ss_if (set_t (st_eq hr (sb_var 0) (SP.sb sp_str))) (sss_one (ss_ret (se_p (sp_call (ok__law_fours T) rfl (hr.mono (by decide)) T.g__law_fours T.F__law_fours.kp T.b__law_fours pass0 (sba_cons (sb_var 1) (sba_cons (sb_var 2) (sba_cons (sb_var 3) sba_nil))) (lcl (lcl (lcl lnl))))))) sss_nil) (sss_one (ss_ret (se_p (sp_call (ok__law_threes T) rfl (hr.mono (by decide)) T.g__law_threes T.F__law_threes.kp T.b__law_threes pass0 (sba_cons (sb_var 1) (sba_cons (sb_var 2) (sba_cons (sb_var 3) sba_nil))) (lcl (lcl (lcl lnl))))))))

abbrev nn_fours : List PySem.Str := ["rows", "columns", "shift"]
theorem sc_fours : FnScope nn_fours ["rows", "columns", "shift"] (defScope (topS 19)) := ⟨rfl, rfl, rfl, by decide +kernel, rfl, by decide +kernel, by decide +kernel⟩
def bb_fours : SM := (sSeq (sDrop (lift (mFn ff_check_numbers (lCons (mVar 0) (lCons (mVar 1) (lCons (mVar 2) lNil)))))) (sRet (lift (mFn ff_fours_by (lCons (mVar 0) (lCons (mVar 1) (lCons (mVar 2) lNil)))))))
def ff_fours : FM := runP 3 bb_fours
theorem ok_fours (T : Tx K mg f fd) : FnOk P w K mg base CX0 4 f.f_fours fd.f_fours ["rows", "columns", "shift"] (spP K 3 ff_fours) :=
  have sc := sc_fours
  fn_pure T.F_fours sc (by decide) fun cdv A outer s H E hr => (sss_cons (ss_expr (se_p (sp_call (ok_check_numbers T) rfl (hr.mono (by decide)) T.g_check_numbers T.F_check_numbers.kp T.b_check_numbers pass0 (sba_cons (sb_var 0) (sba_cons (sb_var 1) (sba_cons (sb_var 2) sba_nil))) (lcl (lcl (lcl lnl)))))) (sss_one (ss_ret (se_p (sp_call (ok_fours_by T) rfl (hr.mono (by decide)) T.g_fours_by T.F_fours_by.kp T.b_fours_by pass0 (sba_cons (sb_var 0) (sba_cons (sb_var 1) (sba_cons (sb_var 2) sba_nil))) (lcl (lcl (lcl lnl))))))))

abbrev nn_threes : List PySem.Str := ["rows", "columns", "shift"]
theorem sc_threes : FnScope nn_threes ["rows", "columns", "shift"] (defScope (topS 20)) := ⟨rfl, rfl, rfl, by decide +kernel, rfl, by decide +kernel, by decide +kernel⟩
def bb_threes : SM := (sSeq (sDrop (lift (mFn ff_check_numbers (lCons (mVar 0) (lCons (mVar 1) (lCons (mVar 2) lNil)))))) (sRet (lift (mFn ff_threes_by (lCons (mVar 0) (lCons (mVar 1) (lCons (mVar 2) lNil)))))))
def ff_threes : FM := runP 3 bb_threes
theorem ok_threes (T : Tx K mg f fd) : FnOk P w K mg base CX0 4 f.f_threes fd.f_threes ["rows", "columns", "shift"] (spP K 3 ff_threes) :=
  have sc := sc_threes
  fn_pure T.F_threes sc (by decide) fun cdv A outer s H E hr => (sss_cons (ss_expr (se_p (sp_call (ok_check_numbers T) rfl (hr.mono (by decide)) T.g_check_numbers T.F_check_numbers.kp T.b_check_numbers pass0 (sba_cons (sb_var 0) (sba_cons (sb_var 1) (sba_cons (sb_var 2) sba_nil))) (lcl (lcl (lcl lnl)))))) (sss_one (ss_ret (se_p (sp_call (ok_threes_by T) rfl (hr.mono (by decide)) T.g_threes_by T.F_threes_by.kp T.b_threes_by pass0 (sba_cons (sb_var 0) (sba_cons (sb_var 1) (sba_cons (sb_var 2) sba_nil))) (lcl (lcl (lcl lnl))))))))

abbrev nn_parts_of : List PySem.Str := ["drawing"]
theorem sc_parts_of : FnScope nn_parts_of ["drawing"] (defScope (topS 34)) := ⟨rfl, rfl, rfl, by decide +kernel, rfl, by decide +kernel, by decide +kernel⟩
def bb_parts_of : SM := (sRet (lift (mFn ff_groups (lCons (mFn ff_orders_of (lCons (mVar 0) lNil)) (lCons (mRg (rg1 (mCall fLen (lCons (mVar 0) lNil)))) lNil)))))
def ff_parts_of : FM := runP 1 bb_parts_of
theorem ok_parts_of (T : Tx K mg f fd) : FnOk P w K mg base CX0 4 f.f_parts_of fd.f_parts_of ["drawing"] (spP K 1 ff_parts_of) :=
  have sc := sc_parts_of
  fn_pure T.F_parts_of sc (by decide) fun cdv A outer s H E hr => (sss_one (ss_ret (se_p (sp_call (ok_groups T) rfl (hr.mono (by decide)) T.g_groups T.F_groups.kp T.b_groups pass0 (sba_cons (SP.sb (sp_call (ok_orders_of T) rfl (hr.mono (by decide)) T.g_orders_of T.F_orders_of.kp T.b_orders_of pass0 (sba_cons (sb_var 0) sba_nil) (lcl lnl))) (sba_cons (SP.sb (sp_listRg rfl T.m_list (srg_1 T.m_range (SP.sb (sp_callB call_len_seq opn_len bt_len T.m_len (sba_cons (sb_var 0) sba_nil)))))) sba_nil)) (lcl (lcl lnl))))))

abbrev nn_sort_of : List PySem.Str := ["drawing", "at_places", "at_lands", "row", "land"]
theorem sc_sort_of : FnScope nn_sort_of ["drawing"] (defScope (topS 37)) := ⟨rfl, rfl, rfl, by decide +kernel, rfl, by decide +kernel, by decide +kernel⟩
def bb_sort_of : SM := (sSeq (sIf (liftT (mB (mOp2 fEq (mCall fLen (lCons (mFn ff_parts_of (lCons (mVar 0) lNil)) lNil)) (mC (.int 1))))) (sSeq (sSet 1 (lift (mLc (wL (mVar 0)) (.nm 3) bYes (mCall fLen (lCons (mVar 3) lNil)) [3]))) (sSeq (sSet 2 (lift (mLc (wL (mFn ff_lands_of (lCons (mVar 0) lNil))) (.nm 4) bYes (mCall fLen (lCons (mVar 4) lNil)) [4]))) (sSeq (sIf (liftT (mAnd (mTru (mFn ff_all_are (lCons (mVar 1) (lCons (mC (.int 4)) lNil)))) (mTru (mFn ff_all_are (lCons (mVar 2) (lCons (mC (.int 4)) lNil)))))) (sRet (lift (mC (.str "fours")))) sNx) (sIf (liftT (mAnd (mTru (mFn ff_all_are (lCons (mVar 1) (lCons (mC (.int 6)) lNil)))) (mTru (mFn ff_all_are (lCons (mVar 2) (lCons (mC (.int 3)) lNil)))))) (sRet (lift (mC (.str "threes")))) sNx)))) sNx) (fun _ => none))
def ff_sort_of : FM := runP 5 bb_sort_of
theorem ok_sort_of (T : Tx K mg f fd) : FnOk P w K mg base CX0 5 f.f_sort_of fd.f_sort_of ["drawing"] (spP K 1 ff_sort_of) :=
  have sc := sc_sort_of
  fn_pure T.F_sort_of sc (by decide) fun cdv A outer s H E hr => (sss_cons (ss_if (set_t (st_eq hr (SP.sb (sp_callB call_len_seq opn_len bt_len T.m_len (sba_cons (SP.sb (sp_call (ok_parts_of T) rfl (hr.mono (by decide)) T.g_parts_of T.F_parts_of.kp T.b_parts_of pass0 (sba_cons (sb_var 0) sba_nil) (lcl lnl))) sba_nil))) (SP.sb sp_int))) (sss_cons (ss_setLc (own := [("row", 3)]) 1 (by decide) rfl sc.nd (si_list (sb_var 0)) (okb (N := nn_sort_of) (sc := defScope (topS 37)) (by decide +kernel)) (fun _ _ _ _ _ => (sg_name 3 sc.nd)) (fun _ _ _ _ _ => sts_nil) (fun _ _ _ _ _ => (sp_callB call_len_seq opn_len bt_len T.m_len (sba_cons (sb_var 3) sba_nil))) (by simp [Tg.sl, slL]) (sw_true rfl rfl rfl (by decide +kernel))) (sss_cons (ss_setLc (own := [("land", 4)]) 2 (by decide) rfl sc.nd (si_list (SP.sb (sp_call (ok_lands_of T) rfl (hr.mono (by decide)) T.g_lands_of T.F_lands_of.kp T.b_lands_of pass0 (sba_cons (sb_var 0) sba_nil) (lcl lnl)))) (okb (N := nn_sort_of) (sc := defScope (topS 37)) (by decide +kernel)) (fun _ _ _ _ _ => (sg_name 4 sc.nd)) (fun _ _ _ _ _ => sts_nil) (fun _ _ _ _ _ => (sp_callB call_len_seq opn_len bt_len T.m_len (sba_cons (sb_var 4) sba_nil))) (by simp [Tg.sl, slL]) (sw_true rfl rfl rfl (by decide +kernel))) (sss_cons (ss_if (set_t (st_w (sw_and (st_tru (SP.sb (sp_call (ok_all_are T) rfl (hr.mono (by decide)) T.g_all_are T.F_all_are.kp T.b_all_are pass0 (sba_cons (sb_var 1) (sba_cons (SP.sb sp_int) sba_nil)) (lcl (lcl lnl))))) (sw_and1 (st_tru (SP.sb (sp_call (ok_all_are T) rfl (hr.mono (by decide)) T.g_all_are T.F_all_are.kp T.b_all_are pass0 (sba_cons (sb_var 2) (sba_cons (SP.sb sp_int) sba_nil)) (lcl (lcl lnl))))))))) (sss_one (ss_ret (se_p sp_str))) sss_nil) (sss_one (ss_if (set_t (st_w (sw_and (st_tru (SP.sb (sp_call (ok_all_are T) rfl (hr.mono (by decide)) T.g_all_are T.F_all_are.kp T.b_all_are pass0 (sba_cons (sb_var 1) (sba_cons (SP.sb sp_int) sba_nil)) (lcl (lcl lnl))))) (sw_and1 (st_tru (SP.sb (sp_call (ok_all_are T) rfl (hr.mono (by decide)) T.g_all_are T.F_all_are.kp T.b_all_are pass0 (sba_cons (sb_var 2) (sba_cons (SP.sb sp_int) sba_nil)) (lcl (lcl lnl))))))))) (sss_one (ss_ret (se_p sp_str))) sss_nil))))) sss_nil) (sss_one ss_none))

abbrev nn_read_kind : List PySem.Str := ["drawing", "end", "sort", "behind", "clock", "line", "rights", "first", "shift"]
theorem sc_read_kind : FnScope nn_read_kind ["drawing", "end"] (defScope (topS 36)) := ⟨rfl, rfl, rfl, by decide +kernel, rfl, by decide +kernel, by decide +kernel⟩
def bb_read_kind : SM := (sSeq (sDrop (lift (mFn ff_check_end (lCons (mVar 0) (lCons (mVar 1) lNil))))) (sSeq (sSet 2 (lift (mFn ff_sort_of (lCons (mVar 0) lNil)))) (sSeq (sSet 3 (lift (mFn ff_behind_of (lCons (mVar 0) lNil)))) (sSeq (sSet 4 (lift (mIf (mB (mOp2 fEq (mVar 2) (mC (.str "fours")))) (mCT [0, 3, 1, 2]) (mCT [0, 3, 5, 1, 2, 4])))) (sSeq (sSet 5 (lift (mFn ff_straight_line (lCons (mVar 3) (lCons (mVar 1) (lCons (mCall fLen (lCons (mVar 4) lNil)) lNil)))))) (sSeq (sSet 6 (lift (mk (.lst .o) lNil))) (sSeq (sSet 7 (lift (mPure (mVar 1)))) (sSeq (whD (liftT (mB (mOp2 fLt (mCall fLen (lCons (mVar 6) lNil)) (mCall fLen (lCons (mVar 0) lNil))))) (sSeq (sExt 6 (plName 6) (mFn ff_straight_line (lCons (mVar 3) (lCons (mVar 7) (lCons (mCall fLen (lCons (mVar 4) lNil)) lNil))))) (sSet 7 (lift (mFn ff_upper_right (lCons (mVar 3) (lCons (mVar 7) (lCons (mVar 4) lNil))))))) 100000) (sSeq (sSet 8 (lift (mIdx (mVar 5) (mVar 7)))) (sRet (lift (mk .tup (lCons (mPure (mVar 2)) (lCons (mOp2 fDiv (mCall fLen (lCons (mVar 0) lNil)) (mCall fLen (lCons (mVar 5) lNil))) (lCons (mCall fLen (lCons (mVar 5) lNil)) (lCons (mPure (mVar 8)) (lCons (mFn ff_lay_by (lCons (mVar 3) (lCons (mVar 6) (lCons (mVar 4) lNil)))) lNil)))))))))))))))))
def ff_read_kind : FM := runP 9 bb_read_kind
theorem ok_read_kind (T : Tx K mg f fd) : FnOk P w K mg base CX0 6 f.f_read_kind fd.f_read_kind ["drawing", "end"] (spP K 2 ff_read_kind) :=
  have sc := sc_read_kind
  fn_pure T.F_read_kind sc (by decide) fun cdv A outer s H E hr => (sss_cons (ss_expr (se_p (sp_call (ok_check_end T) rfl (hr.mono (by decide)) T.g_check_end T.F_check_end.kp T.b_check_end pass0 (sba_cons (sb_var 0) (sba_cons (sb_var 1) sba_nil)) (lcl (lcl lnl))))) (sss_cons (ss_set 2 sc.nd (by decide) (se_p (sp_call (ok_sort_of T) rfl (hr.mono (by decide)) T.g_sort_of T.F_sort_of.kp T.b_sort_of pass0 (sba_cons (sb_var 0) sba_nil) (lcl lnl)))) (sss_cons (ss_set 3 sc.nd (by decide) (se_p (sp_call (ok_behind_of T) rfl (hr.mono (by decide)) T.g_behind_of T.F_behind_of.kp T.b_behind_of pass0 (sba_cons (sb_var 0) sba_nil) (lcl lnl)))) (sss_cons (ss_set 4 sc.nd (by decide) (se_p (sp_if (st_eq hr (sb_var 2) (SP.sb sp_str)) (sp_tupK rfl T.c_FOURS_CLOCK) (sp_tupK rfl T.c_THREES_CLOCK)))) (sss_cons (ss_set 5 sc.nd (by decide) (se_p (sp_call (ok_straight_line T) rfl (hr.mono (by decide)) T.g_straight_line T.F_straight_line.kp T.b_straight_line pass0 (sba_cons (sb_var 3) (sba_cons (sb_var 1) (sba_cons (SP.sb (sp_callB call_len_seq opn_len bt_len T.m_len (sba_cons (sb_var 4) sba_nil))) sba_nil))) (lcl (lcl (lcl lnl)))))) (sss_cons (ss_set 6 sc.nd (by decide) (se_p (sp_lst spa_nil))) (sss_cons (ss_set 7 sc.nd (by decide) (se_p (sp_pure (sb_var 1)))) (sss_cons (ss_while 100000 PassesOwn.never (set_t (st_lt (SP.sb (sp_callB call_len_seq opn_len bt_len T.m_len (sba_cons (sb_var 6) sba_nil))) (SP.sb (sp_callB call_len_seq opn_len bt_len T.m_len (sba_cons (sb_var 0) sba_nil))))) (sss_cons (ss_extend (spl_name 6) (SP.sb (sp_call (ok_straight_line T) rfl (hr.mono (by decide)) T.g_straight_line T.F_straight_line.kp T.b_straight_line pass0 (sba_cons (sb_var 3) (sba_cons (sb_var 7) (sba_cons (SP.sb (sp_callB call_len_seq opn_len bt_len T.m_len (sba_cons (sb_var 4) sba_nil))) sba_nil))) (lcl (lcl (lcl lnl)))))) (sss_one (ss_set 7 sc.nd (by decide) (se_p (sp_call (ok_upper_right T) rfl (hr.mono (by decide)) T.g_upper_right T.F_upper_right.kp T.b_upper_right pass0 (sba_cons (sb_var 3) (sba_cons (sb_var 7) (sba_cons (sb_var 4) sba_nil))) (lcl (lcl (lcl lnl))))))))) (sss_cons (ss_set 8 sc.nd (by decide) (se_p (sp_index (sb_var 5) (sb_var 7)))) (sss_one (ss_ret (se_p (sp_tup (spa_cons (sp_pure (sb_var 2)) (spa_cons (sp_div (SP.sb (sp_callB call_len_seq opn_len bt_len T.m_len (sba_cons (sb_var 0) sba_nil))) (SP.sb (sp_callB call_len_seq opn_len bt_len T.m_len (sba_cons (sb_var 5) sba_nil)))) (spa_cons (sp_callB call_len_seq opn_len bt_len T.m_len (sba_cons (sb_var 5) sba_nil)) (spa_cons (sp_pure (sb_var 8)) (spa_cons (sp_call (ok_lay_by T) rfl (hr.mono (by decide)) T.g_lay_by T.F_lay_by.kp T.b_lay_by pass0 (sba_cons (sb_var 3) (sba_cons (sb_var 6) (sba_cons (sb_var 4) sba_nil))) (lcl (lcl (lcl lnl)))) spa_nil))))))))))))))))))

abbrev nn_law : List PySem.Str := ["_law_script", "_law_box", "_law_sort", "_law_many", "_law_r", "_law_c", "_law_s", "_law_place", "_law_rows_here", "_law_told_here"]
theorem sc_law : FnScope nn_law ["_law_script"] (defScope (topS 56)) := ⟨rfl, rfl, rfl, by decide +kernel, rfl, by decide +kernel, by decide +kernel⟩
def bb_law : SM := (sSeq (sSet 1 (lift (mk (.lst .o) (lCons (mCallL fList (lCons (mVar 0) lNil)) (lCons (mC (.int 0)) (lCons (mC (.int 0)) (lCons (mC (.int 0)) lNil))))))) (sSeq (sSet 2 (eItem (lift (mk (.lst .o) (lCons (mC (.str "fours")) (lCons (mC (.str "threes")) lNil)))) (eCallM ff__law_take [.mv 1, .ev (lift (mC (.int 2)))]))) (sSeq (sSet 3 (lift (mC (.int 4)))) (sSeq (sIf (liftT (mB (mOp2 fEq (mVar 2) (mC (.str "threes"))))) (sSet 3 (lift (mC (.int 6)))) sNx) (sSeq (sAsgE (.tp [(.nm 4), (.nm 5), (.nm 6)]) (eCallM ff__law_numbers [.mv 1])) (sSeq (sSet 7 (eCallM ff__law_take [.mv 1, .ev (lift (mOp2 fMul (mVar 4) (mVar 5)))])) (sSeq (sSet 8 (lift (mFn ff_fours (lCons (mVar 4) (lCons (mVar 5) (lCons (mVar 6) lNil)))))) (sSeq (sIf (liftT (mB (mOp2 fEq (mVar 2) (mC (.str "threes"))))) (sSet 8 (lift (mFn ff_threes (lCons (mVar 4) (lCons (mVar 5) (lCons (mVar 6) lNil)))))) sNx) (sSeq (sSet 9 (lift (mFn ff_read_kind (lCons (mVar 8) (lCons (mC (.int 0)) lNil))))) (sSeq (sIf (liftT (mOr (mNotT (mTru (mFn ff__law_told (lCons (mVar 9) (lCons (mVar 2) (lCons (mk .tup (lCons (mPure (mVar 4)) (lCons (mPure (mVar 5)) (lCons (mPure (mVar 6)) lNil)))) lNil)))))) (mNotT (mTru (mFn ff__law_row (lCons (mItem (mVar 9) (mC (.int 4))) (lCons (mRg (rg1 (mOp2 fMul (mOp2 fMul (mVar 3) (mVar 4)) (mVar 5)))) lNil))))))) (sRet (lift (mC (.bl false)))) sNx) (sSeq (sIf (liftT (mNotT (mTru (mFn ff__law_rows (lCons (mVar 8) (lCons (mFn ff__law_kind (lCons (mVar 2) (lCons (mVar 4) (lCons (mVar 5) (lCons (mVar 6) lNil))))) lNil)))))) (sRet (lift (mC (.bl false)))) sNx) (sSeq (sSet 9 (lift (mFn ff_read_kind (lCons (mVar 8) (lCons (mOp2 fMul (mVar 3) (mVar 7)) lNil))))) (sSeq (sIf (liftT (mNotT (mTru (mFn ff__law_told (lCons (mVar 9) (lCons (mVar 2) (lCons (mk .tup (lCons (mPure (mVar 4)) (lCons (mPure (mVar 5)) (lCons (mPure (mVar 6)) lNil)))) lNil))))))) (sRet (lift (mC (.bl false)))) sNx) (sRet (lift (mFn ff__law_row (lCons (mItem (mVar 9) (mC (.int 4))) (lCons (mFn ff__law_lay (lCons (mVar 4) (lCons (mVar 5) (lCons (mVar 6) (lCons (mVar 7) (lCons (mVar 3) lNil)))))) lNil))))))))))))))))))
def ff_law : FM := runP 10 bb_law
theorem ok_law (T : Tx K mg f fd) : FnOk P w K mg base CX0 7 f.f_law fd.f_law ["_law_script"] (spP K 1 ff_law) :=
  have sc := sc_law
  fn_pure T.F_law sc (by decide) fun cdv A outer s H E hr => (sss_cons (ss_set 1 sc.nd (by decide) (se_p (sp_lst (spa_cons (sp_callTyL call_list_of opnl_list bt_list T.m_list (sba_cons (sb_var 0) sba_nil)) (spa_cons sp_int (spa_cons sp_int (spa_cons sp_int spa_nil))))))) (sss_cons (ss_set 2 sc.nd (by decide) (se_item (se_p (sp_lst (spa_cons sp_str (spa_cons sp_str spa_nil)))) (se_callM (ok__law_take T) (hr.mono (by decide)) T.g__law_take T.F__law_take.kp T.b__law_take pass0 rfl rfl (by simp [muS, boS]) (sea_mut 1 (sea_ev (se_p sp_int) sea_nil))))) (sss_cons (ss_set 3 sc.nd (by decide) (se_p sp_int)) (sss_cons (ss_if (set_t (st_eq hr (sb_var 2) (SP.sb sp_str))) (sss_one (ss_set 3 sc.nd (by decide) (se_p sp_int))) sss_nil) (sss_cons (ss_asgE (se_callM (ok__law_numbers T) (hr.mono (by decide)) T.g__law_numbers T.F__law_numbers.kp T.b__law_numbers pass0 rfl rfl (by simp [muS, boS]) (sea_mut 1 sea_nil)) (sg_tup rfl (sgs_cons (sg_name 4 sc.nd) (sgs_cons (sg_name 5 sc.nd) (sgs_cons (sg_name 6 sc.nd) sgs_nil)))) (by simp [Tg.sl, slL])) (sss_cons (ss_set 7 sc.nd (by decide) (se_callM (ok__law_take T) (hr.mono (by decide)) T.g__law_take T.F__law_take.kp T.b__law_take pass0 rfl rfl (by simp [muS, boS]) (sea_mut 1 (sea_ev (se_p (sp_mul (sb_var 4) (sb_var 5))) sea_nil)))) (sss_cons (ss_set 8 sc.nd (by decide) (se_p (sp_call (ok_fours T) rfl (hr.mono (by decide)) T.g_fours T.F_fours.kp T.b_fours pass0 (sba_cons (sb_var 4) (sba_cons (sb_var 5) (sba_cons (sb_var 6) sba_nil))) (lcl (lcl (lcl lnl)))))) (sss_cons (ss_if (set_t (st_eq hr (sb_var 2) (SP.sb sp_str))) (sss_one (ss_set 8 sc.nd (by decide) (se_p (sp_call (ok_threes T) rfl (hr.mono (by decide)) T.g_threes T.F_threes.kp T.b_threes pass0 (sba_cons (sb_var 4) (sba_cons (sb_var 5) (sba_cons (sb_var 6) sba_nil))) (lcl (lcl (lcl lnl))))))) sss_nil) (sss_cons (ss_set 9 sc.nd (by decide) (se_p (sp_call (ok_read_kind T) rfl (hr.mono (by decide)) T.g_read_kind T.F_read_kind.kp T.b_read_kind pass0 (sba_cons (sb_var 8) (sba_cons (SP.sb sp_int) sba_nil)) (lcl (lcl lnl))))) (sss_cons (ss_if (set_t (st_w (sw_or (st_not (st_tru (SP.sb (sp_call (ok__law_told T) rfl (hr.mono (by decide)) T.g__law_told T.F__law_told.kp T.b__law_told pass0 (sba_cons (sb_var 9) (sba_cons (sb_var 2) (sba_cons (SP.sb (sp_tup (spa_cons (sp_pure (sb_var 4)) (spa_cons (sp_pure (sb_var 5)) (spa_cons (sp_pure (sb_var 6)) spa_nil))))) sba_nil))) (lcl (lcl (lcl lnl))))))) (sw_or1 (st_not (st_tru (SP.sb (sp_call (ok__law_row T) rfl (hr.mono (by decide)) T.g__law_row T.F__law_row.kp T.b__law_row pass0 (sba_cons (sb_item (sb_var 9) (SP.sb sp_int)) (sba_cons (SP.sb (sp_listRg rfl T.m_list (srg_1 T.m_range (SP.sb (sp_mul (SP.sb (sp_mul (sb_var 3) (sb_var 4))) (sb_var 5)))))) sba_nil)) (lcl (lcl lnl)))))))))) (sss_one (ss_ret (se_p sp_bl))) sss_nil) (sss_cons (ss_if (set_t (st_not (st_tru (SP.sb (sp_call (ok__law_rows T) rfl (hr.mono (by decide)) T.g__law_rows T.F__law_rows.kp T.b__law_rows pass0 (sba_cons (sb_var 8) (sba_cons (SP.sb (sp_call (ok__law_kind T) rfl (hr.mono (by decide)) T.g__law_kind T.F__law_kind.kp T.b__law_kind pass0 (sba_cons (sb_var 2) (sba_cons (sb_var 4) (sba_cons (sb_var 5) (sba_cons (sb_var 6) sba_nil)))) (lcl (lcl (lcl (lcl lnl)))))) sba_nil)) (lcl (lcl lnl))))))) (sss_one (ss_ret (se_p sp_bl))) sss_nil) (sss_cons (ss_set 9 sc.nd (by decide) (se_p (sp_call (ok_read_kind T) rfl (hr.mono (by decide)) T.g_read_kind T.F_read_kind.kp T.b_read_kind pass0 (sba_cons (sb_var 8) (sba_cons (SP.sb (sp_mul (sb_var 3) (sb_var 7))) sba_nil)) (lcl (lcl lnl))))) (sss_cons (ss_if (set_t (st_not (st_tru (SP.sb (sp_call (ok__law_told T) rfl (hr.mono (by decide)) T.g__law_told T.F__law_told.kp T.b__law_told pass0 (sba_cons (sb_var 9) (sba_cons (sb_var 2) (sba_cons (SP.sb (sp_tup (spa_cons (sp_pure (sb_var 4)) (spa_cons (sp_pure (sb_var 5)) (spa_cons (sp_pure (sb_var 6)) spa_nil))))) sba_nil))) (lcl (lcl (lcl lnl)))))))) (sss_one (ss_ret (se_p sp_bl))) sss_nil) (sss_one (ss_ret (se_p (sp_call (ok__law_row T) rfl (hr.mono (by decide)) T.g__law_row T.F__law_row.kp T.b__law_row pass0 (sba_cons (sb_item (sb_var 9) (SP.sb sp_int)) (sba_cons (SP.sb (sp_call (ok__law_lay T) rfl (hr.mono (by decide)) T.g__law_lay T.F__law_lay.kp T.b__law_lay pass0 (sba_cons (sb_var 4) (sba_cons (sb_var 5) (sba_cons (sb_var 6) (sba_cons (sb_var 7) (sba_cons (sb_var 3) sba_nil))))) (lcl (lcl (lcl (lcl (lcl lnl))))))) sba_nil)) (lcl (lcl lnl)))))))))))))))))))
end
end Lw

namespace Ty
@[irreducible] def ixOfT (xs : List Txt) (i : Txt) : Option Int := if i ∈ xs then some ((xs.idxOf i : Nat) : Int) else none
@[irreducible] def lsrt (xs : List (List Int)) : List (List Int) := xs.mergeSort fun a b => decide (a ≤ b)
end Ty

namespace Ow
open PySem L2 Ty

def okTi : List D → List (Option Int) → Prop
  | [], [] => True
  | _ :: ds, none :: os => okTi ds os
  | d :: ds, some z :: os => d = cI z ∧ okTi ds os
  | _, _ => False
theorem okTi_len : ∀ {ds : List D} {os : List (Option Int)}, okTi ds os → ds.length = os.length
  | [], [], _ => rfl
  | _ :: ds, none :: os, h => by rw [List.length_cons, List.length_cons, okTi_len (ds := ds) (os := os) h]
  | _ :: ds, some z :: os, h => by rw [List.length_cons, List.length_cons, okTi_len (ds := ds) (os := os) h.2]
  | [], _ :: _, h => h.elim
  | _ :: _, [], h => h.elim
theorem okTi_get : ∀ {ds : List D} {os : List (Option Int)}, okTi ds os → ∀ {j : Nat} {z : Int}, os[j]? = some (some z) → ds[j]? = some (cI z)
  | [], [], _, j, z, e => by simp at e
  | _ :: ds, none :: os, h, j, z, e => by
    cases j with
    | zero => simp at e
    | succ j => exact okTi_get (ds := ds) (os := os) h (by simpa using e)
  | d :: ds, some y :: os, h, j, z, e => by
    cases j with
    | zero =>
      have : y = z := by simpa using e
      subst this
      rw [h.1]; rfl
    | succ j => exact okTi_get (ds := ds) (os := os) h.2 (by simpa using e)
  | [], _ :: _, h, _, _, _ => h.elim
  | _ :: _, [], h, _, _, _ => h.elim
theorem v_itemTV {α : Type} {kd : α → List D} {x : α} {ma mb : PM} {env : Env} {i : Int} {os : List (Option Int)} (h1 : ma env = some (cT kd x)) (h2 : mb env = some (cI i)) (h : okTi (kd x) os) : EV (mItem ma mb) env ((idx os i).bind fun o => o) cI := fun z e => by
  obtain ⟨o, e1, e2⟩ := bsome e
  subst e2
  obtain ⟨j, h3, h4⟩ := idx_ix e1
  have h5 := okTi_get h h4
  refine e_item h1 h2 ?_
  show atI (kd x) i = _
  unfold atI
  rw [okTi_len h, h3]
  exact h5
end Ow

namespace Td
open Ty
def l_down (r : Int) (c : Int) (s : Int) (p : Int) : Option Int :=
 if (c ≤ p) then some (p - c)
 else (pmul (r - 1) c).bind fun v1 =>
 (pmod (p - s) c).bind fun v2 =>
 some (v1 + v2)
end Td

namespace Td
open Ty
def l_least_2 (row : (List Int)) : Option (List Int) :=
 if ((row.length : Int) = 0) then some (([] : (List Int)))
 else (pmin row).bind fun v3 =>
 (ixOf row v3).bind fun at_ =>
 cat (sl row (some at_) none) (sl row none (some at_))
end Td

namespace Td
open Ty
def l_fours_3 (r : Int) (c : Int) (s : Int) : Option (List (List Int)) :=
 lt (([] : (List (List Int))) : (List (List Int))) fun told =>
 (rng 0 r).bind fun xs3 =>
 (forO xs3 (told : ((List (List Int)))) fun s5 x4 =>
 (rng 0 c).bind fun xs8 =>
 (forO xs8 (s5 : ((List (List Int)))) fun s10 x9 =>
 (pmul x4 c).bind fun v15 =>
 lt (v15 + x9 : Int) fun p =>
 (pmul x4 c).bind fun v18 =>
 (pmod (x9 - 1) c).bind fun v19 =>
 lt (v18 + v19 : Int) fun left =>
 lt (p - c : Int) fun down =>
 (if (x4 = 0) then (pmul (r - 1) c).bind fun v24 =>
 (pmod (x9 - s) c).bind fun v25 =>
 lt (v24 + v25 : Int) fun down =>
 some down
 else some down : Option (Int)).bind fun j26 =>
 (pmul 4 p).bind fun v29 =>
 (pmul 4 p).bind fun v30 =>
 (pmul 4 j26).bind fun v31 =>
 (pmul 4 left).bind fun v32 =>
 (Td.l_least_2 [v29 + 2, v30, v31 + 3, v32 + 1]).bind fun r35 =>
 (app s10 r35).bind fun told =>
 some told).bind fun s39 =>
 some s39).bind fun s42 =>
 some (s42)
end Td

namespace Td
open Ty
def l_threes_2 (r : Int) (c : Int) (s : Int) : Option (List (List Int)) :=
 lt (([] : (List (List Int))) : (List (List Int))) fun told =>
 (pmul r c).bind fun v3 =>
 (rng 0 v3).bind fun xs4 =>
 (forO xs4 (told : ((List (List Int)))) fun s6 x5 =>
 (pmod x5 c).bind fun v11 =>
 (pmod x5 c).bind fun v12 =>
 (pmod (v12 - 1) c).bind fun v13 =>
 lt ((x5 - v11) + v13 : Int) fun left =>
 (Td.l_down r c s x5).bind fun down =>
 (Td.l_down r c s left).bind fun back =>
 (pmul 6 x5).bind fun v26 =>
 (pmul 6 x5).bind fun v27 =>
 (pmul 6 x5).bind fun v28 =>
 (pmul 6 down).bind fun v29 =>
 (pmul 6 back).bind fun v30 =>
 (pmul 6 left).bind fun v31 =>
 lt ([v26 + 2, v27 + 4, v28, v29 + 3, v30 + 5, v31 + 1] : (List Int)) fun row =>
 (Td.l_least_2 row).bind fun r34 =>
 (app s6 r34).bind fun told =>
 some told).bind fun s38 =>
 some (s38)
end Td

namespace Td
open Ty
def l_kind_3 (sort : Txt) (r : Int) (c : Int) (s : Int) : Option (List (List Int)) :=
 if (sort = (tx [102, 111, 117, 114, 115])) then Td.l_fours_3 r c s
 else Td.l_threes_2 r c s
end Td

namespace Td
open Ty
def l_lay (r : Int) (c : Int) (s : Int) (place : Int) (many : Int) : Option (List Int) :=
 lt (([] : (List Int)) : (List Int)) fun lay =>
 (rng 0 r).bind fun xs3 =>
 (forO xs3 (lay : ((List Int))) fun s5 x4 =>
 (pmul x4 c).bind fun v10 =>
 lt (place + v10 : Int) fun at_ =>
 (pmod at_ c).bind fun first =>
 (pmul r c).bind fun v14 =>
 (if (v14 ≤ at_) then (pmul r c).bind fun v17 =>
 lt (at_ - v17 : Int) fun at_ =>
 (pmod at_ c).bind fun v20 =>
 lt (v20 + s : Int) fun first =>
 some (at_, first)
 else some (at_, first) : Option (Int × Int)).bind fun j21 =>
 (rng 0 c).bind fun xs24 =>
 (forO xs24 (s5 : ((List Int))) fun s26 x25 =>
 (pdiv j21.1 c).bind fun v31 =>
 (pmul v31 c).bind fun v32 =>
 (pmod (j21.2 + x25) c).bind fun v33 =>
 lt (v32 + v33 : Int) fun here =>
 (rng 0 many).bind fun xs36 =>
 (lcp xs36 (fun x37 : Int => some true) fun x37 => (pmul many here).bind fun v40 =>
 some (v40 + x37)).bind fun ys41 =>
 (cat s26 ys41).bind fun lay =>
 some lay).bind fun s43 =>
 some s43).bind fun s46 =>
 some (s46)
end Td

namespace Td
open Ty
def l_mixed_2 (cell : Int) (k : Int) (many : Int) : Option Int :=
 (pmul 40503 k).bind fun v3 =>
 (ppow (((cell % 2147483647) + v3) + 17) 5).bind fun v4 =>
 lt (v4 % 2147483647 : Int) fun one =>
 (pmul one (48271 + k)).bind fun v5 =>
 (pmul (v5 % 999999937) 39373).bind fun v6 =>
 pmod (v6 % 2147483629) many
end Td

namespace Td
open Ty
def l_take (box : ((List Int) × Int × Int × Int)) (many : Int) : Option (Int × ((List Int) × Int × Int × Int)) :=
 lt ((box.1, box.2.1, box.2.2.1, box.2.2.2 + 1) : ((List Int) × Int × Int × Int)) fun box =>
 lt (0 : Int) fun cell =>
 if ((box.2.2.1 = 0) ∧ (box.2.1 < (box.1.length : Int))) then (idx box.1 box.2.1).bind fun cell =>
 lt ((box.1, box.2.1 + 1, box.2.2.1, box.2.2.2) : ((List Int) × Int × Int × Int)) fun box =>
 if (cell < 1000000000000000000) then (Td.l_mixed_2 cell box.2.2.2 many).bind fun r12 =>
 some (r12, box)
 else lt ((box.1, box.2.1, cell, box.2.2.2) : ((List Int) × Int × Int × Int)) fun box =>
 if (0 < box.2.2.1) then (pmod box.2.2.1 many).bind fun draw =>
 (pdiv box.2.2.1 many).bind fun v18 =>
 lt ((box.1, box.2.1, v18, box.2.2.2) : ((List Int) × Int × Int × Int)) fun box =>
 some (draw, box)
 else (if (0 < (box.1.length : Int)) then (pmod box.2.2.2 (box.1.length : Int)).bind fun v23 =>
 (idx box.1 v23).bind fun cell =>
 some cell
 else some cell : Option (Int)).bind fun j25 =>
 (Td.l_mixed_2 j25 box.2.2.2 many).bind fun r30 =>
 some (r30, box)
 else if (0 < box.2.2.1) then (pmod box.2.2.1 many).bind fun draw =>
 (pdiv box.2.2.1 many).bind fun v34 =>
 lt ((box.1, box.2.1, v34, box.2.2.2) : ((List Int) × Int × Int × Int)) fun box =>
 some (draw, box)
 else (if (0 < (box.1.length : Int)) then (pmod box.2.2.2 (box.1.length : Int)).bind fun v39 =>
 (idx box.1 v39).bind fun cell =>
 some cell
 else some cell : Option (Int)).bind fun j41 =>
 (Td.l_mixed_2 j41 box.2.2.2 many).bind fun r46 =>
 some (r46, box)
end Td

namespace Td
open Ty
def l_numbers (box : ((List Int) × Int × Int × Int)) : Option ((Int × Int × Int) × ((List Int) × Int × Int × Int)) :=
 (Td.l_take box 6).bind fun r3 =>
 (if (r3.1 = 0) then ((Td.l_take r3.2 8).bind fun r7 => (idx [1, 2, 4, 5, 8, 10, 20, 40] r7.1).bind fun z10 => some (r7, z10)).bind fun r9 =>
 (pdiv 40 r9.2).bind fun c =>
 some (r9.1.2, r9.2, c)
 else (idx [3, 6, 12, 40, 7] (r3.1 - 1)).bind fun v16 =>
 (Td.l_take r3.2 v16).bind fun r17 =>
 (pdiv 40 (1 + r17.1)).bind fun v21 =>
 (Td.l_take r17.2 v21).bind fun r22 =>
 ((Td.l_take r22.2 2).bind fun r24 => (if r24.1 = 1 then lt ((1 + r22.1, 1 + r17.1) : (Int × Int)) fun y30 =>
 some (r24.2, y30.1, y30.2)
 else some (r24.2, 1 + r17.1, 1 + r22.1) : Option (((List Int) × Int × Int × Int) × Int × Int))).bind fun j33 =>
 some (j33.1, j33.2.1, j33.2.2) : Option (((List Int) × Int × Int × Int) × Int × Int)).bind fun j36 =>
 (Td.l_take j36.1 j36.2.2).bind fun r39 => some ((j36.2.1, j36.2.2, r39.1), r39.2)
end Td

namespace Td
open Ty
def l_whole (found : Int) : Option Bool :=
 some (decide (True ∧ ¬(False)))
end Td

namespace Td
open Ty
def l_row (found : (List Int)) (due : (List Int)) : Option Bool :=
 if ((found.length : Int) ≠ (due.length : Int)) then some (false)
 else aft (forR (enu 0 due) (() : Unit) fun s2 x1 =>
 (idx found x1.1).bind fun v5 =>
 (Td.l_whole v5).bind fun r8 =>
 (if ¬(r8 = true) then some true else (idx found x1.1).bind fun v9 =>
 some (decide ((v9 ≠ x1.2)))).bind fun b10 =>
 if b10 = true then some (.rt (false))
 else some (.go ())) (fun s11 =>
 some (true)) fun r_ => some r_
end Td

namespace Td
open Ty
def l_rows_2 (found : (List (List Int))) (due : (List (List Int))) : Option Bool :=
 if ((found.length : Int) ≠ (due.length : Int)) then some (false)
 else aft (forR (enu 0 due) (() : Unit) fun s2 x1 =>
 (idx found x1.1).bind fun v5 =>
 (Td.l_row v5 x1.2).bind fun r8 =>
 if ¬(r8 = true) then some (.rt (false))
 else some (.go ())) (fun s9 =>
 some (true)) fun r_ => some r_
end Td

namespace Td
open Ty
def l_told_3 (told : (Txt × Int × Int × Int × (List Int))) (sort : Txt) (numbers : (Int × Int × Int)) : Option Bool :=
 if ((5 : Int) ≠ 5) then some (false)
 else if (told.1 ≠ sort) then some (false)
 else aft (forR (enu 0 [numbers.1, numbers.2.1, numbers.2.2]) (() : Unit) fun s2 x1 =>
 ((idx ([none, some told.2.1, some told.2.2.1, some told.2.2.2.1, none] : List (Option Int)) (x1.1 + 1)).bind fun o_ => o_).bind fun v5 =>
 (Td.l_whole v5).bind fun r8 =>
 (if ¬(r8 = true) then some true else ((idx ([none, some told.2.1, some told.2.2.1, some told.2.2.2.1, none] : List (Option Int)) (x1.1 + 1)).bind fun o_ => o_).bind fun v9 =>
 some (decide ((v9 ≠ x1.2)))).bind fun b10 =>
 if b10 = true then some (.rt (false))
 else some (.go ())) (fun s11 =>
 some (true)) fun r_ => some r_
end Td

namespace Td
open Ty
def p_are_numbers (rows : Int) (columns : Int) (shift : Int) : Option Bool :=
 some (decide ((1 ≤ rows) ∧ ((1 ≤ columns) ∧ (0 ≤ shift ∧ shift < columns))))
end Td

namespace Td
open Ty
def p_check_numbers_2 (rows : Int) (columns : Int) (shift : Int) : Option Unit :=
 (Td.p_are_numbers rows columns shift).bind fun r3 =>
 if ¬(r3 = true) then none
 else (pmul rows columns).bind fun v4 =>
 if (40 < v4) then none
 else some (())
end Td

namespace Td
open Ty
def p_begun_least (row : (List Int)) : Option (List Int) :=
 if ¬(row ≠ []) then some (([] : (List Int)))
 else (pmin row).bind fun v3 =>
 (ixOf row v3).bind fun at_ =>
 cat (sl row (some at_) none) (sl row none (some at_))
end Td

namespace Td
open Ty
def p_laid_out (steps : (List (List Int))) (clock : (List Int)) : Option (List (List Int)) :=
 lt ((clock.length : Int) : Int) fun size =>
 (idx steps 0).bind fun v5 =>
 (lcp v5 (fun x6 : Int => some true) fun x6 => (rep [0] size).bind fun v9 =>
 some v9).bind fun slots =>
 (forO (enu 0 steps) (slots : ((List (List Int)))) fun s12 x11 =>
 (forO (enu 0 x11.2) (s12 : ((List (List Int)))) fun s16 x15 =>
 (pmul size x15.1).bind fun v21 =>
 (pmul 2 x11.1).bind fun v22 =>
 lt (v21 + v22 : Int) fun even =>
 (idx s16 x15.1).bind fun z23 =>
 (pmul 2 x11.1).bind fun v24 =>
 (putI z23 v24 even).bind fun z25 =>
 (idx (setI s16 x15.1 z25) x15.2).bind fun z28 =>
 (pmul 2 x11.1).bind fun v29 =>
 (putI z28 (v29 + 1) (even + 1)).bind fun z30 =>
 some (setI (setI s16 x15.1 z25) x15.2 z30)).bind fun s33 =>
 some s33).bind fun s36 =>
 lcp s36 (fun x39 : (List Int) => some true) fun x39 => (lcp clock (fun x42 : Int => some true) fun x42 => (idx x39 x42).bind fun v45 =>
 some v45).bind fun ys46 =>
 (Td.p_begun_least ys46).bind fun r49 =>
 some r49
end Td

namespace Td
open Ty
def p_rights_of (rows : Int) (columns : Int) : Option (List Int) :=
 (rng 0 rows).bind fun xs1 =>
 lcq xs1 (fun x2 : Int => some true) fun x2 => (rng 0 columns).bind fun xs5 =>
 lcO (fun x6 : Int => some true) (fun x6 => (pmul x2 columns).bind fun v9 =>
 (pmod (x6 + 1) columns).bind fun v10 =>
 some (v9 + v10)) xs5
end Td

namespace Td
open Ty
def p_uppers_of (rows : Int) (columns : Int) (shift : Int) : Option (List Int) :=
 (pmul (rows - 1) columns).bind fun v3 =>
 (rng 0 v3).bind fun xs4 =>
 (lcm xs4 fun x5 : Int => x5 + columns).bind fun inner =>
 (rng 0 columns).bind fun xs9 =>
 (lcp xs9 (fun x10 : Int => some true) fun x10 => (pmod (x10 + shift) columns).bind fun v13 =>
 some v13).bind fun ys14 =>
 cat inner ys14
end Td

namespace Td
open Ty
def p_fours_by (rows : Int) (columns : Int) (shift : Int) : Option (List (List Int)) :=
 (Td.p_rights_of rows columns).bind fun r3 =>
 (Td.p_uppers_of rows columns shift).bind fun r6 =>
 Td.p_laid_out [r3, r6] ([0, 3, 1, 2] : List Int)
end Td

namespace Td
open Ty
def p_fours_2 (rows : Int) (columns : Int) (shift : Int) : Option (List (List Int)) :=
 (Td.p_check_numbers_2 rows columns shift).bind fun r3 =>
 Td.p_fours_by rows columns shift
end Td

namespace Td
open Ty
def p_count_ends (rows : (List (List Int))) : Option Int :=
 (lcm rows fun x1 : (List Int) => (x1.length : Int)).bind fun ys4 =>
 some (ys4.sum)
end Td

namespace Td
open Ty
def p_behind_of (drawing : (List (List Int))) : Option (List Int) :=
 (Td.p_count_ends drawing).bind fun r5 =>
 (rep [0] r5).bind fun behind =>
 (forO drawing (behind : ((List Int))) fun s8 x7 =>
 (forO (enu 0 x7) (s8 : ((List Int))) fun s12 x11 =>
 (idx x7 (x11.1 - 1)).bind fun v15 =>
 (putI s12 v15 x11.2).bind fun behind =>
 some behind).bind fun s19 =>
 some s19).bind fun s22 =>
 some (s22)
end Td

namespace Td
open Ty
def p_check_end (drawing : (List (List Int))) (end_ : Int) : Option Unit :=
 (if (end_ < 0) then some true else (Td.p_count_ends drawing).bind fun r3 =>
 some (decide ((r3 ≤ end_)))).bind fun b4 =>
 if b4 = true then none
 else some (())
end Td

namespace Td
open Ty
def p_mate_of (end_ : Int) : Option Int :=
 some (end_ + 1 - 2 * (end_ % 2))
end Td

namespace Td
open Ty
def p_ring_from (behind : (List Int)) (end_ : Int) : Option (List Int) :=
 lt ([end_] : (List Int)) fun ring =>
 (whO 100000 (ring : ((List Int))) (fun s3 => (idx s3 (-1)).bind fun v6 =>
 (idx behind v6).bind fun v7 =>
 some (decide ((v7 ≠ end_)))) fun s3 =>
 (idx s3 (-1)).bind fun v8 =>
 (idx behind v8).bind fun v9 =>
 (app s3 v9).bind fun ring =>
 some ring).bind fun s13 =>
 some (s13)
end Td

namespace Td
open Ty
def p_lay_by (behind : (List Int)) (rights : (List Int)) (clock : (List Int)) : Option (List Int) :=
 (rep [0] (behind.length : Int)).bind fun lay =>
 (forO (enu 0 rights) (lay : ((List Int))) fun s5 x4 =>
 (Td.p_ring_from behind x4.2).bind fun r10 =>
 (forO (List.zip clock r10) (s5 : ((List Int))) fun s12 x11 =>
 (if ((x11.1 % 2) = 0) then (pmul (clock.length : Int) x4.1).bind fun v17 =>
 lt (v17 + x11.1 : Int) fun even =>
 (putI s12 even x11.2).bind fun lay =>
 (Td.p_mate_of x11.2).bind fun r23 =>
 (putI lay (even + 1) r23).bind fun lay =>
 some lay
 else some s12 : Option ((List Int))).bind fun j27 =>
 some j27).bind fun s30 =>
 some s30).bind fun s33 =>
 some (s33)
end Td

namespace Td
open Ty
def p_all_are (numbers : (List Int)) (wanted : Int) : Option Bool :=
 (lcm numbers fun x1 : Int => decide (x1 = wanted)).bind fun ys4 =>
 some (ys4.all id)
end Td

namespace Td
open Ty
def p_land_from (behind : (List Int)) (first : Int) : Option (List Int) :=
 lt ([first] : (List Int)) fun land =>
 (Td.p_mate_of first).bind fun r7 =>
 (idx behind r7).bind fun end_ =>
 (whO 100000 ((land, end_) : ((List Int) × Int)) (fun s9 => some (decide ((s9.2 ≠ first)))) fun s9 =>
 (app s9.1 s9.2).bind fun land =>
 (Td.p_mate_of s9.2).bind fun r19 =>
 (idx behind r19).bind fun end_ =>
 some (land, end_)).bind fun s21 =>
 some (s21.1)
end Td

namespace Td
open Ty
def p_lands_of (drawing : (List (List Int))) : Option (List (List Int)) :=
 (Td.p_behind_of drawing).bind fun behind =>
 (rep [false] (behind.length : Int)).bind fun seen =>
 lt (([] : (List (List Int))) : (List (List Int))) fun lands =>
 (rng 0 (behind.length : Int)).bind fun xs11 =>
 (forO xs11 ((seen, lands) : ((List Bool) × (List (List Int)))) fun s13 x12 =>
 (idx s13.1 x12).bind fun v16 =>
 (if ¬(v16 = true) then (Td.p_land_from behind x12).bind fun land =>
 (forO land (s13.1 : ((List Bool))) fun s25 x24 =>
 (putI s25 x24 true).bind fun seen =>
 some seen).bind fun s31 =>
 (app s13.2 land).bind fun lands =>
 some (s31, lands)
 else some (s13.1, s13.2) : Option ((List Bool) × (List (List Int)))).bind fun j37 =>
 some (j37.1, j37.2)).bind fun s40 =>
 ((lcp drawing (fun x45 : (List Int) => some (decide (¬(x45 ≠ [])))) fun x45 => some ([] : (List Int))).bind fun ys49 => cat s40.2 ys49).bind fun z50 => some (z50)
end Td

namespace Td
open Ty
def p_drain (near : (List (List Int))) (waiting : (List (Int × Bool))) (start : Int) : Option ((List Int) × (List (Int × Bool))) :=
 (ddelO waiting start).bind fun waiting =>
 lt ([start] : (List Int)) fun group =>
 lt (0 : Int) fun at_ =>
 (whO 100000 ((waiting, group, at_) : ((List (Int × Bool)) × (List Int) × Int)) (fun s7 => some (decide ((s7.2.2 < (s7.2.1.length : Int))))) fun s7 =>
 (idx s7.2.1 s7.2.2).bind fun here =>
 (idx near here).bind fun v13 =>
 (forO v13 ((s7.1, s7.2.1) : ((List (Int × Bool)) × (List Int))) fun s15 x14 =>
 (if dhas s15.1 x14 = true then (ddelO s15.1 x14).bind fun waiting =>
 (app s15.2 x14).bind fun group =>
 some (waiting, group)
 else some (s15.1, s15.2) : Option ((List (Int × Bool)) × (List Int))).bind fun j23 =>
 some (j23.1, j23.2)).bind fun s26 =>
 lt (s7.2.2 + 1) fun at_ =>
 some (s26.1, s26.2, at_)).bind fun s31 =>
 some (s31.2.1, s31.1)
end Td

namespace Td
open Ty
def p_groups (near : (List (List Int))) (places : (List Int)) : Option (List (List Int)) :=
 (dcp places (fun x3 : Int => some true) fun x3 => some (x3, true)).bind fun waiting =>
 lt (([] : (List (List Int))) : (List (List Int))) fun found =>
 (forO places ((waiting, found) : ((List (Int × Bool)) × (List (List Int)))) fun s12 x11 =>
 (if dhas s12.1 x11 = true then (Td.p_drain near s12.1 x11).bind fun r15 => (app s12.2 (srt r15.1)).bind fun found =>
 some (r15.2, found)
 else some (s12.1, s12.2) : Option ((List (Int × Bool)) × (List (List Int)))).bind fun j19 =>
 some (j19.1, j19.2)).bind fun s22 =>
 some (s22.2)
end Td

namespace Td
open Ty
def p_homes_of (drawing : (List (List Int))) : Option (List Int) :=
 (Td.p_count_ends drawing).bind fun r5 =>
 (rep [0] r5).bind fun homes =>
 (forO (enu 0 drawing) (homes : ((List Int))) fun s8 x7 =>
 (forO x7.2 (s8 : ((List Int))) fun s14 x13 =>
 (putI s14 x13 x7.1).bind fun homes =>
 some homes).bind fun s20 =>
 some s20).bind fun s23 =>
 some (s23)
end Td

namespace Td
open Ty
def p_orders_of (drawing : (List (List Int))) : Option (List (List Int)) :=
 (Td.p_homes_of drawing).bind fun homes =>
 lcp drawing (fun x6 : (List Int) => some true) fun x6 => (lcp x6 (fun x9 : Int => some true) fun x9 => (Td.p_mate_of x9).bind fun r14 =>
 (idx homes r14).bind fun v15 =>
 some v15).bind fun ys16 =>
 some ys16
end Td

namespace Td
open Ty
def p_parts_of (drawing : (List (List Int))) : Option (List (List Int)) :=
 (Td.p_orders_of drawing).bind fun r3 =>
 (rng 0 (drawing.length : Int)).bind fun xs4 =>
 Td.p_groups r3 xs4
end Td

namespace Td
open Ty
def p_sort_of (drawing : (List (List Int))) : Option Txt :=
 (Td.p_parts_of drawing).bind fun r3 =>
 if ((r3.length : Int) = 1) then (lcm drawing fun x6 : (List Int) => (x6.length : Int)).bind fun at_places =>
 (Td.p_lands_of drawing).bind fun r14 =>
 (lcm r14 fun x15 : (List Int) => (x15.length : Int)).bind fun at_lands =>
 (Td.p_all_are at_places 4).bind fun r21 =>
 (if r21 = true then (Td.p_all_are at_lands 4).bind fun r24 =>
 some (decide (r24 = true)) else some false).bind fun b25 =>
 if b25 = true then some ((tx [102, 111, 117, 114, 115]))
 else (Td.p_all_are at_places 6).bind fun r28 =>
 (if r28 = true then (Td.p_all_are at_lands 3).bind fun r31 =>
 some (decide (r31 = true)) else some false).bind fun b32 =>
 if b32 = true then some ((tx [116, 104, 114, 101, 101, 115]))
 else none
 else none
end Td

namespace Td
open Ty
def p_straight_line (behind : (List Int)) (first : Int) (size : Int) : Option (List Int) :=
 lt ([first] : (List Int)) fun line =>
 (Td.p_mate_of first).bind fun r7 =>
 (Td.p_ring_from behind r7).bind fun r10 =>
 (idx r10 (size / 2)).bind fun end_ =>
 (whO 100000 ((line, end_) : ((List Int) × Int)) (fun s12 => some (decide ((s12.2 ≠ first)))) fun s12 =>
 (app s12.1 s12.2).bind fun line =>
 (Td.p_mate_of s12.2).bind fun r22 =>
 (Td.p_ring_from behind r22).bind fun r25 =>
 (idx r25 (size / 2)).bind fun end_ =>
 some (line, end_)).bind fun s27 =>
 some (s27.1)
end Td

namespace Td
open Ty
def p_upper_right (behind : (List Int)) (right : Int) (clock : (List Int)) : Option Int :=
 (Td.p_ring_from behind right).bind fun r5 =>
 (ixOf clock 2).bind fun v6 =>
 (idx r5 v6).bind fun up =>
 (Td.p_mate_of up).bind fun r10 =>
 (Td.p_ring_from behind r10).bind fun r13 =>
 idx r13 (-1)
end Td

namespace Td
open Ty
def p_read_kind (drawing : (List (List Int))) (end_ : Int) : Option (Txt × Int × Int × Int × (List Int)) :=
 (Td.p_check_end drawing end_).bind fun r3 =>
 (Td.p_sort_of drawing).bind fun sort =>
 (Td.p_behind_of drawing).bind fun behind =>
 lt (if (sort = (tx [102, 111, 117, 114, 115])) then ([0, 3, 1, 2] : List Int) else ([0, 3, 5, 1, 2, 4] : List Int) : (List Int)) fun clock =>
 (Td.p_straight_line behind end_ (clock.length : Int)).bind fun line =>
 lt (([] : (List Int)) : (List Int)) fun rights =>
 lt (end_ : Int) fun first =>
 (whO 100000 ((rights, first) : ((List Int) × Int)) (fun s27 => some (decide (((s27.1.length : Int) < (drawing.length : Int))))) fun s27 =>
 (Td.p_straight_line behind s27.2 (clock.length : Int)).bind fun r32 =>
 (extO s27.1 r32).bind fun rights =>
 (Td.p_upper_right behind s27.2 clock).bind fun first =>
 some (rights, first)).bind fun s41 =>
 (ixOf line s41.2).bind fun shift =>
 (pdiv (drawing.length : Int) (line.length : Int)).bind fun v47 =>
 (Td.p_lay_by behind s41.1 clock).bind fun r50 =>
 some ((sort, v47, (line.length : Int), shift, r50))
end Td

namespace Td
open Ty
def p_threes_by_3 (rows : Int) (columns : Int) (shift : Int) : Option (List (List Int)) :=
 (Td.p_rights_of rows columns).bind fun rights =>
 (Td.p_uppers_of rows columns shift).bind fun uppers =>
 (lcp uppers (fun x13 : Int => some true) fun x13 => (idx rights x13).bind fun v16 =>
 some v16).bind fun slants =>
 ((some ()).bind fun a24 => (Td.p_laid_out [rights, uppers, slants] ([0, 3, 5, 1, 2, 4] : List Int)).bind fun r27 => some (a24, r27)).bind fun r29 => some (r29.2)
end Td

namespace Td
open Ty
def p_threes_4 (rows : Int) (columns : Int) (shift : Int) : Option (List (List Int)) :=
 (Td.p_check_numbers_2 rows columns shift).bind fun r3 =>
 Td.p_threes_by_3 rows columns shift
end Td

namespace Td
open Ty
def law_k38_2 (script : (List Int)) : Option Bool :=
 lt ((script, 0, 0, 0) : ((List Int) × Int × Int × Int)) fun box =>
 ((Td.l_take box 2).bind fun r5 => (idx [(tx [102, 111, 117, 114, 115]), (tx [116, 104, 114, 101, 101, 115])] r5.1).bind fun z8 => some (r5, z8)).bind fun r7 =>
 lt (4 : Int) fun many =>
 (if (r7.2 = (tx [116, 104, 114, 101, 101, 115])) then lt (6 : Int) fun many =>
 some many
 else some many : Option (Int)).bind fun j13 =>
 (Td.l_numbers r7.1.2).bind fun r16 =>
 (pmul r16.1.1 r16.1.2.1).bind fun v22 =>
 (Td.l_take r16.2 v22).bind fun r23 =>
 (Td.p_fours_2 r16.1.1 r16.1.2.1 r16.1.2.2).bind fun rows =>
 (if (r7.2 = (tx [116, 104, 114, 101, 101, 115])) then (Td.p_threes_4 r16.1.1 r16.1.2.1 r16.1.2.2).bind fun rows =>
 some rows
 else some rows : Option ((List (List Int)))).bind fun j35 =>
 (Td.p_read_kind j35 0).bind fun told =>
 (Td.l_told_3 told r7.2 (r16.1.1, r16.1.2.1, r16.1.2.2)).bind fun r45 =>
 (if ¬(r45 = true) then some true else (pmul j13 r16.1.1).bind fun v46 =>
 (pmul v46 r16.1.2.1).bind fun v47 =>
 (rng 0 v47).bind fun xs48 =>
 (Td.l_row told.2.2.2.2 xs48).bind fun r51 =>
 some (decide (¬(r51 = true)))).bind fun b52 =>
 if b52 = true then some (false)
 else (Td.l_kind_3 r7.2 r16.1.1 r16.1.2.1 r16.1.2.2).bind fun r55 =>
 (Td.l_rows_2 j35 r55).bind fun r58 =>
 if ¬(r58 = true) then some (false)
 else (pmul j13 r23.1).bind fun v61 =>
 (Td.p_read_kind j35 v61).bind fun told =>
 (Td.l_told_3 told r7.2 (r16.1.1, r16.1.2.1, r16.1.2.2)).bind fun r67 =>
 if ¬(r67 = true) then some (false)
 else (Td.l_lay r16.1.1 r16.1.2.1 r16.1.2.2 r23.1 j13).bind fun r70 =>
 Td.l_row told.2.2.2.2 r70
end Td

set_option maxHeartbeats 2000000
namespace Lw
open PySem L2 Ow Ty
theorem kit_int_bool : kitB "int" "bool" = some false := by decide +kernel
theorem kit_int_int : kitB "int" "int" = some true := by decide +kernel
theorem kit_list_list : kitB "list" "list" = some true := by decide +kernel
theorem kit_str_str : kitB "str" "str" = some true := by decide +kernel
theorem kit_tuple_tuple : kitB "tuple" "tuple" = some true := by decide +kernel
theorem ty__law_mixed_0 (cell : Int) (k : Int) (many : Int) : ∀ rz, Td.l_mixed_2 cell k many = some rz → ff__law_mixed [cI cell, cI k, cI many] = some (cI rz) :=
  run_p (c := cI) (Q := fun _ => List.replicate 4 none) ((show ∀ e0 : Ow.Env, Mt [some (cI cell), some (cI k), some (cI many), none] e0 → ES bb__law_mixed e0 (Td.l_mixed_2 cell k many) (fnK cI) (fun _ => List.replicate 4 none) from fun e0 h0 => by delta bb__law_mixed Td.l_mixed_2; exact (ES.hoist (v_mul (e_cI 40503) (e_var (i := 1) h0 rfl)) fun v3 hv3 => (ES.hoist (v_pow (e_add (e_add (e_modC (e_var (i := 0) h0 rfl) (e_cI 2147483647)) hv3) (e_cI 17)) (e_cI 5)) fun v4 hv4 => (s_let (i := 3) (ct := cI) (e_modC hv4 (e_cI 2147483647)) h0 fun one e1 k2 => (ES.hoist (v_mul (e_var (i := 3) k2 rfl) (e_add (e_cI 48271) (e_var (i := 1) k2 rfl))) fun v5 hv5 => (ES.hoist (v_mul (e_modC hv5 (e_cI 999999937)) (e_cI 39373)) fun v6 hv6 => (s_retO (v_mod (e_modC hv6 (e_cI 2147483629)) (e_var (i := 2) k2 rfl)) (fun v7 => (k2.any rfl)) (fun v7 => rfl)))))))) _ (Mt.start (ds := [cI cell, cI k, cI many]) (n := 4)))
theorem ty__law_take_0 (box : ((List Int) × Int × Int × Int)) (many : Int) : ∀ rz, Td.l_take box many = some rz → ff__law_take [(cR .o (Ow.k2 (cL .o cI) (Ow.k2 cI (Ow.k2 cI (Ow.k1 cI))))) box, cI many] = some (cI rz.1, [(cR .o (Ow.k2 (cL .o cI) (Ow.k2 cI (Ow.k2 cI (Ow.k1 cI))))) rz.2]) :=
  run_m (c := fun (r : (Int × ((List Int) × Int × Int × Int))) => cI r.1) (os := fun (r : (Int × ((List Int) × Int × Int × Int))) => [(cR .o (Ow.k2 (cL .o cI) (Ow.k2 cI (Ow.k2 cI (Ow.k1 cI))))) r.2]) (Q := (fun (r : (Int × ((List Int) × Int × Int × Int))) => [some ((cR .o (Ow.k2 (cL .o cI) (Ow.k2 cI (Ow.k2 cI (Ow.k1 cI))))) r.2), none, none, none])) ((show ∀ e0 : Ow.Env, Mt [some ((cR .o (Ow.k2 (cL .o cI) (Ow.k2 cI (Ow.k2 cI (Ow.k1 cI))))) box), some (cI many), none, none] e0 → ES bb__law_take e0 (Td.l_take box many) (fnK fun (r : (Int × ((List Int) × Int × Int × Int))) => cI r.1) ((fun (r : (Int × ((List Int) × Int × Int × Int))) => [some ((cR .o (Ow.k2 (cL .o cI) (Ow.k2 cI (Ow.k2 cI (Ow.k1 cI))))) r.2), none, none, none])) from fun e0 h0 => by delta bb__law_take Td.l_take; exact (s_putRn (i := 0) (x' := (box.1, box.2.1, box.2.2.1, box.2.2.2 + 1)) (c := (cR .o (Ow.k2 (cL .o cI) (Ow.k2 cI (Ow.k2 cI (Ow.k1 cI)))))) (e_add (e_itemR (d := cI box.2.2.2) (e_var (i := 0) h0 rfl) (e_cI 3) rfl) (e_cI 1)) h0 rfl (e_cI 3) rfl rfl rfl fun box e1 k2 => (s_let (i := 2) (ct := cI) (e_cI 0) k2 fun cell e3 k4 => (s_if2 (e_and (e_B (e_eq (e_itemR (d := cI box.2.2.1) (e_var (i := 0) k4 rfl) (e_cI 2) rfl) (e_cI 0))) (e_B (e_lt (e_itemR (d := cI box.2.1) (e_var (i := 0) k4 rfl) (e_cI 1) rfl) (e_len (e_itemR (d := (cL .o cI) box.1) (e_var (i := 0) k4 rfl) (e_cI 0) rfl))))) (fun _ => (s_assoc (s_setV (i := 2) (v_pure (v_item (e_itemR (d := (cL .o cI) box.1) (e_var (i := 0) k4 rfl) (e_cI 0) rfl) (e_itemR (d := cI box.2.1) (e_var (i := 0) k4 rfl) (e_cI 1) rfl))) k4 fun cell e5 k6 => (s_assoc (s_putRn (i := 0) (x' := (box.1, box.2.1 + 1, box.2.2.1, box.2.2.2)) (c := (cR .o (Ow.k2 (cL .o cI) (Ow.k2 cI (Ow.k2 cI (Ow.k1 cI)))))) (e_add (e_itemR (d := cI box.2.1) (e_var (i := 0) k6 rfl) (e_cI 1) rfl) (e_cI 1)) k6 rfl (e_cI 1) rfl rfl rfl fun box e8 k9 => (s_assoc (s_ifx (e_B (e_lt (e_var (i := 2) k9 rfl) (e_powC (w := 1000000000000000000) (e_cI 10) (e_cI 18)))) (fun _ => (ES.hoist (v_fn (c := cI) (e_cons (e_var (i := 2) k9 rfl) (e_cons (e_itemR (d := cI box.2.2.2) (e_var (i := 0) k9 rfl) (e_cI 3) rfl) (e_cons (e_var (i := 1) k9 rfl) e_nil))) (fun r10 q11 => (congrArg ff__law_mixed (fz_cons (fz_cons (fz_cons fz_nil)))).trans (ty__law_mixed_0 cell box.2.2.2 many r10 q11))) fun r12 hr12 => (s_ret hr12 (k9.le (le_some (le_none (le_none (le_none le_nil))))) ⟨rfl, fun z => nomatch z⟩))) (fun _ => (s_sk (s_putRn (i := 0) (x' := (box.1, box.2.1, cell, box.2.2.2)) (c := (cR .o (Ow.k2 (cL .o cI) (Ow.k2 cI (Ow.k2 cI (Ow.k1 cI)))))) (e_pure (e_var (i := 2) k9 rfl)) k9 rfl (e_cI 2) rfl rfl rfl fun box e13 k14 => (s_ifx (e_B (e_gt (e_itemR (d := cI box.2.2.1) (e_var (i := 0) k14 rfl) (e_cI 2) rfl) (e_cI 0))) (fun _ => (s_setV (i := 3) (v_mod (e_itemR (d := cI box.2.2.1) (e_var (i := 0) k14 rfl) (e_cI 2) rfl) (e_var (i := 1) k14 rfl)) k14 fun draw e15 k16 => (ES.hoist (v_div (e_itemR (d := cI box.2.2.1) (e_var (i := 0) k16 rfl) (e_cI 2) rfl) (e_var (i := 1) k16 rfl)) fun v18 hv18 => (s_putRn (i := 0) (x' := (box.1, box.2.1, v18, box.2.2.2)) (c := (cR .o (Ow.k2 (cL .o cI) (Ow.k2 cI (Ow.k2 cI (Ow.k1 cI)))))) hv18 k16 rfl (e_cI 2) rfl rfl rfl fun box e19 k20 => (s_retM (i := 3) k20 rfl (fun em hm => (hm.le (le_some (le_none (le_none (le_none le_nil)))))) ⟨rfl, fun z => nomatch z⟩))))) (fun _ => (s_sk (s_seq (s_if (Q := fun (j25 : (Int)) => [some ((cR .o (Ow.k2 (cL .o cI) (Ow.k2 cI (Ow.k2 cI (Ow.k1 cI))))) box), some (cI many), some (cI j25), none]) (e_B (e_gt (e_len (e_itemR (d := (cL .o cI) box.1) (e_var (i := 0) k14 rfl) (e_cI 0) rfl)) (e_cI 0))) (fun _ => (s_last (ES.hoist (v_mod (e_itemR (d := cI box.2.2.2) (e_var (i := 0) k14 rfl) (e_cI 3) rfl) (e_len (e_itemR (d := (cL .o cI) box.1) (e_var (i := 0) k14 rfl) (e_cI 0) rfl))) fun v23 hv23 => (s_setV (i := 2) (v_pure (v_item (e_itemR (d := (cL .o cI) box.1) (e_var (i := 0) k14 rfl) (e_cI 0) rfl) hv23)) k14 fun cell e21 k22 => (s_skip (k22.le (le_some (le_some (le_some (le_none le_nil))))) rfl))))) (fun _ => (s_skip (k14.le (le_some (le_some (le_some (le_none le_nil))))) rfl))) fun j25 e26 k27 => (ES.hoist (v_fn (c := cI) (e_cons (e_var (i := 2) k27 rfl) (e_cons (e_itemR (d := cI box.2.2.2) (e_var (i := 0) k27 rfl) (e_cI 3) rfl) (e_cons (e_var (i := 1) k27 rfl) e_nil))) (fun r28 q29 => (congrArg ff__law_mixed (fz_cons (fz_cons (fz_cons fz_nil)))).trans (ty__law_mixed_0 j25 box.2.2.2 many r28 q29))) fun r30 hr30 => (s_ret hr30 (k27.le (le_some (le_none (le_none (le_none le_nil))))) rfl)))))))))))))))) (fun _ => (s_sk (s_ifx (e_B (e_gt (e_itemR (d := cI box.2.2.1) (e_var (i := 0) k4 rfl) (e_cI 2) rfl) (e_cI 0))) (fun _ => (s_setV (i := 3) (v_mod (e_itemR (d := cI box.2.2.1) (e_var (i := 0) k4 rfl) (e_cI 2) rfl) (e_var (i := 1) k4 rfl)) k4 fun draw e31 k32 => (ES.hoist (v_div (e_itemR (d := cI box.2.2.1) (e_var (i := 0) k32 rfl) (e_cI 2) rfl) (e_var (i := 1) k32 rfl)) fun v34 hv34 => (s_putRn (i := 0) (x' := (box.1, box.2.1, v34, box.2.2.2)) (c := (cR .o (Ow.k2 (cL .o cI) (Ow.k2 cI (Ow.k2 cI (Ow.k1 cI)))))) hv34 k32 rfl (e_cI 2) rfl rfl rfl fun box e35 k36 => (s_retM (i := 3) k36 rfl (fun em hm => (hm.le (le_some (le_none (le_none (le_none le_nil)))))) ⟨rfl, fun z => nomatch z⟩))))) (fun _ => (s_sk (s_seq (s_if (Q := fun (j41 : (Int)) => [some ((cR .o (Ow.k2 (cL .o cI) (Ow.k2 cI (Ow.k2 cI (Ow.k1 cI))))) box), some (cI many), some (cI j41), none]) (e_B (e_gt (e_len (e_itemR (d := (cL .o cI) box.1) (e_var (i := 0) k4 rfl) (e_cI 0) rfl)) (e_cI 0))) (fun _ => (s_last (ES.hoist (v_mod (e_itemR (d := cI box.2.2.2) (e_var (i := 0) k4 rfl) (e_cI 3) rfl) (e_len (e_itemR (d := (cL .o cI) box.1) (e_var (i := 0) k4 rfl) (e_cI 0) rfl))) fun v39 hv39 => (s_setV (i := 2) (v_pure (v_item (e_itemR (d := (cL .o cI) box.1) (e_var (i := 0) k4 rfl) (e_cI 0) rfl) hv39)) k4 fun cell e37 k38 => (s_skip (k38.le (le_some (le_some (le_some (le_none le_nil))))) rfl))))) (fun _ => (s_skip (k4.le (le_some (le_some (le_some (le_none le_nil))))) rfl))) fun j41 e42 k43 => (ES.hoist (v_fn (c := cI) (e_cons (e_var (i := 2) k43 rfl) (e_cons (e_itemR (d := cI box.2.2.2) (e_var (i := 0) k43 rfl) (e_cI 3) rfl) (e_cons (e_var (i := 1) k43 rfl) e_nil))) (fun r44 q45 => (congrArg ff__law_mixed (fz_cons (fz_cons (fz_cons fz_nil)))).trans (ty__law_mixed_0 j41 box.2.2.2 many r44 q45))) fun r46 hr46 => (s_ret hr46 (k43.le (le_some (le_none (le_none (le_none le_nil))))) rfl)))))))))))) _ (Mt.start (ds := [(cR .o (Ow.k2 (cL .o cI) (Ow.k2 cI (Ow.k2 cI (Ow.k1 cI))))) box, cI many]) (n := 4))) (fun _ => rfl)
theorem ty__law_numbers_0 (box : ((List Int) × Int × Int × Int)) : ∀ rz, Td.l_numbers box = some rz → ff__law_numbers [(cR .o (Ow.k2 (cL .o cI) (Ow.k2 cI (Ow.k2 cI (Ow.k1 cI))))) box] = some ((cT (Ow.k2 cI (Ow.k2 cI (Ow.k1 cI)))) rz.1, [(cR .o (Ow.k2 (cL .o cI) (Ow.k2 cI (Ow.k2 cI (Ow.k1 cI))))) rz.2]) :=
  run_m (c := fun (r : ((Int × Int × Int) × ((List Int) × Int × Int × Int))) => (cT (Ow.k2 cI (Ow.k2 cI (Ow.k1 cI)))) r.1) (os := fun (r : ((Int × Int × Int) × ((List Int) × Int × Int × Int))) => [(cR .o (Ow.k2 (cL .o cI) (Ow.k2 cI (Ow.k2 cI (Ow.k1 cI))))) r.2]) (Q := (fun (r : ((Int × Int × Int) × ((List Int) × Int × Int × Int))) => [some ((cR .o (Ow.k2 (cL .o cI) (Ow.k2 cI (Ow.k2 cI (Ow.k1 cI))))) r.2), none, none, none])) ((show ∀ e0 : Ow.Env, Mt [some ((cR .o (Ow.k2 (cL .o cI) (Ow.k2 cI (Ow.k2 cI (Ow.k1 cI))))) box), none, none, none] e0 → ES bb__law_numbers e0 (Td.l_numbers box) (fnK fun (r : ((Int × Int × Int) × ((List Int) × Int × Int × Int))) => (cT (Ow.k2 cI (Ow.k2 cI (Ow.k1 cI)))) r.1) ((fun (r : ((Int × Int × Int) × ((List Int) × Int × Int × Int))) => [some ((cR .o (Ow.k2 (cL .o cI) (Ow.k2 cI (Ow.k2 cI (Ow.k1 cI))))) r.2), none, none, none])) from fun e0 h0 => by delta bb__law_numbers Td.l_numbers; exact (s_setE (i := 1) (ee_call0 (dr := (fun (r3 : (Int × ((List Int) × Int × Int × Int))) => cI r3.1)) (Pf := fun (r3 : (Int × ((List Int) × Int × Int × Int))) => [some ((cR .o (Ow.k2 (cL .o cI) (Ow.k2 cI (Ow.k2 cI (Ow.k1 cI))))) r3.2), none, none, none]) h0 rfl (ea_mv (ea_ev (e_cI 6) (ea_nil h0))) rfl (fun r3 q4 => (congrArg ff__law_take (l_cons (rfl) (l_cons (rfl) l_nil))).trans (ty__law_take_0 box 6 r3 q4)) (fun _ => by simp [NoF.no, NoFK.no]) (fun _ => rfl)) fun r3 e1 k2 => (s_seq (s_if (Q := fun (j36 : (((List Int) × Int × Int × Int) × Int × Int)) => [some ((cR .o (Ow.k2 (cL .o cI) (Ow.k2 cI (Ow.k2 cI (Ow.k1 cI))))) j36.1), some (cI r3.1), some (cI j36.2.1), some (cI j36.2.2)]) (e_B (e_eq (e_var (i := 1) (d := cI r3.1) k2 rfl) (e_cI 0))) (fun _ => (s_setE (i := 2) (ee_itemR (show _ = some ((cL .o cI) [1, 2, 4, 5, 8, 10, 20, 40]) from e_mk (e_cons (e_cI 1) (e_cons (e_cI 2) (e_cons (e_cI 4) (e_cons (e_cI 5) (e_cons (e_cI 8) (e_cons (e_cI 10) (e_cons (e_cI 20) (e_cons (e_cI 40) e_nil))))))))) (ee_call0 (dr := (fun (r7 : (Int × ((List Int) × Int × Int × Int))) => cI r7.1)) (Pf := fun (r7 : (Int × ((List Int) × Int × Int × Int))) => [some ((cR .o (Ow.k2 (cL .o cI) (Ow.k2 cI (Ow.k2 cI (Ow.k1 cI))))) r7.2), some (cI r3.1), none, none]) k2 rfl (ea_mv (ea_ev (e_cI 8) (ea_nil k2))) rfl (fun r7 q8 => (congrArg ff__law_take (l_cons (rfl) (l_cons (rfl) l_nil))).trans (ty__law_take_0 r3.2 8 r7 q8)) (fun _ => by simp [NoF.no, NoFK.no]) (fun _ => rfl))) fun r9 e5 k6 => (s_last (s_setV (i := 3) (v_div (e_cI 40) (e_var (i := 2) (d := cI r9.2) k6 rfl)) k6 fun c e11 k12 => (s_skip (k12.le (le_some (le_some (le_some (le_some le_nil))))) rfl))))) (fun _ => (ES.hoist (v_pure (v_item (show _ = some ((cL .o cI) [3, 6, 12, 40, 7]) from e_mk (e_cons (e_cI 3) (e_cons (e_cI 6) (e_cons (e_cI 12) (e_cons (e_cI 40) (e_cons (e_cI 7) e_nil)))))) (e_sub (e_var (i := 1) (d := cI r3.1) k2 rfl) (e_cI 1)))) fun v16 hv16 => (s_setE (i := 2) (ee_opR (e_cI 1) (ee_call0 (dr := (fun (r17 : (Int × ((List Int) × Int × Int × Int))) => cI r17.1)) (Pf := fun (r17 : (Int × ((List Int) × Int × Int × Int))) => [some ((cR .o (Ow.k2 (cL .o cI) (Ow.k2 cI (Ow.k2 cI (Ow.k1 cI))))) r17.2), some (cI r3.1), none, none]) k2 rfl (ea_mv (ea_ev hv16 (ea_nil k2))) rfl (fun r17 q18 => (congrArg ff__law_take (l_cons (rfl) (l_cons (rfl) l_nil))).trans (ty__law_take_0 r3.2 v16 r17 q18)) (fun _ => by simp [NoF.no, NoFK.no]) (fun _ => rfl)) (fun _ => rfl) (fun _ => rfl)) fun r17 e14 k15 => (ES.hoist (v_div (e_cI 40) (e_var (i := 2) (d := cI (1 + r17.1)) k15 rfl)) fun v21 hv21 => (s_setE (i := 3) (ee_opR (e_cI 1) (ee_call0 (dr := (fun (r22 : (Int × ((List Int) × Int × Int × Int))) => cI r22.1)) (Pf := fun (r22 : (Int × ((List Int) × Int × Int × Int))) => [some ((cR .o (Ow.k2 (cL .o cI) (Ow.k2 cI (Ow.k2 cI (Ow.k1 cI))))) r22.2), some (cI r3.1), some (cI (1 + r17.1)), none]) k15 rfl (ea_mv (ea_ev hv21 (ea_nil k15))) rfl (fun r22 q23 => (congrArg ff__law_take (l_cons (rfl) (l_cons (rfl) l_nil))).trans (ty__law_take_0 r17.2 v21 r22 q23)) (fun _ => by simp [NoF.no, NoFK.no]) (fun _ => rfl)) (fun _ => rfl) (fun _ => rfl)) fun r22 e19 k20 => (s_last (s_seq (s_ifE (Q := fun (j33 : (((List Int) × Int × Int × Int) × Int × Int)) => [some ((cR .o (Ow.k2 (cL .o cI) (Ow.k2 cI (Ow.k2 cI (Ow.k1 cI))))) j33.1), some (cI r3.1), some (cI j33.2.1), some (cI j33.2.2)]) (p := fun (r24 : (Int × ((List Int) × Int × Int × Int))) => r24.1 = 1) (et_B (b := fun (r24 : (Int × ((List Int) × Int × Int × Int))) => decide (r24.1 = 1)) (ee_opL (w := fun (r24 : (Int × ((List Int) × Int × Int × Int))) => .bl (decide (r24.1 = 1))) (ee_call0 (dr := (fun (r24 : (Int × ((List Int) × Int × Int × Int))) => cI r24.1)) (Pf := fun (r24 : (Int × ((List Int) × Int × Int × Int))) => [some ((cR .o (Ow.k2 (cL .o cI) (Ow.k2 cI (Ow.k2 cI (Ow.k1 cI))))) r24.2), some (cI r3.1), some (cI (1 + r17.1)), some (cI (1 + r22.1))]) k20 rfl (ea_mv (ea_ev (e_cI 2) (ea_nil k20))) rfl (fun r24 q25 => (congrArg ff__law_take (l_cons (rfl) (l_cons (rfl) l_nil))).trans (ty__law_take_0 r22.2 2 r24 q25)) (fun _ => by simp [NoF.no, NoFK.no]) (fun _ => rfl)) (fun r24 e27 k26 => (e_cI 1)) (fun _ => eq_int _ _) (fun _ => rfl))) (fun r24 e29 k28 _ => (s_last (s_asg (Pa := (fun (y30 : (Int × Int)) => [some ((cR .o (Ow.k2 (cL .o cI) (Ow.k2 cI (Ow.k2 cI (Ow.k1 cI))))) r24.2), some (cI r3.1), some (cI y30.1), some (cI y30.2)])) (show _ = some ((cT (Ow.k2 cI (Ow.k1 cI))) (1 + r22.1, 1 + r17.1)) from e_mk (e_cons (e_pure (e_var (i := 3) (d := cI (1 + r22.1)) k28 rfl)) (e_cons (e_pure (e_var (i := 2) (d := cI (1 + r17.1)) k28 rfl)) e_nil))) k28 (fun y30 => (b_tp (b_cons b_nm (b_cons b_nm b_nil)))) fun y30 e31 k32 => (s_skip (k32.le (le_some (le_some (le_some (le_some le_nil))))) rfl)))) (fun r24 e29 k28 _ => (s_skip (k28.le (le_some (le_some (le_some (le_some le_nil))))) rfl))) fun j33 e34 k35 => (s_skip (k35.le (le_some (le_some (le_some (le_some le_nil))))) rfl))))))))) fun j36 e37 k38 => (s_retE (w := fun (r39 : (Int × ((List Int) × Int × Int × Int))) => ((j36.2.1, j36.2.2, r39.1), r39.2)) (show EE _ _ _ (fun (r39 : (Int × ((List Int) × Int × Int × Int))) => ((cT (Ow.k2 cI (Ow.k2 cI (Ow.k1 cI)))) (j36.2.1, j36.2.2, r39.1), [some ((cR .o (Ow.k2 (cL .o cI) (Ow.k2 cI (Ow.k2 cI (Ow.k1 cI))))) r39.2), some (cI r3.1), some (cI j36.2.1), some (cI j36.2.2)])) from ee_mk (ea_ev (e_pure (e_var (i := 2) (d := cI j36.2.1) k38 rfl)) (ea_ev (e_pure (e_var (i := 3) (d := cI j36.2.2) k38 rfl)) (ea_evE (Pa := fun (r39 : (Int × ((List Int) × Int × Int × Int))) => [some ((cR .o (Ow.k2 (cL .o cI) (Ow.k2 cI (Ow.k2 cI (Ow.k1 cI))))) r39.2), some (cI r3.1), some (cI j36.2.1), some (cI j36.2.2)]) (ee_call0 (dr := (fun (r39 : (Int × ((List Int) × Int × Int × Int))) => cI r39.1)) (Pf := fun (r39 : (Int × ((List Int) × Int × Int × Int))) => [some ((cR .o (Ow.k2 (cL .o cI) (Ow.k2 cI (Ow.k2 cI (Ow.k1 cI))))) r39.2), some (cI r3.1), some (cI j36.2.1), some (cI j36.2.2)]) k38 rfl (ea_mv (ea_bor (ea_nil k38))) rfl (fun r39 q40 => (congrArg ff__law_take (l_cons (rfl) (l_cons (rfl) l_nil))).trans (ty__law_take_0 j36.1 j36.2.2 r39 q40)) (fun _ => by simp [NoF.no, NoFK.no]) (fun _ => rfl)) (fun r39 e42 k41 => (ea_nil k41)))))) (fun r39 e44 k43 => (k43.le (le_some (le_none (le_none (le_none le_nil)))))) (fun r39 => rfl))))) _ (Mt.start (ds := [(cR .o (Ow.k2 (cL .o cI) (Ow.k2 cI (Ow.k2 cI (Ow.k1 cI))))) box]) (n := 4))) (fun _ => rfl)
theorem ty_are_numbers_0 (rows : Int) (columns : Int) (shift : Int) : ∀ rz, Td.p_are_numbers rows columns shift = some rz → ff_are_numbers [cI rows, cI columns, cI shift] = some (cB rz) :=
  run_p (c := cB) (Q := fun _ => List.replicate 3 none) ((show ∀ e0 : Ow.Env, Mt [some (cI rows), some (cI columns), some (cI shift)] e0 → ES bb_are_numbers e0 (Td.p_are_numbers rows columns shift) (fnK cB) (fun _ => List.replicate 3 none) from fun e0 h0 => by delta bb_are_numbers Td.p_are_numbers; exact (s_ret (e_andV (e_ge (e_var (i := 0) h0 rfl) (e_cI 1)) (e_andV (e_ge (e_var (i := 1) h0 rfl) (e_cI 1)) (e_chain (e_cI 0) (e_var (i := 2) h0 rfl) (e_var (i := 1) h0 rfl) rfl rfl))) (h0.any rfl) rfl)) _ (Mt.start (ds := [cI rows, cI columns, cI shift]) (n := 3)))
theorem ty_check_numbers_0 (rows : Int) (columns : Int) (shift : Int) : ∀ rz, Td.p_check_numbers_2 rows columns shift = some rz → ff_check_numbers [cI rows, cI columns, cI shift] = some (cU rz) :=
  run_p (c := cU) (Q := fun _ => List.replicate 3 none) ((show ∀ e0 : Ow.Env, Mt [some (cI rows), some (cI columns), some (cI shift)] e0 → ES bb_check_numbers e0 (Td.p_check_numbers_2 rows columns shift) (fnK cU) (fun _ => List.replicate 3 none) from fun e0 h0 => by delta bb_check_numbers Td.p_check_numbers_2; exact (ES.hoist (v_fn (c := cB) (e_cons (e_var (i := 0) h0 rfl) (e_cons (e_var (i := 1) h0 rfl) (e_cons (e_var (i := 2) h0 rfl) e_nil))) (fun r1 q2 => (congrArg ff_are_numbers (fz_cons (fz_cons (fz_cons fz_nil)))).trans (ty_are_numbers_0 rows columns shift r1 q2))) fun r3 hr3 => (s_ifx (e_not (e_truB hr3)) (fun _ => s_none) (fun _ => (s_sk (s_last (ES.hoist (v_mul (e_var (i := 0) h0 rfl) (e_var (i := 1) h0 rfl)) fun v4 hv4 => (s_ifx (e_B (e_gt hv4 (e_cI 40))) (fun _ => s_none) (fun _ => (s_sk (s_skip (h0.any rfl) rfl))))))))))) _ (Mt.start (ds := [cI rows, cI columns, cI shift]) (n := 3)))
theorem ty_rights_of_0 (rows : Int) (columns : Int) : ∀ rz, Td.p_rights_of rows columns = some rz → ff_rights_of [cI rows, cI columns] = some ((cL .o cI) rz) :=
  run_p (c := (cL .o cI)) (Q := fun _ => List.replicate 4 none) ((show ∀ e0 : Ow.Env, Mt [some (cI rows), some (cI columns), none, none] e0 → ES bb_rights_of e0 (Td.p_rights_of rows columns) (fnK (cL .o cI)) (fun _ => List.replicate 4 none) from fun e0 h0 => by delta bb_rights_of Td.p_rights_of; exact (ES.hoistL (w_R (rg_1 (e_var (i := 0) h0 rfl))) fun xs1 hxs1 => (s_retO (v_lc2 (Px := fun (x2 : Int) => [some (cI rows), some (cI columns), some (cI x2), none]) hxs1 h0 (fun x2 => b_nm) (fun x2 e3 k4 => vb_yes) fun x2 e3 k4 => (EVL.hoistL (w_R (rg_1 (e_var (i := 1) k4 rfl))) fun xs5 hxs5 => (v_in2 (Px := fun (x6 : Int) => [some (cI rows), some (cI columns), some (cI x2), some (cI x6)]) hxs5 k4 (fun x6 => b_nm) (fun x6 e7 k8 => vb_yes) fun x6 e7 k8 => (EV.hoist (v_mul (e_var (i := 2) k8 rfl) (e_var (i := 1) k8 rfl)) fun v9 hv9 => (EV.hoist (v_mod (e_add (e_var (i := 3) k8 rfl) (e_cI 1)) (e_var (i := 1) k8 rfl)) fun v10 hv10 => (EV.tot (e_add hv9 hv10))))))) (fun ys11 => (h0.any rfl)) (fun ys11 => rfl)))) _ (Mt.start (ds := [cI rows, cI columns]) (n := 4)))
theorem ty_uppers_of_0 (rows : Int) (columns : Int) (shift : Int) : ∀ rz, Td.p_uppers_of rows columns shift = some rz → ff_uppers_of [cI rows, cI columns, cI shift] = some ((cL .o cI) rz) :=
  run_p (c := (cL .o cI)) (Q := fun _ => List.replicate 6 none) ((show ∀ e0 : Ow.Env, Mt [some (cI rows), some (cI columns), some (cI shift), none, none, none] e0 → ES bb_uppers_of e0 (Td.p_uppers_of rows columns shift) (fnK (cL .o cI)) (fun _ => List.replicate 6 none) from fun e0 h0 => by delta bb_uppers_of Td.p_uppers_of; exact (ES.hoist (v_mul (e_sub (e_var (i := 0) h0 rfl) (e_cI 1)) (e_var (i := 1) h0 rfl)) fun v3 hv3 => (ES.hoistL (w_R (rg_1 hv3)) fun xs4 hxs4 => (s_setV (i := 3) (v_lcm (Px := fun (x5 : Int) => [some (cI rows), some (cI columns), some (cI shift), none, some (cI x5), none]) hxs4 h0 (fun x5 => b_nm) fun x5 e6 k7 => (e_add (e_var (i := 4) k7 rfl) (e_var (i := 1) k7 rfl))) h0 fun inner e1 k2 => (ES.hoistL (w_R (rg_1 (e_var (i := 1) k2 rfl))) fun xs9 hxs9 => (ES.hoist (v_lcp (Px := fun (x10 : Int) => [some (cI rows), some (cI columns), some (cI shift), some ((cL .o cI) inner), none, some (cI x10)]) hxs9 k2 (fun x10 => b_nm) (fun x10 e11 k12 => vb_yes) fun x10 e11 k12 => (EV.hoist (v_mod (e_add (e_var (i := 5) k12 rfl) (e_var (i := 2) k12 rfl)) (e_var (i := 1) k12 rfl)) fun v13 hv13 => (EV.tot hv13))) fun ys14 hys14 => (s_retO (v_cat (e_var (i := 3) k2 rfl) hys14) (fun v15 => (k2.any rfl)) (fun v15 => rfl)))))))) _ (Mt.start (ds := [cI rows, cI columns, cI shift]) (n := 6)))
theorem ty_begun_least_0 (row : (List Int)) : ∀ rz, Td.p_begun_least row = some rz → ff_begun_least [(cL .s cI) row] = some ((cL .o cI) rz) :=
  run_p (c := (cL .o cI)) (Q := fun _ => List.replicate 2 none) ((show ∀ e0 : Ow.Env, Mt [some ((cL .s cI) row), none] e0 → ES bb_begun_least e0 (Td.p_begun_least row) (fnK (cL .o cI)) (fun _ => List.replicate 2 none) from fun e0 h0 => by delta bb_begun_least Td.p_begun_least; exact (s_ifx (e_not (e_truL (e_var (i := 0) h0 rfl))) (fun _ => (s_ret (show _ = some ((cL .o cI) ([] : (List Int))) from e_mk e_nil) (h0.any rfl) ⟨rfl, fun z => nomatch z⟩)) (fun _ => (s_sk (ES.hoist (v_min (e_var (i := 0) h0 rfl)) fun v3 hv3 => (s_setV (i := 1) (v_index (e_var (i := 0) h0 rfl) hv3) h0 fun at_ e1 k2 => (s_retO (v_cat (e_sl (e_var (i := 0) k2 rfl) (e_oYes (e_var (i := 1) k2 rfl)) e_oNo) (e_sl (e_var (i := 0) k2 rfl) e_oNo (e_oYes (e_var (i := 1) k2 rfl)))) (fun v5 => (k2.any rfl)) (fun v5 => rfl)))))))) _ (Mt.start (ds := [(cL .s cI) row]) (n := 2)))
theorem ty_laid_out_0 (steps : (List (List Int))) (clock : (List Int)) : ∀ rz, Td.p_laid_out steps clock = some rz → ff_laid_out [(cL .s (cL .s cI)) steps, (cQ cI) clock] = some ((cL .o (cL .o cI)) rz) :=
  run_p (c := (cL .o (cL .o cI))) (Q := fun _ => List.replicate 12 none) ((show ∀ e0 : Ow.Env, Mt [some ((cL .s (cL .s cI)) steps), some ((cQ cI) clock), none, none, none, none, none, none, none, none, none, none] e0 → ES bb_laid_out e0 (Td.p_laid_out steps clock) (fnK (cL .o (cL .o cI))) (fun _ => List.replicate 12 none) from fun e0 h0 => by delta bb_laid_out Td.p_laid_out; exact (s_let (i := 2) (ct := cI) (e_lenQ (e_var (i := 1) h0 rfl)) h0 fun size e1 k2 => (ES.hoist (v_item (e_var (i := 0) k2 rfl) (e_cI 0)) fun v5 hv5 => (s_setV (i := 3) (v_lcp (Px := fun (x6 : Int) => [some ((cL .s (cL .s cI)) steps), some ((cQ cI) clock), some (cI size), none, none, none, none, none, none, some (cI x6), none, none]) (w_L hv5) k2 (fun x6 => b_nm) (fun x6 e7 k8 => vb_yes) fun x6 e7 k8 => (EV.hoist (v_rep (show _ = some ((cL .o cI) [0]) from e_mk (e_cons (e_cI 0) e_nil)) (e_var (i := 2) k8 rfl)) fun v9 hv9 => (EV.tot hv9))) k2 fun slots e3 k4 => (s_seq (s_for (xs := (enu 0 steps)) (s0 := slots) (Pl := fun (s12 : ((List (List Int)))) => [some ((cL .s (cL .s cI)) steps), some ((cQ cI) clock), some (cI size), some ((cL .o (cL .o cI)) s12), none, none, none, none, none, none, none, none]) (Px := fun (s12 : ((List (List Int)))) (x11 : (Int × (List Int))) => [some ((cL .s (cL .s cI)) steps), some ((cQ cI) clock), some (cI size), some ((cL .o (cL .o cI)) s12), some (cI x11.1), some ((cL .s cI) x11.2), none, none, none, none, none, none]) (w_E (e_pureC (e_var (i := 0) k4 rfl))) (k4.le (le_some (le_some (le_some (le_some (le_none (le_none (le_none (le_none (le_none (le_none (le_none (le_none le_nil))))))))))))) (fun s12 x11 => (b_tp (b_cons b_nm (b_cons b_nm b_nil)))) (fun s12 x11 e13 k14 => (s_last (s_seq (s_for (xs := (enu 0 x11.2)) (s0 := s12) (Pl := fun (s16 : ((List (List Int)))) => [some ((cL .s (cL .s cI)) steps), some ((cQ cI) clock), some (cI size), some ((cL .o (cL .o cI)) s16), some (cI x11.1), some ((cL .s cI) x11.2), none, none, none, none, none, none]) (Px := fun (s16 : ((List (List Int)))) (x15 : (Int × Int)) => [some ((cL .s (cL .s cI)) steps), some ((cQ cI) clock), some (cI size), some ((cL .o (cL .o cI)) s16), some (cI x11.1), some ((cL .s cI) x11.2), some (cI x15.1), some (cI x15.2), none, none, none, none]) (w_E (e_pureC (e_var (i := 5) (d := (cL .s cI) x11.2) k14 rfl))) (k14.le (le_some (le_some (le_some (le_some (le_some (le_some (le_none (le_none (le_none (le_none (le_none (le_none le_nil))))))))))))) (fun s16 x15 => (b_tp (b_cons b_nm (b_cons b_nm b_nil)))) (fun s16 x15 e17 k18 => (ES.hoist (v_mul (e_var (i := 2) k18 rfl) (e_var (i := 6) (d := cI x15.1) k18 rfl)) fun v21 hv21 => (ES.hoist (v_mul (e_cI 2) (e_var (i := 4) (d := cI x11.1) k18 rfl)) fun v22 hv22 => (s_let (i := 8) (ct := cI) (e_add hv21 hv22) k18 fun even e19 k20 => (ES.bindE fun z23 hz23 => (ES.hoist (v_mul (e_cI 2) (e_var (i := 4) (d := cI x11.1) k20 rfl)) fun v24 hv24 => (s_put (e_pure (e_var (i := 8) k20 rfl)) (pl_item (pl_name (i := 3) k20 rfl) (e_var (i := 6) (d := cI x15.1) k20 rfl) hz23) hv24 k20 fun z25 e26 k27 => (s_last (ES.bindE fun z28 hz28 => (ES.hoist (v_mul (e_cI 2) (e_var (i := 4) (d := cI x11.1) k27 rfl)) fun v29 hv29 => (s_put (e_add (e_var (i := 8) k27 rfl) (e_cI 1)) (pl_item (pl_name (i := 3) k27 rfl) (e_var (i := 7) (d := cI x15.2) k27 rfl) hz28) (e_add hv29 (e_cI 1)) k27 fun z30 e31 k32 => (s_skip (k32.le (le_some (le_some (le_some (le_some (le_some (le_some (le_none (le_none (le_none (le_none (le_none (le_none le_nil))))))))))))) (Or.inl rfl)))))))))))))) fun s33 e34 k35 => (s_skip (k35.le (le_some (le_some (le_some (le_some (le_none (le_none (le_none (le_none (le_none (le_none (le_none (le_none le_nil))))))))))))) (Or.inl rfl)))))) fun s36 e37 k38 => (s_retO (v_lcp (Px := fun (x39 : (List Int)) => [some ((cL .s (cL .s cI)) steps), some ((cQ cI) clock), some (cI size), some ((cL .o (cL .o cI)) s36), none, none, none, none, none, none, some ((cL .o cI) x39), none]) (w_L (e_var (i := 3) k38 rfl)) k38 (fun x39 => b_nm) (fun x39 e40 k41 => vb_yes) fun x39 e40 k41 => (EV.hoist (v_lcp (Px := fun (x42 : Int) => [some ((cL .s (cL .s cI)) steps), some ((cQ cI) clock), some (cI size), some ((cL .o (cL .o cI)) s36), none, none, none, none, none, none, some ((cL .o cI) x39), some (cI x42)]) (w_Q (e_var (i := 1) k41 rfl)) k41 (fun x42 => b_nm) (fun x42 e43 k44 => vb_yes) fun x42 e43 k44 => (EV.hoist (v_pure (v_item (e_var (i := 10) k44 rfl) (e_var (i := 11) k44 rfl))) fun v45 hv45 => (EV.tot hv45))) fun ys46 hys46 => (EV.hoist (v_fn (c := (cL .o cI)) (e_cons hys46 e_nil) (fun r47 q48 => (congrArg ff_begun_least (fz_cons fz_nil)).trans (ty_begun_least_0 ys46 r47 q48))) fun r49 hr49 => (EV.tot hr49)))) (fun ys50 => (k38.any rfl)) (fun ys50 => rfl))))))) _ (Mt.start (ds := [(cL .s (cL .s cI)) steps, (cQ cI) clock]) (n := 12)))
theorem ty_fours_by_0 (rows : Int) (columns : Int) (shift : Int) : ∀ rz, Td.p_fours_by rows columns shift = some rz → ff_fours_by [cI rows, cI columns, cI shift] = some ((cL .o (cL .o cI)) rz) :=
  run_p (c := (cL .o (cL .o cI))) (Q := fun _ => List.replicate 3 none) ((show ∀ e0 : Ow.Env, Mt [some (cI rows), some (cI columns), some (cI shift)] e0 → ES bb_fours_by e0 (Td.p_fours_by rows columns shift) (fnK (cL .o (cL .o cI))) (fun _ => List.replicate 3 none) from fun e0 h0 => by delta bb_fours_by Td.p_fours_by; exact (ES.hoist (v_fn (c := (cL .o cI)) (e_cons (e_var (i := 0) h0 rfl) (e_cons (e_var (i := 1) h0 rfl) e_nil)) (fun r1 q2 => (congrArg ff_rights_of (fz_cons (fz_cons fz_nil))).trans (ty_rights_of_0 rows columns r1 q2))) fun r3 hr3 => (ES.hoist (v_fn (c := (cL .o cI)) (e_cons (e_var (i := 0) h0 rfl) (e_cons (e_var (i := 1) h0 rfl) (e_cons (e_var (i := 2) h0 rfl) e_nil))) (fun r4 q5 => (congrArg ff_uppers_of (fz_cons (fz_cons (fz_cons fz_nil)))).trans (ty_uppers_of_0 rows columns shift r4 q5))) fun r6 hr6 => (s_retO (v_fn (c := (cL .o (cL .o cI))) (e_cons (show _ = some ((cL .o (cL .o cI)) [r3, r6]) from e_mk (e_cons hr3 (e_cons hr6 e_nil))) (e_cons (show _ = some (cQ cI [0, 3, 1, 2]) from rfl) e_nil)) (fun r7 q8 => (congrArg ff_laid_out (fz_cons (fz_cons fz_nil))).trans (ty_laid_out_0 [r3, r6] ([0, 3, 1, 2] : List Int) r7 q8))) (fun r9 => (h0.any rfl)) (fun r9 => rfl))))) _ (Mt.start (ds := [cI rows, cI columns, cI shift]) (n := 3)))
theorem ty_fours_0 (rows : Int) (columns : Int) (shift : Int) : ∀ rz, Td.p_fours_2 rows columns shift = some rz → ff_fours [cI rows, cI columns, cI shift] = some ((cL .o (cL .o cI)) rz) :=
  run_p (c := (cL .o (cL .o cI))) (Q := fun _ => List.replicate 3 none) ((show ∀ e0 : Ow.Env, Mt [some (cI rows), some (cI columns), some (cI shift)] e0 → ES bb_fours e0 (Td.p_fours_2 rows columns shift) (fnK (cL .o (cL .o cI))) (fun _ => List.replicate 3 none) from fun e0 h0 => by delta bb_fours Td.p_fours_2; exact (ES.hoist (v_fn (c := cU) (e_cons (e_var (i := 0) h0 rfl) (e_cons (e_var (i := 1) h0 rfl) (e_cons (e_var (i := 2) h0 rfl) e_nil))) (fun r1 q2 => (congrArg ff_check_numbers (fz_cons (fz_cons (fz_cons fz_nil)))).trans (ty_check_numbers_0 rows columns shift r1 q2))) fun r3 hr3 => (s_dropP hr3 h0 fun e4 k5 => (s_retO (v_fn (c := (cL .o (cL .o cI))) (e_cons (e_var (i := 0) k5 rfl) (e_cons (e_var (i := 1) k5 rfl) (e_cons (e_var (i := 2) k5 rfl) e_nil))) (fun r6 q7 => (congrArg ff_fours_by (fz_cons (fz_cons (fz_cons fz_nil)))).trans (ty_fours_by_0 rows columns shift r6 q7))) (fun r8 => (k5.any rfl)) (fun r8 => rfl))))) _ (Mt.start (ds := [cI rows, cI columns, cI shift]) (n := 3)))
theorem ty_threes_by_0 (rows : Int) (columns : Int) (shift : Int) : ∀ rz, Td.p_threes_by_3 rows columns shift = some rz → ff_threes_by [cI rows, cI columns, cI shift] = some ((cL .o (cL .o cI)) rz) :=
  run_p (c := (cL .o (cL .o cI))) (Q := fun _ => List.replicate 7 none) ((show ∀ e0 : Ow.Env, Mt [some (cI rows), some (cI columns), some (cI shift), none, none, none, none] e0 → ES bb_threes_by e0 (Td.p_threes_by_3 rows columns shift) (fnK (cL .o (cL .o cI))) (fun _ => List.replicate 7 none) from fun e0 h0 => by delta bb_threes_by Td.p_threes_by_3; exact (s_setV (i := 3) (v_fn (c := (cL .o cI)) (e_cons (e_var (i := 0) h0 rfl) (e_cons (e_var (i := 1) h0 rfl) e_nil)) (fun r3 q4 => (congrArg ff_rights_of (fz_cons (fz_cons fz_nil))).trans (ty_rights_of_0 rows columns r3 q4))) h0 fun rights e1 k2 => (s_setV (i := 4) (v_fn (c := (cL .o cI)) (e_cons (e_var (i := 0) k2 rfl) (e_cons (e_var (i := 1) k2 rfl) (e_cons (e_var (i := 2) k2 rfl) e_nil))) (fun r8 q9 => (congrArg ff_uppers_of (fz_cons (fz_cons (fz_cons fz_nil)))).trans (ty_uppers_of_0 rows columns shift r8 q9))) k2 fun uppers e6 k7 => (s_setV (i := 5) (v_lcp (Px := fun (x13 : Int) => [some (cI rows), some (cI columns), some (cI shift), some ((cL .o cI) rights), some ((cL .o cI) uppers), none, some (cI x13)]) (w_L (e_var (i := 4) k7 rfl)) k7 (fun x13 => b_nm) (fun x13 e14 k15 => vb_yes) fun x13 e14 k15 => (EV.hoist (v_pure (v_item (e_var (i := 3) k15 rfl) (e_var (i := 6) k15 rfl))) fun v16 hv16 => (EV.tot hv16))) k7 fun slants e11 k12 => (s_retE (w := fun (r29 : (Unit × (List (List Int)))) => (r29.2)) (ee_callP (dr := fun (r27 : (List (List Int))) => (cL .o (cL .o cI)) r27) k12 rfl (ea_evE (Pa := fun (a24 : Unit) => [some (cI rows), some (cI columns), some (cI shift), none, none, none, none]) (show EE _ _ _ (fun (_ : Unit) => ((cL .o (cL .o cI)) [rights, uppers, slants], _)) from ee_mk (ea_evT (t1_move (i := 3) k12 rfl) (fun e18 k19 => (ea_evT (t1_move (i := 4) k19 rfl) (fun e20 k21 => (ea_evT (t1_move (i := 5) k21 rfl) (fun e22 k23 => (ea_nil k23)))))))) (fun a24 e26 k25 => (ea_ev (show _ = some (cQ cI [0, 3, 5, 1, 2, 4]) from rfl) (ea_nil k25)))) (fun _ => rfl) (fun a24 r27 q28 => (congrArg (pM ff_laid_out) (l_cons (Fz.fz (c := (cL .o (cL .o cI))) _) (l_cons (Fz.fz (c := (cQ cI)) _) l_nil))).trans (pM_of (fz_cons (fz_cons fz_nil)) (ty_laid_out_0 [rights, uppers, slants] ([0, 3, 5, 1, 2, 4] : List Int) r27 q28))) (fun _ => by simp [NoF.no, NoFK.no]) (fun _ => rfl)) (fun r29 e31 k30 => (k30.any rfl)) (fun r29 => rfl)))))) _ (Mt.start (ds := [cI rows, cI columns, cI shift]) (n := 7)))
theorem ty_threes_0 (rows : Int) (columns : Int) (shift : Int) : ∀ rz, Td.p_threes_4 rows columns shift = some rz → ff_threes [cI rows, cI columns, cI shift] = some ((cL .o (cL .o cI)) rz) :=
  run_p (c := (cL .o (cL .o cI))) (Q := fun _ => List.replicate 3 none) ((show ∀ e0 : Ow.Env, Mt [some (cI rows), some (cI columns), some (cI shift)] e0 → ES bb_threes e0 (Td.p_threes_4 rows columns shift) (fnK (cL .o (cL .o cI))) (fun _ => List.replicate 3 none) from fun e0 h0 => by delta bb_threes Td.p_threes_4; exact (ES.hoist (v_fn (c := cU) (e_cons (e_var (i := 0) h0 rfl) (e_cons (e_var (i := 1) h0 rfl) (e_cons (e_var (i := 2) h0 rfl) e_nil))) (fun r1 q2 => (congrArg ff_check_numbers (fz_cons (fz_cons (fz_cons fz_nil)))).trans (ty_check_numbers_0 rows columns shift r1 q2))) fun r3 hr3 => (s_dropP hr3 h0 fun e4 k5 => (s_retO (v_fn (c := (cL .o (cL .o cI))) (e_cons (e_var (i := 0) k5 rfl) (e_cons (e_var (i := 1) k5 rfl) (e_cons (e_var (i := 2) k5 rfl) e_nil))) (fun r6 q7 => (congrArg ff_threes_by (fz_cons (fz_cons (fz_cons fz_nil)))).trans (ty_threes_by_0 rows columns shift r6 q7))) (fun r8 => (k5.any rfl)) (fun r8 => rfl))))) _ (Mt.start (ds := [cI rows, cI columns, cI shift]) (n := 3)))
theorem ty_count_ends_0 (rows : (List (List Int))) : ∀ rz, Td.p_count_ends rows = some rz → ff_count_ends [(cL .s (cL .s cI)) rows] = some (cI rz) :=
  run_p (c := cI) (Q := fun _ => List.replicate 2 none) ((show ∀ e0 : Ow.Env, Mt [some ((cL .s (cL .s cI)) rows), none] e0 → ES bb_count_ends e0 (Td.p_count_ends rows) (fnK cI) (fun _ => List.replicate 2 none) from fun e0 h0 => by delta bb_count_ends Td.p_count_ends; exact (ES.hoist (v_lcm (Px := fun (x1 : (List Int)) => [some ((cL .s (cL .s cI)) rows), some ((cL .s cI) x1)]) (w_L (e_var (i := 0) h0 rfl)) h0 (fun x1 => b_nm) fun x1 e2 k3 => (e_len (e_var (i := 1) k3 rfl))) fun ys4 hys4 => (s_ret (e_sum hys4) (h0.any rfl) rfl))) _ (Mt.start (ds := [(cL .s (cL .s cI)) rows]) (n := 2)))
theorem ty_check_end_0 (drawing : (List (List Int))) (end_ : Int) : ∀ rz, Td.p_check_end drawing end_ = some rz → ff_check_end [(cL .s (cL .s cI)) drawing, cI end_] = some (cU rz) :=
  run_p (c := cU) (Q := fun _ => List.replicate 2 none) ((show ∀ e0 : Ow.Env, Mt [some ((cL .s (cL .s cI)) drawing), some (cI end_)] e0 → ES bb_check_end e0 (Td.p_check_end drawing end_) (fnK cU) (fun _ => List.replicate 2 none) from fun e0 h0 => by delta bb_check_end Td.p_check_end; exact (s_last (ES.hoistB (v_or (e_B (e_lt (e_var (i := 1) h0 rfl) (e_cI 0))) fun _ => (EVB.hoist (v_fn (c := cI) (e_cons (e_var (i := 0) h0 rfl) e_nil) (fun r1 q2 => (congrArg ff_count_ends (fz_cons fz_nil)).trans (ty_count_ends_0 drawing r1 q2))) fun r3 hr3 => (vb_p (e_B (e_ge (e_var (i := 1) h0 rfl) hr3))))) fun b4 hb4 => (s_ifx (e_dec hb4) (fun _ => s_none) (fun _ => (s_sk (s_skip (h0.any rfl) rfl))))))) _ (Mt.start (ds := [(cL .s (cL .s cI)) drawing, cI end_]) (n := 2)))
theorem ty_homes_of_0 (drawing : (List (List Int))) : ∀ rz, Td.p_homes_of drawing = some rz → ff_homes_of [(cL .s (cL .s cI)) drawing] = some ((cL .o cI) rz) :=
  run_p (c := (cL .o cI)) (Q := fun _ => List.replicate 5 none) ((show ∀ e0 : Ow.Env, Mt [some ((cL .s (cL .s cI)) drawing), none, none, none, none] e0 → ES bb_homes_of e0 (Td.p_homes_of drawing) (fnK (cL .o cI)) (fun _ => List.replicate 5 none) from fun e0 h0 => by delta bb_homes_of Td.p_homes_of; exact (ES.hoist (v_fn (c := cI) (e_cons (e_var (i := 0) h0 rfl) e_nil) (fun r3 q4 => (congrArg ff_count_ends (fz_cons fz_nil)).trans (ty_count_ends_0 drawing r3 q4))) fun r5 hr5 => (s_setV (i := 1) (v_rep (show _ = some ((cL .o cI) [0]) from e_mk (e_cons (e_cI 0) e_nil)) hr5) h0 fun homes e1 k2 => (s_seq (s_for (xs := (enu 0 drawing)) (s0 := homes) (Pl := fun (s8 : ((List Int))) => [some ((cL .s (cL .s cI)) drawing), some ((cL .o cI) s8), none, none, none]) (Px := fun (s8 : ((List Int))) (x7 : (Int × (List Int))) => [some ((cL .s (cL .s cI)) drawing), some ((cL .o cI) s8), some (cI x7.1), some ((cL .s cI) x7.2), none]) (w_E (e_pureC (e_var (i := 0) k2 rfl))) (k2.le (le_some (le_some (le_none (le_none (le_none le_nil)))))) (fun s8 x7 => (b_tp (b_cons b_nm (b_cons b_nm b_nil)))) (fun s8 x7 e9 k10 => (s_frzN (i := 3) (ct := (cL .s cI)) k10 rfl fun e11 k12 => (s_last (s_seq (s_for (xs := x7.2) (s0 := s8) (Pl := fun (s14 : ((List Int))) => [some ((cL .s (cL .s cI)) drawing), some ((cL .o cI) s14), some (cI x7.1), some ((cL .s cI) x7.2), none]) (Px := fun (s14 : ((List Int))) (x13 : Int) => [some ((cL .s (cL .s cI)) drawing), some ((cL .o cI) s14), some (cI x7.1), some ((cL .s cI) x7.2), some (cI x13)]) (w_L (e_pureC (e_var (i := 3) (d := (cL .s cI) x7.2) k12 rfl))) (k12.le (le_some (le_some (le_some (le_some (le_none le_nil)))))) (fun s14 x13 => b_nm) (fun s14 x13 e15 k16 => (s_last (s_put (e_pure (e_var (i := 2) (d := cI x7.1) k16 rfl)) (pl_name (i := 1) k16 rfl) (e_var (i := 4) k16 rfl) k16 fun homes e18 k19 => (s_skip (k19.le (le_some (le_some (le_some (le_some (le_none le_nil)))))) (Or.inl rfl)))))) fun s20 e21 k22 => (s_skip (k22.le (le_some (le_some (le_none (le_none (le_none le_nil)))))) (Or.inl rfl))))))) fun s23 e24 k25 => (s_retM (i := 1) k25 rfl (fun em hm => (hm.any rfl)) rfl))))) _ (Mt.start (ds := [(cL .s (cL .s cI)) drawing]) (n := 5)))
theorem ty_mate_of_0 (end_ : Int) : ∀ rz, Td.p_mate_of end_ = some rz → ff_mate_of [cI end_] = some (cI rz) :=
  run_p (c := cI) (Q := fun _ => List.replicate 1 none) ((show ∀ e0 : Ow.Env, Mt [some (cI end_)] e0 → ES bb_mate_of e0 (Td.p_mate_of end_) (fnK cI) (fun _ => List.replicate 1 none) from fun e0 h0 => by delta bb_mate_of Td.p_mate_of; exact (s_ret (e_xorT (e_var (i := 0) h0 rfl) (e_cI 1)) (h0.any rfl) rfl)) _ (Mt.start (ds := [cI end_]) (n := 1)))
theorem ty_orders_of_0 (drawing : (List (List Int))) : ∀ rz, Td.p_orders_of drawing = some rz → ff_orders_of [(cL .s (cL .s cI)) drawing] = some ((cL .o (cL .o cI)) rz) :=
  run_p (c := (cL .o (cL .o cI))) (Q := fun _ => List.replicate 4 none) ((show ∀ e0 : Ow.Env, Mt [some ((cL .s (cL .s cI)) drawing), none, none, none] e0 → ES bb_orders_of e0 (Td.p_orders_of drawing) (fnK (cL .o (cL .o cI))) (fun _ => List.replicate 4 none) from fun e0 h0 => by delta bb_orders_of Td.p_orders_of; exact (s_setV (i := 1) (v_fn (c := (cL .o cI)) (e_cons (e_var (i := 0) h0 rfl) e_nil) (fun r3 q4 => (congrArg ff_homes_of (fz_cons fz_nil)).trans (ty_homes_of_0 drawing r3 q4))) h0 fun homes e1 k2 => (s_retO (v_lcp (Px := fun (x6 : (List Int)) => [some ((cL .s (cL .s cI)) drawing), some ((cL .o cI) homes), some ((cL .s cI) x6), none]) (w_L (e_var (i := 0) k2 rfl)) k2 (fun x6 => b_nm) (fun x6 e7 k8 => vb_yes) fun x6 e7 k8 => (EV.hoist (v_lcp (Px := fun (x9 : Int) => [some ((cL .s (cL .s cI)) drawing), some ((cL .o cI) homes), some ((cL .s cI) x6), some (cI x9)]) (w_L (e_var (i := 2) k8 rfl)) k8 (fun x9 => b_nm) (fun x9 e10 k11 => vb_yes) fun x9 e10 k11 => (EV.hoist (v_fn (c := cI) (e_cons (e_var (i := 3) k11 rfl) e_nil) (fun r12 q13 => (congrArg ff_mate_of (fz_cons fz_nil)).trans (ty_mate_of_0 x9 r12 q13))) fun r14 hr14 => (EV.hoist (v_pure (v_item (e_var (i := 1) k11 rfl) hr14)) fun v15 hv15 => (EV.tot hv15)))) fun ys16 hys16 => (EV.tot hys16))) (fun ys17 => (k2.any rfl)) (fun ys17 => rfl)))) _ (Mt.start (ds := [(cL .s (cL .s cI)) drawing]) (n := 4)))
theorem ty_drain_0 (near : (List (List Int))) (waiting : (List (Int × Bool))) (start : Int) : ∀ rz, Td.p_drain near waiting start = some rz → ff_drain [(cL .s (cL .s cI)) near, (cD .o ckI cvB) waiting, cI start] = some ((cL .o cI) rz.1, [(cD .o ckI cvB) rz.2]) :=
  run_m (c := fun (r : ((List Int) × (List (Int × Bool)))) => (cL .o cI) r.1) (os := fun (r : ((List Int) × (List (Int × Bool)))) => [(cD .o ckI cvB) r.2]) (Q := (fun (r : ((List Int) × (List (Int × Bool)))) => [none, some ((cD .o ckI cvB) r.2), none, none, none, none, none])) ((show ∀ e0 : Ow.Env, Mt [some ((cL .s (cL .s cI)) near), some ((cD .o ckI cvB) waiting), some (cI start), none, none, none, none] e0 → ES bb_drain e0 (Td.p_drain near waiting start) (fnK fun (r : ((List Int) × (List (Int × Bool)))) => (cL .o cI) r.1) ((fun (r : ((List Int) × (List (Int × Bool)))) => [none, some ((cD .o ckI cvB) r.2), none, none, none, none, none])) from fun e0 h0 => by delta bb_drain Td.p_drain; exact (s_ddel (i := 1) h0 rfl (e_var (i := 2) h0 rfl) rfl fun waiting e1 k2 => (s_let (i := 3) (ct := (cL .o cI)) (show _ = some ((cL .o cI) [start]) from e_mk (e_cons (e_pure (e_var (i := 2) k2 rfl)) e_nil)) k2 fun group e3 k4 => (s_let (i := 4) (ct := cI) (e_cI 0) k4 fun at_ e5 k6 => (s_seq (s_wh (s0 := (waiting, group, at_)) (Pl := fun (s7 : ((List (Int × Bool)) × (List Int) × Int)) => [some ((cL .s (cL .s cI)) near), some ((cD .o ckI cvB) s7.1), some (cI start), some ((cL .o cI) s7.2.1), some (cI s7.2.2), none, none]) (k6.le (le_some (le_some (le_some (le_some (le_some (le_none (le_none le_nil)))))))) (fun s7 e8 k9 => (vb_p (e_B (e_lt (e_var (i := 4) (d := cI s7.2.2) k9 rfl) (e_len (e_var (i := 3) (d := (cL .o cI) s7.2.1) k9 rfl)))))) (fun s7 e8 k9 => (s_setV (i := 5) (v_pure (v_item (e_var (i := 3) (d := (cL .o cI) s7.2.1) k9 rfl) (e_var (i := 4) (d := cI s7.2.2) k9 rfl))) k9 fun here e10 k11 => (ES.hoist (v_pure (v_item (e_var (i := 0) k11 rfl) (e_var (i := 5) k11 rfl))) fun v13 hv13 => (s_seq (s_for (xs := v13) (s0 := (s7.1, s7.2.1)) (Pl := fun (s15 : ((List (Int × Bool)) × (List Int))) => [some ((cL .s (cL .s cI)) near), some ((cD .o ckI cvB) s15.1), some (cI start), some ((cL .o cI) s15.2), some (cI s7.2.2), some (cI here), none]) (Px := fun (s15 : ((List (Int × Bool)) × (List Int))) (x14 : Int) => [some ((cL .s (cL .s cI)) near), some ((cD .o ckI cvB) s15.1), some (cI start), some ((cL .o cI) s15.2), some (cI s7.2.2), some (cI here), some (cI x14)]) (w_L hv13) (k11.le (le_some (le_some (le_some (le_some (le_some (le_some (le_none le_nil)))))))) (fun s15 x14 => b_nm) (fun s15 x14 e16 k17 => (s_last (s_seq (s_if (Q := fun (j23 : ((List (Int × Bool)) × (List Int))) => [some ((cL .s (cL .s cI)) near), some ((cD .o ckI cvB) j23.1), some (cI start), some ((cL .o cI) j23.2), some (cI s7.2.2), some (cI here), some (cI x14)]) (e_din (e_var (i := 6) k17 rfl) (e_var (i := 1) (d := (cD .o ckI cvB) s15.1) k17 rfl) rfl) (fun _ => (s_ddel (i := 1) k17 rfl (e_var (i := 6) k17 rfl) rfl fun waiting e18 k19 => (s_last (s_app (pl_name (i := 3) k19 rfl) (e_pure (e_var (i := 6) k19 rfl)) k19 fun group e21 k22 => (s_skip (k22.le (le_some (le_some (le_some (le_some (le_some (le_some (le_some le_nil)))))))) rfl))))) (fun _ => (s_skip (k17.le (le_some (le_some (le_some (le_some (le_some (le_some (le_some le_nil)))))))) rfl))) fun j23 e24 k25 => (s_skip (k25.le (le_some (le_some (le_some (le_some (le_some (le_some (le_none le_nil)))))))) (Or.inl rfl)))))) fun s26 e27 k28 => (s_last (s_augAdd (i := 4) (e_cI 1) k28 rfl fun at_ e29 k30 => (s_skip (k30.le (le_some (le_some (le_some (le_some (le_some (le_none (le_none le_nil)))))))) (Or.inl rfl))))))))) fun s31 e32 k33 => (s_retM (i := 3) k33 rfl (fun em hm => (hm.le (le_none (le_some (le_none (le_none (le_none (le_none (le_none le_nil))))))))) rfl)))))) _ (Mt.start (ds := [(cL .s (cL .s cI)) near, (cD .o ckI cvB) waiting, cI start]) (n := 7))) (fun _ => rfl)
theorem ty_groups_0 (near : (List (List Int))) (places : (List Int)) : ∀ rz, Td.p_groups near places = some rz → ff_groups [(cL .s (cL .s cI)) near, (cL .s cI) places] = some ((cL .o (cL .o cI)) rz) :=
  run_p (c := (cL .o (cL .o cI))) (Q := fun _ => List.replicate 5 none) ((show ∀ e0 : Ow.Env, Mt [some ((cL .s (cL .s cI)) near), some ((cL .s cI) places), none, none, none] e0 → ES bb_groups e0 (Td.p_groups near places) (fnK (cL .o (cL .o cI))) (fun _ => List.replicate 5 none) from fun e0 h0 => by delta bb_groups Td.p_groups; exact (s_setV (i := 2) (v_dc (ck := ckI) (cv := cvB) (dx := cI) (Px := fun (x3 : Int) => [some ((cL .s (cL .s cI)) near), some ((cL .s cI) places), none, none, some (cI x3)]) (w_L (e_var (i := 1) h0 rfl)) h0 (fun x3 => b_nm) (fun x3 e4 k5 => vb_yes) (fun _ => rfl) fun x3 e4 r6 k5 q7 => by cases q7; exact ⟨(e_var (i := 4) k5 rfl), (e_cB true)⟩) h0 fun waiting e1 k2 => (s_let (i := 3) (ct := (cL .o (cL .o cI))) (show _ = some ((cL .o (cL .o cI)) ([] : (List (List Int)))) from e_mk e_nil) k2 fun found e9 k10 => (s_seq (s_for (xs := places) (s0 := (waiting, found)) (Pl := fun (s12 : ((List (Int × Bool)) × (List (List Int)))) => [some ((cL .s (cL .s cI)) near), some ((cL .s cI) places), some ((cD .o ckI cvB) s12.1), some ((cL .o (cL .o cI)) s12.2), none]) (Px := fun (s12 : ((List (Int × Bool)) × (List (List Int)))) (x11 : Int) => [some ((cL .s (cL .s cI)) near), some ((cL .s cI) places), some ((cD .o ckI cvB) s12.1), some ((cL .o (cL .o cI)) s12.2), some (cI x11)]) (w_L (e_pureC (e_var (i := 1) k10 rfl))) (k10.le (le_some (le_some (le_some (le_some (le_none le_nil)))))) (fun s12 x11 => b_nm) (fun s12 x11 e13 k14 => (s_last (s_seq (s_if (Q := fun (j19 : ((List (Int × Bool)) × (List (List Int)))) => [some ((cL .s (cL .s cI)) near), some ((cL .s cI) places), some ((cD .o ckI cvB) j19.1), some ((cL .o (cL .o cI)) j19.2), some (cI x11)]) (e_din (e_var (i := 4) k14 rfl) (e_var (i := 2) (d := (cD .o ckI cvB) s12.1) k14 rfl) rfl) (fun _ => (s_last (s_appE (y := fun (r15 : ((List Int) × (List (Int × Bool)))) => Ty.srt r15.1) (pl_name (i := 3) k14 rfl) (ee_sorted (ee_call0 (dr := (fun (r15 : ((List Int) × (List (Int × Bool)))) => (cL .o cI) r15.1)) (Pf := fun (r15 : ((List Int) × (List (Int × Bool)))) => [some ((cL .s (cL .s cI)) near), some ((cL .s cI) places), some ((cD .o ckI cvB) r15.2), some ((cL .o (cL .o cI)) s12.2), some (cI x11)]) k14 rfl (ea_bor (ea_mv (ea_bor (ea_nil k14)))) rfl (fun r15 q16 => (congrArg ff_drain (l_cons (Fz.fz (c := (cL .s (cL .s cI))) _) (l_cons (rfl) (l_cons (rfl) l_nil)))).trans (ty_drain_0 near s12.1 x11 r15 q16)) (fun _ => by simp [NoF.no, NoFK.no]) (fun _ => rfl))) fun r15 found e17 k18 => (s_skip (k18.le (le_some (le_some (le_some (le_some (le_some le_nil)))))) rfl)))) (fun _ => (s_skip (k14.le (le_some (le_some (le_some (le_some (le_some le_nil)))))) rfl))) fun j19 e20 k21 => (s_skip (k21.le (le_some (le_some (le_some (le_some (le_none le_nil)))))) (Or.inl rfl)))))) fun s22 e23 k24 => (s_retM (i := 3) k24 rfl (fun em hm => (hm.any rfl)) rfl))))) _ (Mt.start (ds := [(cL .s (cL .s cI)) near, (cL .s cI) places]) (n := 5)))
theorem ty_parts_of_0 (drawing : (List (List Int))) : ∀ rz, Td.p_parts_of drawing = some rz → ff_parts_of [(cL .s (cL .s cI)) drawing] = some ((cL .o (cL .o cI)) rz) :=
  run_p (c := (cL .o (cL .o cI))) (Q := fun _ => List.replicate 1 none) ((show ∀ e0 : Ow.Env, Mt [some ((cL .s (cL .s cI)) drawing)] e0 → ES bb_parts_of e0 (Td.p_parts_of drawing) (fnK (cL .o (cL .o cI))) (fun _ => List.replicate 1 none) from fun e0 h0 => by delta bb_parts_of Td.p_parts_of; exact (ES.hoist (v_fn (c := (cL .o (cL .o cI))) (e_cons (e_var (i := 0) h0 rfl) e_nil) (fun r1 q2 => (congrArg ff_orders_of (fz_cons fz_nil)).trans (ty_orders_of_0 drawing r1 q2))) fun r3 hr3 => (ES.hoist (v_rg (rg_1 (e_len (e_var (i := 0) h0 rfl)))) fun xs4 hxs4 => (s_retO (v_fn (c := (cL .o (cL .o cI))) (e_cons hr3 (e_cons hxs4 e_nil)) (fun r5 q6 => (congrArg ff_groups (fz_cons (fz_cons fz_nil))).trans (ty_groups_0 r3 xs4 r5 q6))) (fun r7 => (h0.any rfl)) (fun r7 => rfl))))) _ (Mt.start (ds := [(cL .s (cL .s cI)) drawing]) (n := 1)))
theorem ty_behind_of_0 (drawing : (List (List Int))) : ∀ rz, Td.p_behind_of drawing = some rz → ff_behind_of [(cL .s (cL .s cI)) drawing] = some ((cL .o cI) rz) :=
  run_p (c := (cL .o cI)) (Q := fun _ => List.replicate 5 none) ((show ∀ e0 : Ow.Env, Mt [some ((cL .s (cL .s cI)) drawing), none, none, none, none] e0 → ES bb_behind_of e0 (Td.p_behind_of drawing) (fnK (cL .o cI)) (fun _ => List.replicate 5 none) from fun e0 h0 => by delta bb_behind_of Td.p_behind_of; exact (ES.hoist (v_fn (c := cI) (e_cons (e_var (i := 0) h0 rfl) e_nil) (fun r3 q4 => (congrArg ff_count_ends (fz_cons fz_nil)).trans (ty_count_ends_0 drawing r3 q4))) fun r5 hr5 => (s_setV (i := 1) (v_rep (show _ = some ((cL .o cI) [0]) from e_mk (e_cons (e_cI 0) e_nil)) hr5) h0 fun behind e1 k2 => (s_seq (s_for (xs := drawing) (s0 := behind) (Pl := fun (s8 : ((List Int))) => [some ((cL .s (cL .s cI)) drawing), some ((cL .o cI) s8), none, none, none]) (Px := fun (s8 : ((List Int))) (x7 : (List Int)) => [some ((cL .s (cL .s cI)) drawing), some ((cL .o cI) s8), some ((cL .s cI) x7), none, none]) (w_L (e_pureC (e_var (i := 0) k2 rfl))) (k2.le (le_some (le_some (le_none (le_none (le_none le_nil)))))) (fun s8 x7 => b_nm) (fun s8 x7 e9 k10 => (s_last (s_seq (s_for (xs := (enu 0 x7)) (s0 := s8) (Pl := fun (s12 : ((List Int))) => [some ((cL .s (cL .s cI)) drawing), some ((cL .o cI) s12), some ((cL .s cI) x7), none, none]) (Px := fun (s12 : ((List Int))) (x11 : (Int × Int)) => [some ((cL .s (cL .s cI)) drawing), some ((cL .o cI) s12), some ((cL .s cI) x7), some (cI x11.1), some (cI x11.2)]) (w_E (e_pureC (e_var (i := 2) k10 rfl))) (k10.le (le_some (le_some (le_some (le_none (le_none le_nil)))))) (fun s12 x11 => (b_tp (b_cons b_nm (b_cons b_nm b_nil)))) (fun s12 x11 e13 k14 => (s_last (ES.hoist (v_item (e_var (i := 2) k14 rfl) (e_sub (e_var (i := 3) (d := cI x11.1) k14 rfl) (e_cI 1))) fun v15 hv15 => (s_put (e_pure (e_var (i := 4) (d := cI x11.2) k14 rfl)) (pl_name (i := 1) k14 rfl) hv15 k14 fun behind e17 k18 => (s_skip (k18.le (le_some (le_some (le_some (le_none (le_none le_nil)))))) (Or.inl rfl))))))) fun s19 e20 k21 => (s_skip (k21.le (le_some (le_some (le_none (le_none (le_none le_nil)))))) (Or.inl rfl)))))) fun s22 e23 k24 => (s_retM (i := 1) k24 rfl (fun em hm => (hm.any rfl)) rfl))))) _ (Mt.start (ds := [(cL .s (cL .s cI)) drawing]) (n := 5)))
theorem ty_land_from_0 (behind : (List Int)) (first : Int) : ∀ rz, Td.p_land_from behind first = some rz → ff_land_from [(cL .s cI) behind, cI first] = some ((cL .o cI) rz) :=
  run_p (c := (cL .o cI)) (Q := fun _ => List.replicate 4 none) ((show ∀ e0 : Ow.Env, Mt [some ((cL .s cI) behind), some (cI first), none, none] e0 → ES bb_land_from e0 (Td.p_land_from behind first) (fnK (cL .o cI)) (fun _ => List.replicate 4 none) from fun e0 h0 => by delta bb_land_from Td.p_land_from; exact (s_let (i := 2) (ct := (cL .o cI)) (show _ = some ((cL .o cI) [first]) from e_mk (e_cons (e_pure (e_var (i := 1) h0 rfl)) e_nil)) h0 fun land e1 k2 => (ES.hoist (v_fn (c := cI) (e_cons (e_var (i := 1) k2 rfl) e_nil) (fun r5 q6 => (congrArg ff_mate_of (fz_cons fz_nil)).trans (ty_mate_of_0 first r5 q6))) fun r7 hr7 => (s_setV (i := 3) (v_pure (v_item (e_var (i := 0) k2 rfl) hr7)) k2 fun end_ e3 k4 => (s_seq (s_wh (s0 := (land, end_)) (Pl := fun (s9 : ((List Int) × Int)) => [some ((cL .s cI) behind), some (cI first), some ((cL .o cI) s9.1), some (cI s9.2)]) (k4.le (le_some (le_some (le_some (le_some le_nil))))) (fun s9 e10 k11 => (vb_p (e_B (e_ne (e_var (i := 3) (d := cI s9.2) k11 rfl) (e_var (i := 1) k11 rfl))))) (fun s9 e10 k11 => (s_app (pl_name (i := 2) k11 rfl) (e_pure (e_var (i := 3) (d := cI s9.2) k11 rfl)) k11 fun land e13 k14 => (s_last (ES.hoist (v_fn (c := cI) (e_cons (e_var (i := 3) (d := cI s9.2) k14 rfl) e_nil) (fun r17 q18 => (congrArg ff_mate_of (fz_cons fz_nil)).trans (ty_mate_of_0 s9.2 r17 q18))) fun r19 hr19 => (s_setV (i := 3) (v_pure (v_item (e_var (i := 0) k14 rfl) hr19)) k14 fun end_ e15 k16 => (s_skip (k16.le (le_some (le_some (le_some (le_some le_nil))))) (Or.inl rfl)))))))) fun s21 e22 k23 => (s_retM (i := 2) k23 rfl (fun em hm => (hm.any rfl)) rfl)))))) _ (Mt.start (ds := [(cL .s cI) behind, cI first]) (n := 4)))
theorem ty_lands_of_0 (drawing : (List (List Int))) : ∀ rz, Td.p_lands_of drawing = some rz → ff_lands_of [(cL .s (cL .s cI)) drawing] = some ((cL .o (cL .o cI)) rz) :=
  run_p (c := (cL .o (cL .o cI))) (Q := fun _ => List.replicate 8 none) ((show ∀ e0 : Ow.Env, Mt [some ((cL .s (cL .s cI)) drawing), none, none, none, none, none, none, none] e0 → ES bb_lands_of e0 (Td.p_lands_of drawing) (fnK (cL .o (cL .o cI))) (fun _ => List.replicate 8 none) from fun e0 h0 => by delta bb_lands_of Td.p_lands_of; exact (s_setV (i := 1) (v_fn (c := (cL .o cI)) (e_cons (e_var (i := 0) h0 rfl) e_nil) (fun r3 q4 => (congrArg ff_behind_of (fz_cons fz_nil)).trans (ty_behind_of_0 drawing r3 q4))) h0 fun behind e1 k2 => (s_setV (i := 2) (v_rep (show _ = some ((cL .o cB) [false]) from e_mk (e_cons (e_cB false) e_nil)) (e_len (e_var (i := 1) k2 rfl))) k2 fun seen e6 k7 => (s_let (i := 3) (ct := (cL .o (cL .o cI))) (show _ = some ((cL .o (cL .o cI)) ([] : (List (List Int)))) from e_mk e_nil) k7 fun lands e9 k10 => (ES.hoistL (w_R (rg_1 (e_len (e_var (i := 1) k10 rfl)))) fun xs11 hxs11 => (s_seq (s_for (xs := xs11) (s0 := (seen, lands)) (Pl := fun (s13 : ((List Bool) × (List (List Int)))) => [some ((cL .s (cL .s cI)) drawing), some ((cL .o cI) behind), some ((cL .o cB) s13.1), some ((cL .o (cL .o cI)) s13.2), none, none, none, none]) (Px := fun (s13 : ((List Bool) × (List (List Int)))) (x12 : Int) => [some ((cL .s (cL .s cI)) drawing), some ((cL .o cI) behind), some ((cL .o cB) s13.1), some ((cL .o (cL .o cI)) s13.2), some (cI x12), none, none, none]) hxs11 (k10.le (le_some (le_some (le_some (le_some (le_none (le_none (le_none (le_none le_nil))))))))) (fun s13 x12 => b_nm) (fun s13 x12 e14 k15 => (s_last (ES.hoist (v_item (e_var (i := 2) (d := (cL .o cB) s13.1) k15 rfl) (e_var (i := 4) k15 rfl)) fun v16 hv16 => (s_seq (s_if (Q := fun (j37 : ((List Bool) × (List (List Int)))) => [some ((cL .s (cL .s cI)) drawing), some ((cL .o cI) behind), some ((cL .o cB) j37.1), some ((cL .o (cL .o cI)) j37.2), some (cI x12), none, none, none]) (e_not (e_truB hv16)) (fun _ => (s_setV (i := 5) (v_fn (c := (cL .o cI)) (e_cons (e_var (i := 1) k15 rfl) (e_cons (e_var (i := 4) k15 rfl) e_nil)) (fun r19 q20 => (congrArg ff_land_from (fz_cons (fz_cons fz_nil))).trans (ty_land_from_0 behind x12 r19 q20))) k15 fun land e17 k18 => (s_seq (s_hide (i := 5) (c := cI) k18 rfl fun e22 k23 => s_for (xs := land) (s0 := s13.1) (Pl := fun (s25 : ((List Bool))) => [some ((cL .s (cL .s cI)) drawing), some ((cL .o cI) behind), some ((cL .o cB) s25), some ((cL .o (cL .o cI)) s13.2), some (cI x12), none, none, none]) (Px := fun (s25 : ((List Bool))) (x24 : Int) => [some ((cL .s (cL .s cI)) drawing), some ((cL .o cI) behind), some ((cL .o cB) s25), some ((cL .o (cL .o cI)) s13.2), some (cI x12), none, some (cI x24), none]) rfl (k23.le (le_some (le_some (le_some (le_some (le_some (le_none (le_none (le_none le_nil))))))))) (fun s25 x24 => b_nm) (fun s25 x24 e26 k27 => (s_last (s_put (e_cB true) (pl_name (i := 2) k27 rfl) (e_var (i := 6) k27 rfl) k27 fun seen e29 k30 => (s_skip (k30.le (le_some (le_some (le_some (le_some (le_some (le_none (le_none (le_none le_nil))))))))) (Or.inl rfl)))))) fun s31 e32 k33 => (s_last (s_appM (j := 5) (pl_name (i := 3) k33 rfl) k33 rfl fun lands e35 k36 => (s_skip (k36.le (le_some (le_some (le_some (le_some (le_some (le_none (le_none (le_none le_nil))))))))) rfl)))))) (fun _ => (s_skip (k15.le (le_some (le_some (le_some (le_some (le_some (le_none (le_none (le_none le_nil))))))))) rfl))) fun j37 e38 k39 => (s_skip (k39.le (le_some (le_some (le_some (le_some (le_none (le_none (le_none (le_none le_nil))))))))) (Or.inl rfl))))))) fun s40 e41 k42 => (s_retE (w := fun (z50 : (List (List Int))) => (z50)) (k := fun (z50 : (List (List Int))) => ((cL .o (cL .o cI)) z50, [some ((cL .s (cL .s cI)) drawing), some ((cL .o cI) behind), some ((cL .o cB) s40.1), none, none, none, none, none])) (ee_cat (t1_move (i := 3) k42 rfl) (fun e43 k44 => (v_lcp (Px := fun (x45 : (List Int)) => [some ((cL .s (cL .s cI)) drawing), some ((cL .o cI) behind), some ((cL .o cB) s40.1), none, none, none, none, some ((cL .s cI) x45)]) (w_L (e_var (i := 0) k44 rfl)) k44 (fun x45 => b_nm) (fun x45 e46 k47 => (vb_p (e_not (e_truL (e_var (i := 7) k47 rfl))))) fun x45 e46 k47 => (EV.tot (show _ = some ((cL .o cI) ([] : (List Int))) from e_mk e_nil))))) (fun z50 e52 k51 => (k51.any rfl)) (fun z50 => rfl)))))))) _ (Mt.start (ds := [(cL .s (cL .s cI)) drawing]) (n := 8)))
theorem ty_all_are_0 (numbers : (List Int)) (wanted : Int) : ∀ rz, Td.p_all_are numbers wanted = some rz → ff_all_are [(cL .s cI) numbers, cI wanted] = some (cB rz) :=
  run_p (c := cB) (Q := fun _ => List.replicate 3 none) ((show ∀ e0 : Ow.Env, Mt [some ((cL .s cI) numbers), some (cI wanted), none] e0 → ES bb_all_are e0 (Td.p_all_are numbers wanted) (fnK cB) (fun _ => List.replicate 3 none) from fun e0 h0 => by delta bb_all_are Td.p_all_are; exact (ES.hoist (v_lcm (Px := fun (x1 : Int) => [some ((cL .s cI) numbers), some (cI wanted), some (cI x1)]) (w_L (e_var (i := 0) h0 rfl)) h0 (fun x1 => b_nm) fun x1 e2 k3 => (e_eq (e_var (i := 2) k3 rfl) (e_var (i := 1) k3 rfl))) fun ys4 hys4 => (s_ret (e_all hys4) (h0.any rfl) rfl))) _ (Mt.start (ds := [(cL .s cI) numbers, cI wanted]) (n := 3)))
theorem ty_sort_of_0 (drawing : (List (List Int))) : ∀ rz, Td.p_sort_of drawing = some rz → ff_sort_of [(cL .s (cL .s cI)) drawing] = some (cS rz) :=
  run_p (c := cS) (Q := fun _ => List.replicate 5 none) ((show ∀ e0 : Ow.Env, Mt [some ((cL .s (cL .s cI)) drawing), none, none, none, none] e0 → ES bb_sort_of e0 (Td.p_sort_of drawing) (fnK cS) (fun _ => List.replicate 5 none) from fun e0 h0 => by delta bb_sort_of Td.p_sort_of; exact (ES.hoist (v_fn (c := (cL .o (cL .o cI))) (e_cons (e_var (i := 0) h0 rfl) e_nil) (fun r1 q2 => (congrArg ff_parts_of (fz_cons fz_nil)).trans (ty_parts_of_0 drawing r1 q2))) fun r3 hr3 => (s_if2 (e_B (e_eq (e_len hr3) (e_cI 1))) (fun _ => (s_assoc (s_setV (i := 1) (v_lcm (Px := fun (x6 : (List Int)) => [some ((cL .s (cL .s cI)) drawing), none, none, some ((cL .s cI) x6), none]) (w_L (e_var (i := 0) h0 rfl)) h0 (fun x6 => b_nm) fun x6 e7 k8 => (e_len (e_var (i := 3) k8 rfl))) h0 fun at_places e4 k5 => (s_assoc (ES.hoist (v_fn (c := (cL .o (cL .o cI))) (e_cons (e_var (i := 0) k5 rfl) e_nil) (fun r12 q13 => (congrArg ff_lands_of (fz_cons fz_nil)).trans (ty_lands_of_0 drawing r12 q13))) fun r14 hr14 => (s_setV (i := 2) (v_lcm (Px := fun (x15 : (List Int)) => [some ((cL .s (cL .s cI)) drawing), some ((cL .o cI) at_places), none, none, some ((cL .o cI) x15)]) (w_L hr14) k5 (fun x15 => b_nm) fun x15 e16 k17 => (e_len (e_var (i := 4) k17 rfl))) k5 fun at_lands e10 k11 => (s_assoc (ES.hoist (v_fn (c := cB) (e_cons (e_var (i := 1) k11 rfl) (e_cons (e_cI 4) e_nil)) (fun r19 q20 => (congrArg ff_all_are (fz_cons (fz_cons fz_nil))).trans (ty_all_are_0 at_places 4 r19 q20))) fun r21 hr21 => (ES.hoistB (v_and (e_truB hr21) fun _ => (EVB.hoist (v_fn (c := cB) (e_cons (e_var (i := 2) k11 rfl) (e_cons (e_cI 4) e_nil)) (fun r22 q23 => (congrArg ff_all_are (fz_cons (fz_cons fz_nil))).trans (ty_all_are_0 at_lands 4 r22 q23))) fun r24 hr24 => (vb_p (e_truB hr24)))) fun b25 hb25 => (s_ifx (e_dec hb25) (fun _ => (s_ret (show _ = some (cS (tx [102, 111, 117, 114, 115])) from rfl) (k11.any rfl) ⟨rfl, fun z => nomatch z⟩)) (fun _ => (s_sk (ES.hoist (v_fn (c := cB) (e_cons (e_var (i := 1) k11 rfl) (e_cons (e_cI 6) e_nil)) (fun r26 q27 => (congrArg ff_all_are (fz_cons (fz_cons fz_nil))).trans (ty_all_are_0 at_places 6 r26 q27))) fun r28 hr28 => (ES.hoistB (v_and (e_truB hr28) fun _ => (EVB.hoist (v_fn (c := cB) (e_cons (e_var (i := 2) k11 rfl) (e_cons (e_cI 3) e_nil)) (fun r29 q30 => (congrArg ff_all_are (fz_cons (fz_cons fz_nil))).trans (ty_all_are_0 at_lands 3 r29 q30))) fun r31 hr31 => (vb_p (e_truB hr31)))) fun b32 hb32 => (s_ifx (e_dec hb32) (fun _ => (s_ret (show _ = some (cS (tx [116, 104, 114, 101, 101, 115])) from rfl) (k11.any rfl) ⟨rfl, fun z => nomatch z⟩)) (fun _ => (s_sk s_none))))))))))))))))) (fun _ => (s_sk s_none))))) _ (Mt.start (ds := [(cL .s (cL .s cI)) drawing]) (n := 5)))
theorem ty_ring_from_0 (behind : (List Int)) (end_ : Int) : ∀ rz, Td.p_ring_from behind end_ = some rz → ff_ring_from [(cL .s cI) behind, cI end_] = some ((cL .o cI) rz) :=
  run_p (c := (cL .o cI)) (Q := fun _ => List.replicate 3 none) ((show ∀ e0 : Ow.Env, Mt [some ((cL .s cI) behind), some (cI end_), none] e0 → ES bb_ring_from e0 (Td.p_ring_from behind end_) (fnK (cL .o cI)) (fun _ => List.replicate 3 none) from fun e0 h0 => by delta bb_ring_from Td.p_ring_from; exact (s_let (i := 2) (ct := (cL .o cI)) (show _ = some ((cL .o cI) [end_]) from e_mk (e_cons (e_pure (e_var (i := 1) h0 rfl)) e_nil)) h0 fun ring e1 k2 => (s_seq (s_wh (s0 := ring) (Pl := fun (s3 : ((List Int))) => [some ((cL .s cI) behind), some (cI end_), some ((cL .o cI) s3)]) (k2.le (le_some (le_some (le_some le_nil)))) (fun s3 e4 k5 => (EVB.hoist (v_item (e_var (i := 2) k5 rfl) (e_neg (e_cI 1))) fun v6 hv6 => (EVB.hoist (v_item (e_var (i := 0) k5 rfl) hv6) fun v7 hv7 => (vb_p (e_B (e_ne hv7 (e_var (i := 1) k5 rfl))))))) (fun s3 e4 k5 => (s_last (ES.hoist (v_item (e_var (i := 2) k5 rfl) (e_neg (e_cI 1))) fun v8 hv8 => (ES.hoist (v_pure (v_item (e_var (i := 0) k5 rfl) hv8)) fun v9 hv9 => (s_app (pl_name (i := 2) k5 rfl) hv9 k5 fun ring e11 k12 => (s_skip (k12.le (le_some (le_some (le_some le_nil)))) (Or.inl rfl)))))))) fun s13 e14 k15 => (s_retM (i := 2) k15 rfl (fun em hm => (hm.any rfl)) rfl)))) _ (Mt.start (ds := [(cL .s cI) behind, cI end_]) (n := 3)))
theorem ty_straight_line_0 (behind : (List Int)) (first : Int) (size : Int) : ∀ rz, Td.p_straight_line behind first size = some rz → ff_straight_line [(cL .s cI) behind, cI first, cI size] = some ((cL .o cI) rz) :=
  run_p (c := (cL .o cI)) (Q := fun _ => List.replicate 5 none) ((show ∀ e0 : Ow.Env, Mt [some ((cL .s cI) behind), some (cI first), some (cI size), none, none] e0 → ES bb_straight_line e0 (Td.p_straight_line behind first size) (fnK (cL .o cI)) (fun _ => List.replicate 5 none) from fun e0 h0 => by delta bb_straight_line Td.p_straight_line; exact (s_let (i := 3) (ct := (cL .o cI)) (show _ = some ((cL .o cI) [first]) from e_mk (e_cons (e_pure (e_var (i := 1) h0 rfl)) e_nil)) h0 fun line e1 k2 => (ES.hoist (v_fn (c := cI) (e_cons (e_var (i := 1) k2 rfl) e_nil) (fun r5 q6 => (congrArg ff_mate_of (fz_cons fz_nil)).trans (ty_mate_of_0 first r5 q6))) fun r7 hr7 => (ES.hoist (v_fn (c := (cL .o cI)) (e_cons (e_var (i := 0) k2 rfl) (e_cons hr7 e_nil)) (fun r8 q9 => (congrArg ff_ring_from (fz_cons (fz_cons fz_nil))).trans (ty_ring_from_0 behind r7 r8 q9))) fun r10 hr10 => (s_setV (i := 4) (v_pure (v_item hr10 (e_divC (e_var (i := 2) k2 rfl) (e_cI 2)))) k2 fun end_ e3 k4 => (s_seq (s_wh (s0 := (line, end_)) (Pl := fun (s12 : ((List Int) × Int)) => [some ((cL .s cI) behind), some (cI first), some (cI size), some ((cL .o cI) s12.1), some (cI s12.2)]) (k4.le (le_some (le_some (le_some (le_some (le_some le_nil)))))) (fun s12 e13 k14 => (vb_p (e_B (e_ne (e_var (i := 4) (d := cI s12.2) k14 rfl) (e_var (i := 1) k14 rfl))))) (fun s12 e13 k14 => (s_app (pl_name (i := 3) k14 rfl) (e_pure (e_var (i := 4) (d := cI s12.2) k14 rfl)) k14 fun line e16 k17 => (s_last (ES.hoist (v_fn (c := cI) (e_cons (e_var (i := 4) (d := cI s12.2) k17 rfl) e_nil) (fun r20 q21 => (congrArg ff_mate_of (fz_cons fz_nil)).trans (ty_mate_of_0 s12.2 r20 q21))) fun r22 hr22 => (ES.hoist (v_fn (c := (cL .o cI)) (e_cons (e_var (i := 0) k17 rfl) (e_cons hr22 e_nil)) (fun r23 q24 => (congrArg ff_ring_from (fz_cons (fz_cons fz_nil))).trans (ty_ring_from_0 behind r22 r23 q24))) fun r25 hr25 => (s_setV (i := 4) (v_pure (v_item hr25 (e_divC (e_var (i := 2) k17 rfl) (e_cI 2)))) k17 fun end_ e18 k19 => (s_skip (k19.le (le_some (le_some (le_some (le_some (le_some le_nil)))))) (Or.inl rfl))))))))) fun s27 e28 k29 => (s_retM (i := 3) k29 rfl (fun em hm => (hm.any rfl)) rfl))))))) _ (Mt.start (ds := [(cL .s cI) behind, cI first, cI size]) (n := 5)))
theorem ty_upper_right_0 (behind : (List Int)) (right : Int) (clock : (List Int)) : ∀ rz, Td.p_upper_right behind right clock = some rz → ff_upper_right [(cL .s cI) behind, cI right, (cQ cI) clock] = some (cI rz) :=
  run_p (c := cI) (Q := fun _ => List.replicate 4 none) ((show ∀ e0 : Ow.Env, Mt [some ((cL .s cI) behind), some (cI right), some ((cQ cI) clock), none] e0 → ES bb_upper_right e0 (Td.p_upper_right behind right clock) (fnK cI) (fun _ => List.replicate 4 none) from fun e0 h0 => by delta bb_upper_right Td.p_upper_right; exact (ES.hoist (v_fn (c := (cL .o cI)) (e_cons (e_var (i := 0) h0 rfl) (e_cons (e_var (i := 1) h0 rfl) e_nil)) (fun r3 q4 => (congrArg ff_ring_from (fz_cons (fz_cons fz_nil))).trans (ty_ring_from_0 behind right r3 q4))) fun r5 hr5 => (ES.hoist (v_indexQ (e_var (i := 2) h0 rfl) (e_cI 2)) fun v6 hv6 => (s_setV (i := 3) (v_pure (v_item hr5 hv6)) h0 fun up e1 k2 => (ES.hoist (v_fn (c := cI) (e_cons (e_var (i := 3) k2 rfl) e_nil) (fun r8 q9 => (congrArg ff_mate_of (fz_cons fz_nil)).trans (ty_mate_of_0 up r8 q9))) fun r10 hr10 => (ES.hoist (v_fn (c := (cL .o cI)) (e_cons (e_var (i := 0) k2 rfl) (e_cons hr10 e_nil)) (fun r11 q12 => (congrArg ff_ring_from (fz_cons (fz_cons fz_nil))).trans (ty_ring_from_0 behind r10 r11 q12))) fun r13 hr13 => (s_retO (v_pure (v_item hr13 (e_neg (e_cI 1)))) (fun v14 => (k2.any rfl)) (fun v14 => rfl)))))))) _ (Mt.start (ds := [(cL .s cI) behind, cI right, (cQ cI) clock]) (n := 4)))
theorem ty_lay_by_0 (behind : (List Int)) (rights : (List Int)) (clock : (List Int)) : ∀ rz, Td.p_lay_by behind rights clock = some rz → ff_lay_by [(cL .s cI) behind, (cL .s cI) rights, (cQ cI) clock] = some ((cL .o cI) rz) :=
  run_p (c := (cL .o cI)) (Q := fun _ => List.replicate 9 none) ((show ∀ e0 : Ow.Env, Mt [some ((cL .s cI) behind), some ((cL .s cI) rights), some ((cQ cI) clock), none, none, none, none, none, none] e0 → ES bb_lay_by e0 (Td.p_lay_by behind rights clock) (fnK (cL .o cI)) (fun _ => List.replicate 9 none) from fun e0 h0 => by delta bb_lay_by Td.p_lay_by; exact (s_setV (i := 3) (v_rep (show _ = some ((cL .o cI) [0]) from e_mk (e_cons (e_cI 0) e_nil)) (e_len (e_var (i := 0) h0 rfl))) h0 fun lay e1 k2 => (s_seq (s_for (xs := (enu 0 rights)) (s0 := lay) (Pl := fun (s5 : ((List Int))) => [some ((cL .s cI) behind), some ((cL .s cI) rights), some ((cQ cI) clock), some ((cL .o cI) s5), none, none, none, none, none]) (Px := fun (s5 : ((List Int))) (x4 : (Int × Int)) => [some ((cL .s cI) behind), some ((cL .s cI) rights), some ((cQ cI) clock), some ((cL .o cI) s5), some (cI x4.1), some (cI x4.2), none, none, none]) (w_E (e_pureC (e_var (i := 1) k2 rfl))) (k2.le (le_some (le_some (le_some (le_some (le_none (le_none (le_none (le_none (le_none le_nil)))))))))) (fun s5 x4 => (b_tp (b_cons b_nm (b_cons b_nm b_nil)))) (fun s5 x4 e6 k7 => (s_last (ES.hoist (v_fn (c := (cL .o cI)) (e_cons (e_var (i := 0) k7 rfl) (e_cons (e_var (i := 5) (d := cI x4.2) k7 rfl) e_nil)) (fun r8 q9 => (congrArg ff_ring_from (fz_cons (fz_cons fz_nil))).trans (ty_ring_from_0 behind x4.2 r8 q9))) fun r10 hr10 => (s_seq (s_for (xs := (List.zip clock r10)) (s0 := s5) (Pl := fun (s12 : ((List Int))) => [some ((cL .s cI) behind), some ((cL .s cI) rights), some ((cQ cI) clock), some ((cL .o cI) s12), some (cI x4.1), some (cI x4.2), none, none, none]) (Px := fun (s12 : ((List Int))) (x11 : (Int × Int)) => [some ((cL .s cI) behind), some ((cL .s cI) rights), some ((cQ cI) clock), some ((cL .o cI) s12), some (cI x4.1), some (cI x4.2), some (cI x11.1), some (cI x11.2), none]) (w_ZTL (e_pureC (e_var (i := 2) k7 rfl)) hr10) (k7.le (le_some (le_some (le_some (le_some (le_some (le_some (le_none (le_none (le_none le_nil)))))))))) (fun s12 x11 => (b_tp (b_cons b_nm (b_cons b_nm b_nil)))) (fun s12 x11 e13 k14 => (s_last (s_seq (s_if (Q := fun (j27 : ((List Int))) => [some ((cL .s cI) behind), some ((cL .s cI) rights), some ((cQ cI) clock), some ((cL .o cI) j27), some (cI x4.1), some (cI x4.2), some (cI x11.1), some (cI x11.2), none]) (e_B (e_eq (e_modC (e_var (i := 6) (d := cI x11.1) k14 rfl) (e_cI 2)) (e_cI 0))) (fun _ => (ES.hoist (v_mul (e_lenQ (e_var (i := 2) k14 rfl)) (e_var (i := 4) (d := cI x4.1) k14 rfl)) fun v17 hv17 => (s_let (i := 8) (ct := cI) (e_add hv17 (e_var (i := 6) (d := cI x11.1) k14 rfl)) k14 fun even e15 k16 => (s_put (e_pure (e_var (i := 7) (d := cI x11.2) k16 rfl)) (pl_name (i := 3) k16 rfl) (e_var (i := 8) k16 rfl) k16 fun lay e19 k20 => (s_last (ES.hoist (v_fn (c := cI) (e_cons (e_var (i := 7) (d := cI x11.2) k20 rfl) e_nil) (fun r21 q22 => (congrArg ff_mate_of (fz_cons fz_nil)).trans (ty_mate_of_0 x11.2 r21 q22))) fun r23 hr23 => (s_put hr23 (pl_name (i := 3) k20 rfl) (e_add (e_var (i := 8) k20 rfl) (e_cI 1)) k20 fun lay e25 k26 => (s_skip (k26.le (le_some (le_some (le_some (le_some (le_some (le_some (le_some (le_some (le_none le_nil)))))))))) rfl)))))))) (fun _ => (s_skip (k14.le (le_some (le_some (le_some (le_some (le_some (le_some (le_some (le_some (le_none le_nil)))))))))) rfl))) fun j27 e28 k29 => (s_skip (k29.le (le_some (le_some (le_some (le_some (le_some (le_some (le_none (le_none (le_none le_nil)))))))))) (Or.inl rfl)))))) fun s30 e31 k32 => (s_skip (k32.le (le_some (le_some (le_some (le_some (le_none (le_none (le_none (le_none (le_none le_nil)))))))))) (Or.inl rfl))))))) fun s33 e34 k35 => (s_retM (i := 3) k35 rfl (fun em hm => (hm.any rfl)) rfl)))) _ (Mt.start (ds := [(cL .s cI) behind, (cL .s cI) rights, (cQ cI) clock]) (n := 9)))
theorem ty_read_kind_0 (drawing : (List (List Int))) (end_ : Int) : ∀ rz, Td.p_read_kind drawing end_ = some rz → ff_read_kind [(cL .s (cL .s cI)) drawing, cI end_] = some ((cT (Ow.k2 cS (Ow.k2 cI (Ow.k2 cI (Ow.k2 cI (Ow.k1 (cL .o cI))))))) rz) :=
  run_p (c := (cT (Ow.k2 cS (Ow.k2 cI (Ow.k2 cI (Ow.k2 cI (Ow.k1 (cL .o cI)))))))) (Q := fun _ => List.replicate 9 none) ((show ∀ e0 : Ow.Env, Mt [some ((cL .s (cL .s cI)) drawing), some (cI end_), none, none, none, none, none, none, none] e0 → ES bb_read_kind e0 (Td.p_read_kind drawing end_) (fnK (cT (Ow.k2 cS (Ow.k2 cI (Ow.k2 cI (Ow.k2 cI (Ow.k1 (cL .o cI)))))))) (fun _ => List.replicate 9 none) from fun e0 h0 => by delta bb_read_kind Td.p_read_kind; exact (ES.hoist (v_fn (c := cU) (e_cons (e_var (i := 0) h0 rfl) (e_cons (e_var (i := 1) h0 rfl) e_nil)) (fun r1 q2 => (congrArg ff_check_end (fz_cons (fz_cons fz_nil))).trans (ty_check_end_0 drawing end_ r1 q2))) fun r3 hr3 => (s_dropP hr3 h0 fun e4 k5 => (s_setV (i := 2) (v_fn (c := cS) (e_cons (e_var (i := 0) k5 rfl) e_nil) (fun r8 q9 => (congrArg ff_sort_of (fz_cons fz_nil)).trans (ty_sort_of_0 drawing r8 q9))) k5 fun sort e6 k7 => (s_setV (i := 3) (v_fn (c := (cL .o cI)) (e_cons (e_var (i := 0) k7 rfl) e_nil) (fun r13 q14 => (congrArg ff_behind_of (fz_cons fz_nil)).trans (ty_behind_of_0 drawing r13 q14))) k7 fun behind e11 k12 => (s_let (i := 4) (ct := (cQ cI)) (e_if (e_B (e_eq (e_var (i := 2) k12 rfl) (show _ = some (cS (tx [102, 111, 117, 114, 115])) from rfl))) (fun _ => (show _ = some (cQ cI [0, 3, 1, 2]) from rfl)) (fun _ => (show _ = some (cQ cI [0, 3, 5, 1, 2, 4]) from rfl))) k12 fun clock e16 k17 => (s_setV (i := 5) (v_fn (c := (cL .o cI)) (e_cons (e_var (i := 3) k17 rfl) (e_cons (e_var (i := 1) k17 rfl) (e_cons (e_lenQ (e_var (i := 4) k17 rfl)) e_nil))) (fun r20 q21 => (congrArg ff_straight_line (fz_cons (fz_cons (fz_cons fz_nil)))).trans (ty_straight_line_0 behind end_ (clock.length : Int) r20 q21))) k17 fun line e18 k19 => (s_let (i := 6) (ct := (cL .o cI)) (show _ = some ((cL .o cI) ([] : (List Int))) from e_mk e_nil) k19 fun rights e23 k24 => (s_let (i := 7) (ct := cI) (e_pure (e_var (i := 1) k24 rfl)) k24 fun first e25 k26 => (s_seq (s_wh (s0 := (rights, first)) (Pl := fun (s27 : ((List Int) × Int)) => [some ((cL .s (cL .s cI)) drawing), some (cI end_), some (cS sort), some ((cL .o cI) behind), some ((cQ cI) clock), some ((cL .o cI) line), some ((cL .o cI) s27.1), some (cI s27.2), none]) (k26.le (le_some (le_some (le_some (le_some (le_some (le_some (le_some (le_some (le_none le_nil)))))))))) (fun s27 e28 k29 => (vb_p (e_B (e_lt (e_len (e_var (i := 6) (d := (cL .o cI) s27.1) k29 rfl)) (e_len (e_var (i := 0) k29 rfl)))))) (fun s27 e28 k29 => (ES.hoist (v_fn (c := (cL .o cI)) (e_cons (e_var (i := 3) k29 rfl) (e_cons (e_var (i := 7) (d := cI s27.2) k29 rfl) (e_cons (e_lenQ (e_var (i := 4) k29 rfl)) e_nil))) (fun r30 q31 => (congrArg ff_straight_line (fz_cons (fz_cons (fz_cons fz_nil)))).trans (ty_straight_line_0 behind s27.2 (clock.length : Int) r30 q31))) fun r32 hr32 => (s_ext (pl_name (i := 6) k29 rfl) hr32 k29 rfl fun rights e34 k35 => (s_last (s_setV (i := 7) (v_fn (c := cI) (e_cons (e_var (i := 3) k35 rfl) (e_cons (e_var (i := 7) (d := cI s27.2) k35 rfl) (e_cons (e_var (i := 4) k35 rfl) e_nil))) (fun r38 q39 => (congrArg ff_upper_right (fz_cons (fz_cons (fz_cons fz_nil)))).trans (ty_upper_right_0 behind s27.2 clock r38 q39))) k35 fun first e36 k37 => (s_skip (k37.le (le_some (le_some (le_some (le_some (le_some (le_some (le_some (le_some (le_none le_nil)))))))))) (Or.inl rfl)))))))) fun s41 e42 k43 => (s_setV (i := 8) (v_index (e_var (i := 5) k43 rfl) (e_var (i := 7) (d := cI s41.2) k43 rfl)) k43 fun shift e44 k45 => (ES.hoist (v_div (e_len (e_var (i := 0) k45 rfl)) (e_len (e_var (i := 5) k45 rfl))) fun v47 hv47 => (ES.hoist (v_fn (c := (cL .o cI)) (e_cons (e_var (i := 3) k45 rfl) (e_cons (e_var (i := 6) (d := (cL .o cI) s41.1) k45 rfl) (e_cons (e_var (i := 4) k45 rfl) e_nil))) (fun r48 q49 => (congrArg ff_lay_by (fz_cons (fz_cons (fz_cons fz_nil)))).trans (ty_lay_by_0 behind s41.1 clock r48 q49))) fun r50 hr50 => (s_ret (show _ = some ((cT (Ow.k2 cS (Ow.k2 cI (Ow.k2 cI (Ow.k2 cI (Ow.k1 (cL .o cI))))))) (sort, v47, (line.length : Int), shift, r50)) from e_mk (e_cons (e_pureC (e_var (i := 2) k45 rfl)) (e_cons hv47 (e_cons (e_len (e_var (i := 5) k45 rfl)) (e_cons (e_pure (e_var (i := 8) k45 rfl)) (e_cons hr50 e_nil)))))) (k45.any rfl) rfl)))))))))))))) _ (Mt.start (ds := [(cL .s (cL .s cI)) drawing, cI end_]) (n := 9)))
theorem ty__law_whole_0 (found : Int) : ∀ rz, Td.l_whole found = some rz → ff__law_whole [cI found] = some (cB rz) :=
  run_p (c := cB) (Q := fun _ => List.replicate 1 none) ((show ∀ e0 : Ow.Env, Mt [some (cI found)] e0 → ES bb__law_whole e0 (Td.l_whole found) (fnK cB) (fun _ => List.replicate 1 none) from fun e0 h0 => by delta bb__law_whole Td.l_whole; exact (s_ret (e_andV (show _ = some (cB (decide True)) from (e_isi (b := true) (e_var (i := 0) h0 rfl) (show isiD "int" (cI found) = some (.bl true) from isi_of (n := "int") rfl kit_int_int))) (e_notP (show _ = some (cB (decide False)) from (e_isi (b := false) (e_var (i := 0) h0 rfl) (show isiD "bool" (cI found) = some (.bl false) from isi_of (n := "int") rfl kit_int_bool))))) (h0.any rfl) rfl)) _ (Mt.start (ds := [cI found]) (n := 1)))
theorem ty__law_told_0 (told : (Txt × Int × Int × Int × (List Int))) (sort : Txt) (numbers : (Int × Int × Int)) : ∀ rz, Td.l_told_3 told sort numbers = some rz → ff__law_told [(cT (Ow.k2 cS (Ow.k2 cI (Ow.k2 cI (Ow.k2 cI (Ow.k1 (cL .s cI))))))) told, cS sort, (cT (Ow.k2 cI (Ow.k2 cI (Ow.k1 cI)))) numbers] = some (cB rz) :=
  run_p (c := cB) (Q := fun _ => List.replicate 5 none) ((show ∀ e0 : Ow.Env, Mt [some ((cT (Ow.k2 cS (Ow.k2 cI (Ow.k2 cI (Ow.k2 cI (Ow.k1 (cL .s cI))))))) told), some (cS sort), some ((cT (Ow.k2 cI (Ow.k2 cI (Ow.k1 cI)))) numbers), none, none] e0 → ES bb__law_told e0 (Td.l_told_3 told sort numbers) (fnK cB) (fun _ => List.replicate 5 none) from fun e0 h0 => by delta bb__law_told Td.l_told_3; exact (s_ifx (e_or_f (show _ = some false from e_not (p := True) (e_B (e_isi (b := true) (e_var (i := 0) h0 rfl) (show isiD "tuple" ((cT (Ow.k2 cS (Ow.k2 cI (Ow.k2 cI (Ow.k2 cI (Ow.k1 (cL .s cI))))))) told) = some (.bl true) from isi_of (n := "tuple") rfl kit_tuple_tuple)))) (e_B (e_ne (e_lenT (n := 5) (e_var (i := 0) h0 rfl) rfl) (e_cI 5)))) (fun _ => (s_ret (e_cB false) (h0.any rfl) ⟨rfl, fun z => nomatch z⟩)) (fun _ => (s_sk (s_ifx (e_or_f (show _ = some false from e_not (p := True) (e_B (e_isi (b := true) (e_itemT (d := cS told.1) (e_var (i := 0) h0 rfl) (e_cI 0) rfl) (show isiD "str" (cS told.1) = some (.bl true) from isi_of (n := "str") rfl kit_str_str)))) (e_B (e_ne (e_itemT (d := cS told.1) (e_var (i := 0) h0 rfl) (e_cI 0) rfl) (e_var (i := 1) h0 rfl)))) (fun _ => (s_ret (e_cB false) (h0.any rfl) ⟨rfl, fun z => nomatch z⟩)) (fun _ => (s_sk (s_aft (w := fun (r_ : Bool) => r_) (s_forR (xs := (enu 0 [numbers.1, numbers.2.1, numbers.2.2])) (s0 := ()) (cr := cB) (Pr := (fun _ => List.replicate 5 none)) (Pl := fun (s2 : Unit) => [some ((cT (Ow.k2 cS (Ow.k2 cI (Ow.k2 cI (Ow.k2 cI (Ow.k1 (cL .s cI))))))) told), some (cS sort), some ((cT (Ow.k2 cI (Ow.k2 cI (Ow.k1 cI)))) numbers), none, none]) (Px := fun (s2 : Unit) (x1 : (Int × Int)) => [some ((cT (Ow.k2 cS (Ow.k2 cI (Ow.k2 cI (Ow.k2 cI (Ow.k1 (cL .s cI))))))) told), some (cS sort), some ((cT (Ow.k2 cI (Ow.k2 cI (Ow.k1 cI)))) numbers), some (cI x1.1), some (cI x1.2)]) (w_ET (show _ = some (Ow.D.n .tup (([numbers.1, numbers.2.1, numbers.2.2] : List _).map cI)) from (show _ = some ((cT (Ow.k2 cI (Ow.k2 cI (Ow.k1 cI)))) numbers) from (e_pureC (e_var (i := 2) h0 rfl))))) (h0.le (le_some (le_some (le_some (le_none (le_none le_nil)))))) (fun s2 x1 => (b_tp (b_cons b_nm (b_cons b_nm b_nil)))) (fun s2 x1 e3 k4 => (s_last (ES.hoist (v_itemTV (e_var (i := 0) k4 rfl) (e_add (e_var (i := 3) (d := cI x1.1) k4 rfl) (e_cI 1)) ⟨rfl, rfl, rfl, trivial⟩) fun v5 hv5 => (ES.hoist (v_fn (c := cB) (e_cons hv5 e_nil) (fun r6 q7 => (congrArg ff__law_whole (fz_cons fz_nil)).trans (ty__law_whole_0 v5 r6 q7))) fun r8 hr8 => (ES.hoistB (v_or (e_not (e_truB hr8)) fun _ => (EVB.hoist (v_itemTV (e_var (i := 0) k4 rfl) (e_add (e_var (i := 3) (d := cI x1.1) k4 rfl) (e_cI 1)) ⟨rfl, rfl, rfl, trivial⟩) fun v9 hv9 => (vb_p (e_B (e_ne hv9 (e_var (i := 4) (d := cI x1.2) k4 rfl)))))) fun b10 hb10 => (s_ifx (e_dec hb10) (fun _ => (s_ret (e_cB false) (k4.any rfl) ⟨rfl, fun z => nomatch z⟩)) (fun _ => (s_sk (s_skip (Q := _) (k4.le (le_some (le_some (le_some (le_none (le_none le_nil)))))) (Or.inl rfl))))))))))) (fun s11 e12 k13 => (s_ret (e_cB true) (k13.any rfl) rfl)) (fun r_ _ hr => hr) (fun r_ => rfl))))))))) _ (Mt.start (ds := [(cT (Ow.k2 cS (Ow.k2 cI (Ow.k2 cI (Ow.k2 cI (Ow.k1 (cL .s cI))))))) told, cS sort, (cT (Ow.k2 cI (Ow.k2 cI (Ow.k1 cI)))) numbers]) (n := 5)))
theorem ty__law_row_0 (found : (List Int)) (due : (List Int)) : ∀ rz, Td.l_row found due = some rz → ff__law_row [(cL .s cI) found, (cL .s cI) due] = some (cB rz) :=
  run_p (c := cB) (Q := fun _ => List.replicate 4 none) ((show ∀ e0 : Ow.Env, Mt [some ((cL .s cI) found), some ((cL .s cI) due), none, none] e0 → ES bb__law_row e0 (Td.l_row found due) (fnK cB) (fun _ => List.replicate 4 none) from fun e0 h0 => by delta bb__law_row Td.l_row; exact (s_ifx (e_or_f (show _ = some false from e_not (p := True) (e_B (e_isi (b := true) (e_var (i := 0) h0 rfl) (show isiD "list" ((cL .s cI) found) = some (.bl true) from isi_of (n := "list") rfl kit_list_list)))) (e_B (e_ne (e_len (e_var (i := 0) h0 rfl)) (e_len (e_var (i := 1) h0 rfl))))) (fun _ => (s_ret (e_cB false) (h0.any rfl) ⟨rfl, fun z => nomatch z⟩)) (fun _ => (s_sk (s_aft (w := fun (r_ : Bool) => r_) (s_forR (xs := (enu 0 due)) (s0 := ()) (cr := cB) (Pr := (fun _ => List.replicate 4 none)) (Pl := fun (s2 : Unit) => [some ((cL .s cI) found), some ((cL .s cI) due), none, none]) (Px := fun (s2 : Unit) (x1 : (Int × Int)) => [some ((cL .s cI) found), some ((cL .s cI) due), some (cI x1.1), some (cI x1.2)]) (w_E (e_pureC (e_var (i := 1) h0 rfl))) (h0.le (le_some (le_some (le_none (le_none le_nil))))) (fun s2 x1 => (b_tp (b_cons b_nm (b_cons b_nm b_nil)))) (fun s2 x1 e3 k4 => (s_last (ES.hoist (v_item (e_var (i := 0) k4 rfl) (e_var (i := 2) (d := cI x1.1) k4 rfl)) fun v5 hv5 => (ES.hoist (v_fn (c := cB) (e_cons hv5 e_nil) (fun r6 q7 => (congrArg ff__law_whole (fz_cons fz_nil)).trans (ty__law_whole_0 v5 r6 q7))) fun r8 hr8 => (ES.hoistB (v_or (e_not (e_truB hr8)) fun _ => (EVB.hoist (v_item (e_var (i := 0) k4 rfl) (e_var (i := 2) (d := cI x1.1) k4 rfl)) fun v9 hv9 => (vb_p (e_B (e_ne hv9 (e_var (i := 3) (d := cI x1.2) k4 rfl)))))) fun b10 hb10 => (s_ifx (e_dec hb10) (fun _ => (s_ret (e_cB false) (k4.any rfl) ⟨rfl, fun z => nomatch z⟩)) (fun _ => (s_sk (s_skip (Q := _) (k4.le (le_some (le_some (le_none (le_none le_nil))))) (Or.inl rfl))))))))))) (fun s11 e12 k13 => (s_ret (e_cB true) (k13.any rfl) rfl)) (fun r_ _ hr => hr) (fun r_ => rfl)))))) _ (Mt.start (ds := [(cL .s cI) found, (cL .s cI) due]) (n := 4)))
theorem ty__law_least_0 (row : (List Int)) : ∀ rz, Td.l_least_2 row = some rz → ff__law_least [(cL .s cI) row] = some ((cL .o cI) rz) :=
  run_p (c := (cL .o cI)) (Q := fun _ => List.replicate 2 none) ((show ∀ e0 : Ow.Env, Mt [some ((cL .s cI) row), none] e0 → ES bb__law_least e0 (Td.l_least_2 row) (fnK (cL .o cI)) (fun _ => List.replicate 2 none) from fun e0 h0 => by delta bb__law_least Td.l_least_2; exact (s_ifx (e_B (e_eq (e_len (e_var (i := 0) h0 rfl)) (e_cI 0))) (fun _ => (s_ret (show _ = some ((cL .o cI) ([] : (List Int))) from e_mk e_nil) (h0.any rfl) ⟨rfl, fun z => nomatch z⟩)) (fun _ => (s_sk (ES.hoist (v_min (e_var (i := 0) h0 rfl)) fun v3 hv3 => (s_setV (i := 1) (v_index (e_var (i := 0) h0 rfl) hv3) h0 fun at_ e1 k2 => (s_retO (v_cat (e_sl (e_var (i := 0) k2 rfl) (e_oYes (e_var (i := 1) k2 rfl)) e_oNo) (e_sl (e_var (i := 0) k2 rfl) e_oNo (e_oYes (e_var (i := 1) k2 rfl)))) (fun v5 => (k2.any rfl)) (fun v5 => rfl)))))))) _ (Mt.start (ds := [(cL .s cI) row]) (n := 2)))
theorem ty__law_fours_0 (r : Int) (c : Int) (s : Int) : ∀ rz, Td.l_fours_3 r c s = some rz → ff__law_fours [cI r, cI c, cI s] = some ((cL .o (cL .o cI)) rz) :=
  run_p (c := (cL .o (cL .o cI))) (Q := fun _ => List.replicate 9 none) ((show ∀ e0 : Ow.Env, Mt [some (cI r), some (cI c), some (cI s), none, none, none, none, none, none] e0 → ES bb__law_fours e0 (Td.l_fours_3 r c s) (fnK (cL .o (cL .o cI))) (fun _ => List.replicate 9 none) from fun e0 h0 => by delta bb__law_fours Td.l_fours_3; exact (s_let (i := 3) (ct := (cL .o (cL .o cI))) (show _ = some ((cL .o (cL .o cI)) ([] : (List (List Int)))) from e_mk e_nil) h0 fun told e1 k2 => (ES.hoistL (w_R (rg_1 (e_var (i := 0) k2 rfl))) fun xs3 hxs3 => (s_seq (s_for (xs := xs3) (s0 := told) (Pl := fun (s5 : ((List (List Int)))) => [some (cI r), some (cI c), some (cI s), some ((cL .o (cL .o cI)) s5), none, none, none, none, none]) (Px := fun (s5 : ((List (List Int)))) (x4 : Int) => [some (cI r), some (cI c), some (cI s), some ((cL .o (cL .o cI)) s5), some (cI x4), none, none, none, none]) hxs3 (k2.le (le_some (le_some (le_some (le_some (le_none (le_none (le_none (le_none (le_none le_nil)))))))))) (fun s5 x4 => b_nm) (fun s5 x4 e6 k7 => (s_last (ES.hoistL (w_R (rg_1 (e_var (i := 1) k7 rfl))) fun xs8 hxs8 => (s_seq (s_for (xs := xs8) (s0 := s5) (Pl := fun (s10 : ((List (List Int)))) => [some (cI r), some (cI c), some (cI s), some ((cL .o (cL .o cI)) s10), some (cI x4), none, none, none, none]) (Px := fun (s10 : ((List (List Int)))) (x9 : Int) => [some (cI r), some (cI c), some (cI s), some ((cL .o (cL .o cI)) s10), some (cI x4), some (cI x9), none, none, none]) hxs8 (k7.le (le_some (le_some (le_some (le_some (le_some (le_none (le_none (le_none (le_none le_nil)))))))))) (fun s10 x9 => b_nm) (fun s10 x9 e11 k12 => (ES.hoist (v_mul (e_var (i := 4) k12 rfl) (e_var (i := 1) k12 rfl)) fun v15 hv15 => (s_let (i := 6) (ct := cI) (e_add hv15 (e_var (i := 5) k12 rfl)) k12 fun p e13 k14 => (ES.hoist (v_mul (e_var (i := 4) k14 rfl) (e_var (i := 1) k14 rfl)) fun v18 hv18 => (ES.hoist (v_mod (e_sub (e_var (i := 5) k14 rfl) (e_cI 1)) (e_var (i := 1) k14 rfl)) fun v19 hv19 => (s_let (i := 7) (ct := cI) (e_add hv18 hv19) k14 fun left e16 k17 => (s_let (i := 8) (ct := cI) (e_sub (e_var (i := 6) k17 rfl) (e_var (i := 1) k17 rfl)) k17 fun down e20 k21 => (s_seq (s_if (Q := fun (j26 : (Int)) => [some (cI r), some (cI c), some (cI s), some ((cL .o (cL .o cI)) s10), some (cI x4), some (cI x9), some (cI p), some (cI left), some (cI j26)]) (e_B (e_eq (e_var (i := 4) k21 rfl) (e_cI 0))) (fun _ => (s_last (ES.hoist (v_mul (e_sub (e_var (i := 0) k21 rfl) (e_cI 1)) (e_var (i := 1) k21 rfl)) fun v24 hv24 => (ES.hoist (v_mod (e_sub (e_var (i := 5) k21 rfl) (e_var (i := 2) k21 rfl)) (e_var (i := 1) k21 rfl)) fun v25 hv25 => (s_let (i := 8) (ct := cI) (e_add hv24 hv25) k21 fun down e22 k23 => (s_skip (k23.le (le_some (le_some (le_some (le_some (le_some (le_some (le_some (le_some (le_some le_nil)))))))))) rfl)))))) (fun _ => (s_skip (k21.le (le_some (le_some (le_some (le_some (le_some (le_some (le_some (le_some (le_some le_nil)))))))))) rfl))) fun j26 e27 k28 => (s_last (ES.hoist (v_mul (e_cI 4) (e_var (i := 6) k28 rfl)) fun v29 hv29 => (ES.hoist (v_mul (e_cI 4) (e_var (i := 6) k28 rfl)) fun v30 hv30 => (ES.hoist (v_mul (e_cI 4) (e_var (i := 8) k28 rfl)) fun v31 hv31 => (ES.hoist (v_mul (e_cI 4) (e_var (i := 7) k28 rfl)) fun v32 hv32 => (ES.hoist (v_fn (c := (cL .o cI)) (e_cons (show _ = some ((cL .o cI) [v29 + 2, v30, v31 + 3, v32 + 1]) from e_mk (e_cons (e_add hv29 (e_cI 2)) (e_cons hv30 (e_cons (e_add hv31 (e_cI 3)) (e_cons (e_add hv32 (e_cI 1)) e_nil))))) e_nil) (fun r33 q34 => (congrArg ff__law_least (fz_cons fz_nil)).trans (ty__law_least_0 [v29 + 2, v30, v31 + 3, v32 + 1] r33 q34))) fun r35 hr35 => (s_app (pl_name (i := 3) k28 rfl) hr35 k28 fun told e37 k38 => (s_skip (k38.le (le_some (le_some (le_some (le_some (le_some (le_none (le_none (le_none (le_none le_nil)))))))))) (Or.inl rfl)))))))))))))))))) fun s39 e40 k41 => (s_skip (k41.le (le_some (le_some (le_some (le_some (le_none (le_none (le_none (le_none (le_none le_nil)))))))))) (Or.inl rfl))))))) fun s42 e43 k44 => (s_retM (i := 3) k44 rfl (fun em hm => (hm.any rfl)) rfl))))) _ (Mt.start (ds := [cI r, cI c, cI s]) (n := 9)))
theorem ty__law_down_0 (r : Int) (c : Int) (s : Int) (p : Int) : ∀ rz, Td.l_down r c s p = some rz → ff__law_down [cI r, cI c, cI s, cI p] = some (cI rz) :=
  run_p (c := cI) (Q := fun _ => List.replicate 4 none) ((show ∀ e0 : Ow.Env, Mt [some (cI r), some (cI c), some (cI s), some (cI p)] e0 → ES bb__law_down e0 (Td.l_down r c s p) (fnK cI) (fun _ => List.replicate 4 none) from fun e0 h0 => by delta bb__law_down Td.l_down; exact (s_ifx (e_B (e_ge (e_var (i := 3) h0 rfl) (e_var (i := 1) h0 rfl))) (fun _ => (s_ret (e_sub (e_var (i := 3) h0 rfl) (e_var (i := 1) h0 rfl)) (h0.any rfl) ⟨rfl, fun z => nomatch z⟩)) (fun _ => (s_sk (ES.hoist (v_mul (e_sub (e_var (i := 0) h0 rfl) (e_cI 1)) (e_var (i := 1) h0 rfl)) fun v1 hv1 => (ES.hoist (v_mod (e_sub (e_var (i := 3) h0 rfl) (e_var (i := 2) h0 rfl)) (e_var (i := 1) h0 rfl)) fun v2 hv2 => (s_ret (e_add hv1 hv2) (h0.any rfl) rfl))))))) _ (Mt.start (ds := [cI r, cI c, cI s, cI p]) (n := 4)))
theorem ty__law_threes_0 (r : Int) (c : Int) (s : Int) : ∀ rz, Td.l_threes_2 r c s = some rz → ff__law_threes [cI r, cI c, cI s] = some ((cL .o (cL .o cI)) rz) :=
  run_p (c := (cL .o (cL .o cI))) (Q := fun _ => List.replicate 9 none) ((show ∀ e0 : Ow.Env, Mt [some (cI r), some (cI c), some (cI s), none, none, none, none, none, none] e0 → ES bb__law_threes e0 (Td.l_threes_2 r c s) (fnK (cL .o (cL .o cI))) (fun _ => List.replicate 9 none) from fun e0 h0 => by delta bb__law_threes Td.l_threes_2; exact (s_let (i := 3) (ct := (cL .o (cL .o cI))) (show _ = some ((cL .o (cL .o cI)) ([] : (List (List Int)))) from e_mk e_nil) h0 fun told e1 k2 => (ES.hoist (v_mul (e_var (i := 0) k2 rfl) (e_var (i := 1) k2 rfl)) fun v3 hv3 => (ES.hoistL (w_R (rg_1 hv3)) fun xs4 hxs4 => (s_seq (s_for (xs := xs4) (s0 := told) (Pl := fun (s6 : ((List (List Int)))) => [some (cI r), some (cI c), some (cI s), some ((cL .o (cL .o cI)) s6), none, none, none, none, none]) (Px := fun (s6 : ((List (List Int)))) (x5 : Int) => [some (cI r), some (cI c), some (cI s), some ((cL .o (cL .o cI)) s6), some (cI x5), none, none, none, none]) hxs4 (k2.le (le_some (le_some (le_some (le_some (le_none (le_none (le_none (le_none (le_none le_nil)))))))))) (fun s6 x5 => b_nm) (fun s6 x5 e7 k8 => (ES.hoist (v_mod (e_var (i := 4) k8 rfl) (e_var (i := 1) k8 rfl)) fun v11 hv11 => (ES.hoist (v_mod (e_var (i := 4) k8 rfl) (e_var (i := 1) k8 rfl)) fun v12 hv12 => (ES.hoist (v_mod (e_sub hv12 (e_cI 1)) (e_var (i := 1) k8 rfl)) fun v13 hv13 => (s_let (i := 5) (ct := cI) (e_add (e_sub (e_var (i := 4) k8 rfl) hv11) hv13) k8 fun left e9 k10 => (s_setV (i := 6) (v_fn (c := cI) (e_cons (e_var (i := 0) k10 rfl) (e_cons (e_var (i := 1) k10 rfl) (e_cons (e_var (i := 2) k10 rfl) (e_cons (e_var (i := 4) k10 rfl) e_nil)))) (fun r16 q17 => (congrArg ff__law_down (fz_cons (fz_cons (fz_cons (fz_cons fz_nil))))).trans (ty__law_down_0 r c s x5 r16 q17))) k10 fun down e14 k15 => (s_setV (i := 7) (v_fn (c := cI) (e_cons (e_var (i := 0) k15 rfl) (e_cons (e_var (i := 1) k15 rfl) (e_cons (e_var (i := 2) k15 rfl) (e_cons (e_var (i := 5) k15 rfl) e_nil)))) (fun r21 q22 => (congrArg ff__law_down (fz_cons (fz_cons (fz_cons (fz_cons fz_nil))))).trans (ty__law_down_0 r c s left r21 q22))) k15 fun back e19 k20 => (ES.hoist (v_mul (e_cI 6) (e_var (i := 4) k20 rfl)) fun v26 hv26 => (ES.hoist (v_mul (e_cI 6) (e_var (i := 4) k20 rfl)) fun v27 hv27 => (ES.hoist (v_mul (e_cI 6) (e_var (i := 4) k20 rfl)) fun v28 hv28 => (ES.hoist (v_mul (e_cI 6) (e_var (i := 6) k20 rfl)) fun v29 hv29 => (ES.hoist (v_mul (e_cI 6) (e_var (i := 7) k20 rfl)) fun v30 hv30 => (ES.hoist (v_mul (e_cI 6) (e_var (i := 5) k20 rfl)) fun v31 hv31 => (s_let (i := 8) (ct := (cL .o cI)) (show _ = some ((cL .o cI) [v26 + 2, v27 + 4, v28, v29 + 3, v30 + 5, v31 + 1]) from e_mk (e_cons (e_add hv26 (e_cI 2)) (e_cons (e_add hv27 (e_cI 4)) (e_cons hv28 (e_cons (e_add hv29 (e_cI 3)) (e_cons (e_add hv30 (e_cI 5)) (e_cons (e_add hv31 (e_cI 1)) e_nil))))))) k20 fun row e24 k25 => (s_last (ES.hoist (v_fn (c := (cL .o cI)) (e_cons (e_var (i := 8) k25 rfl) e_nil) (fun r32 q33 => (congrArg ff__law_least (fz_cons fz_nil)).trans (ty__law_least_0 row r32 q33))) fun r34 hr34 => (s_app (pl_name (i := 3) k25 rfl) hr34 k25 fun told e36 k37 => (s_skip (k37.le (le_some (le_some (le_some (le_some (le_none (le_none (le_none (le_none (le_none le_nil)))))))))) (Or.inl rfl)))))))))))))))))))) fun s38 e39 k40 => (s_retM (i := 3) k40 rfl (fun em hm => (hm.any rfl)) rfl)))))) _ (Mt.start (ds := [cI r, cI c, cI s]) (n := 9)))
theorem ty__law_kind_0 (sort : Txt) (r : Int) (c : Int) (s : Int) : ∀ rz, Td.l_kind_3 sort r c s = some rz → ff__law_kind [cS sort, cI r, cI c, cI s] = some ((cL .o (cL .o cI)) rz) :=
  run_p (c := (cL .o (cL .o cI))) (Q := fun _ => List.replicate 4 none) ((show ∀ e0 : Ow.Env, Mt [some (cS sort), some (cI r), some (cI c), some (cI s)] e0 → ES bb__law_kind e0 (Td.l_kind_3 sort r c s) (fnK (cL .o (cL .o cI))) (fun _ => List.replicate 4 none) from fun e0 h0 => by delta bb__law_kind Td.l_kind_3; exact (s_ifx (e_B (e_eq (e_var (i := 0) h0 rfl) (show _ = some (cS (tx [102, 111, 117, 114, 115])) from rfl))) (fun _ => (s_retO (v_fn (c := (cL .o (cL .o cI))) (e_cons (e_var (i := 1) h0 rfl) (e_cons (e_var (i := 2) h0 rfl) (e_cons (e_var (i := 3) h0 rfl) e_nil))) (fun r1 q2 => (congrArg ff__law_fours (fz_cons (fz_cons (fz_cons fz_nil)))).trans (ty__law_fours_0 r c s r1 q2))) (fun r3 => (h0.any rfl)) (fun r3 => ⟨rfl, fun z => nomatch z⟩))) (fun _ => (s_sk (s_retO (v_fn (c := (cL .o (cL .o cI))) (e_cons (e_var (i := 1) h0 rfl) (e_cons (e_var (i := 2) h0 rfl) (e_cons (e_var (i := 3) h0 rfl) e_nil))) (fun r4 q5 => (congrArg ff__law_threes (fz_cons (fz_cons (fz_cons fz_nil)))).trans (ty__law_threes_0 r c s r4 q5))) (fun r6 => (h0.any rfl)) (fun r6 => rfl)))))) _ (Mt.start (ds := [cS sort, cI r, cI c, cI s]) (n := 4)))
theorem ty__law_rows_0 (found : (List (List Int))) (due : (List (List Int))) : ∀ rz, Td.l_rows_2 found due = some rz → ff__law_rows [(cL .s (cL .s cI)) found, (cL .s (cL .s cI)) due] = some (cB rz) :=
  run_p (c := cB) (Q := fun _ => List.replicate 4 none) ((show ∀ e0 : Ow.Env, Mt [some ((cL .s (cL .s cI)) found), some ((cL .s (cL .s cI)) due), none, none] e0 → ES bb__law_rows e0 (Td.l_rows_2 found due) (fnK cB) (fun _ => List.replicate 4 none) from fun e0 h0 => by delta bb__law_rows Td.l_rows_2; exact (s_ifx (e_or_f (show _ = some false from e_not (p := True) (e_B (e_isi (b := true) (e_var (i := 0) h0 rfl) (show isiD "list" ((cL .s (cL .s cI)) found) = some (.bl true) from isi_of (n := "list") rfl kit_list_list)))) (e_B (e_ne (e_len (e_var (i := 0) h0 rfl)) (e_len (e_var (i := 1) h0 rfl))))) (fun _ => (s_ret (e_cB false) (h0.any rfl) ⟨rfl, fun z => nomatch z⟩)) (fun _ => (s_sk (s_aft (w := fun (r_ : Bool) => r_) (s_forR (xs := (enu 0 due)) (s0 := ()) (cr := cB) (Pr := (fun _ => List.replicate 4 none)) (Pl := fun (s2 : Unit) => [some ((cL .s (cL .s cI)) found), some ((cL .s (cL .s cI)) due), none, none]) (Px := fun (s2 : Unit) (x1 : (Int × (List Int))) => [some ((cL .s (cL .s cI)) found), some ((cL .s (cL .s cI)) due), some (cI x1.1), some ((cL .s cI) x1.2)]) (w_E (e_pureC (e_var (i := 1) h0 rfl))) (h0.le (le_some (le_some (le_none (le_none le_nil))))) (fun s2 x1 => (b_tp (b_cons b_nm (b_cons b_nm b_nil)))) (fun s2 x1 e3 k4 => (s_last (ES.hoist (v_item (e_var (i := 0) k4 rfl) (e_var (i := 2) (d := cI x1.1) k4 rfl)) fun v5 hv5 => (ES.hoist (v_fn (c := cB) (e_cons hv5 (e_cons (e_var (i := 3) (d := (cL .s cI) x1.2) k4 rfl) e_nil)) (fun r6 q7 => (congrArg ff__law_row (fz_cons (fz_cons fz_nil))).trans (ty__law_row_0 v5 x1.2 r6 q7))) fun r8 hr8 => (s_ifx (e_not (e_truB hr8)) (fun _ => (s_ret (e_cB false) (k4.any rfl) ⟨rfl, fun z => nomatch z⟩)) (fun _ => (s_sk (s_skip (Q := _) (k4.le (le_some (le_some (le_none (le_none le_nil))))) (Or.inl rfl)))))))))) (fun s9 e10 k11 => (s_ret (e_cB true) (k11.any rfl) rfl)) (fun r_ _ hr => hr) (fun r_ => rfl)))))) _ (Mt.start (ds := [(cL .s (cL .s cI)) found, (cL .s (cL .s cI)) due]) (n := 4)))
theorem ty__law_lay_0 (r : Int) (c : Int) (s : Int) (place : Int) (many : Int) : ∀ rz, Td.l_lay r c s place many = some rz → ff__law_lay [cI r, cI c, cI s, cI place, cI many] = some ((cL .o cI) rz) :=
  run_p (c := (cL .o cI)) (Q := fun _ => List.replicate 12 none) ((show ∀ e0 : Ow.Env, Mt [some (cI r), some (cI c), some (cI s), some (cI place), some (cI many), none, none, none, none, none, none, none] e0 → ES bb__law_lay e0 (Td.l_lay r c s place many) (fnK (cL .o cI)) (fun _ => List.replicate 12 none) from fun e0 h0 => by delta bb__law_lay Td.l_lay; exact (s_let (i := 5) (ct := (cL .o cI)) (show _ = some ((cL .o cI) ([] : (List Int))) from e_mk e_nil) h0 fun lay e1 k2 => (ES.hoistL (w_R (rg_1 (e_var (i := 0) k2 rfl))) fun xs3 hxs3 => (s_seq (s_for (xs := xs3) (s0 := lay) (Pl := fun (s5 : ((List Int))) => [some (cI r), some (cI c), some (cI s), some (cI place), some (cI many), some ((cL .o cI) s5), none, none, none, none, none, none]) (Px := fun (s5 : ((List Int))) (x4 : Int) => [some (cI r), some (cI c), some (cI s), some (cI place), some (cI many), some ((cL .o cI) s5), some (cI x4), none, none, none, none, none]) hxs3 (k2.le (le_some (le_some (le_some (le_some (le_some (le_some (le_none (le_none (le_none (le_none (le_none (le_none le_nil))))))))))))) (fun s5 x4 => b_nm) (fun s5 x4 e6 k7 => (ES.hoist (v_mul (e_var (i := 6) k7 rfl) (e_var (i := 1) k7 rfl)) fun v10 hv10 => (s_let (i := 7) (ct := cI) (e_add (e_var (i := 3) k7 rfl) hv10) k7 fun at_ e8 k9 => (s_setV (i := 8) (v_mod (e_var (i := 7) k9 rfl) (e_var (i := 1) k9 rfl)) k9 fun first e11 k12 => (ES.hoist (v_mul (e_var (i := 0) k12 rfl) (e_var (i := 1) k12 rfl)) fun v14 hv14 => (s_seq (s_if (Q := fun (j21 : (Int × Int)) => [some (cI r), some (cI c), some (cI s), some (cI place), some (cI many), some ((cL .o cI) s5), some (cI x4), some (cI j21.1), some (cI j21.2), none, none, none]) (e_B (e_ge (e_var (i := 7) k12 rfl) hv14)) (fun _ => (ES.hoist (v_mul (e_var (i := 0) k12 rfl) (e_var (i := 1) k12 rfl)) fun v17 hv17 => (s_let (i := 7) (ct := cI) (e_sub (e_var (i := 7) k12 rfl) hv17) k12 fun at_ e15 k16 => (s_last (ES.hoist (v_mod (e_var (i := 7) k16 rfl) (e_var (i := 1) k16 rfl)) fun v20 hv20 => (s_let (i := 8) (ct := cI) (e_add hv20 (e_var (i := 2) k16 rfl)) k16 fun first e18 k19 => (s_skip (k19.le (le_some (le_some (le_some (le_some (le_some (le_some (le_some (le_some (le_some (le_none (le_none (le_none le_nil))))))))))))) rfl))))))) (fun _ => (s_skip (k12.le (le_some (le_some (le_some (le_some (le_some (le_some (le_some (le_some (le_some (le_none (le_none (le_none le_nil))))))))))))) rfl))) fun j21 e22 k23 => (s_last (ES.hoistL (w_R (rg_1 (e_var (i := 1) k23 rfl))) fun xs24 hxs24 => (s_seq (s_for (xs := xs24) (s0 := s5) (Pl := fun (s26 : ((List Int))) => [some (cI r), some (cI c), some (cI s), some (cI place), some (cI many), some ((cL .o cI) s26), some (cI x4), some (cI j21.1), some (cI j21.2), none, none, none]) (Px := fun (s26 : ((List Int))) (x25 : Int) => [some (cI r), some (cI c), some (cI s), some (cI place), some (cI many), some ((cL .o cI) s26), some (cI x4), some (cI j21.1), some (cI j21.2), some (cI x25), none, none]) hxs24 (k23.le (le_some (le_some (le_some (le_some (le_some (le_some (le_some (le_some (le_some (le_none (le_none (le_none le_nil))))))))))))) (fun s26 x25 => b_nm) (fun s26 x25 e27 k28 => (ES.hoist (v_div (e_var (i := 7) (d := cI j21.1) k28 rfl) (e_var (i := 1) k28 rfl)) fun v31 hv31 => (ES.hoist (v_mul hv31 (e_var (i := 1) k28 rfl)) fun v32 hv32 => (ES.hoist (v_mod (e_add (e_var (i := 8) (d := cI j21.2) k28 rfl) (e_var (i := 9) k28 rfl)) (e_var (i := 1) k28 rfl)) fun v33 hv33 => (s_let (i := 10) (ct := cI) (e_add hv32 hv33) k28 fun here e29 k30 => (s_last (ES.hoistL (w_R (rg_1 (e_var (i := 4) k30 rfl))) fun xs36 hxs36 => (ES.hoist (v_lcp (Px := fun (x37 : Int) => [some (cI r), some (cI c), some (cI s), some (cI place), some (cI many), some ((cL .o cI) s26), some (cI x4), some (cI j21.1), some (cI j21.2), some (cI x25), some (cI here), some (cI x37)]) hxs36 k30 (fun x37 => b_nm) (fun x37 e38 k39 => vb_yes) fun x37 e38 k39 => (EV.hoist (v_mul (e_var (i := 4) k39 rfl) (e_var (i := 10) k39 rfl)) fun v40 hv40 => (EV.tot (e_add hv40 (e_var (i := 11) k39 rfl))))) fun ys41 hys41 => (s_setV (i := 5) (v_cat (e_var (i := 5) k30 rfl) hys41) k30 fun lay e34 k35 => (s_skip (k35.le (le_some (le_some (le_some (le_some (le_some (le_some (le_some (le_some (le_some (le_none (le_none (le_none le_nil))))))))))))) (Or.inl rfl)))))))))))) fun s43 e44 k45 => (s_skip (k45.le (le_some (le_some (le_some (le_some (le_some (le_some (le_none (le_none (le_none (le_none (le_none (le_none le_nil))))))))))))) (Or.inl rfl)))))))))))) fun s46 e47 k48 => (s_retM (i := 5) k48 rfl (fun em hm => (hm.any rfl)) rfl))))) _ (Mt.start (ds := [cI r, cI c, cI s, cI place, cI many]) (n := 12)))
theorem ty_law_0 (script : (List Int)) : ∀ rz, Td.law_k38_2 script = some rz → ff_law [(cL .w cI) script] = some (cB rz) :=
  run_p (c := cB) (Q := fun _ => List.replicate 10 none) ((show ∀ e0 : Ow.Env, Mt [some ((cL .w cI) script), none, none, none, none, none, none, none, none, none] e0 → ES bb_law e0 (Td.law_k38_2 script) (fnK cB) (fun _ => List.replicate 10 none) from fun e0 h0 => by delta bb_law Td.law_k38_2; exact (s_let (i := 1) (ct := (cR .o (Ow.k2 (cL .o cI) (Ow.k2 cI (Ow.k2 cI (Ow.k1 cI)))))) (show _ = some ((cR .o (Ow.k2 (cL .o cI) (Ow.k2 cI (Ow.k2 cI (Ow.k1 cI))))) (script, 0, 0, 0)) from e_mk (e_cons (e_list (e_var (i := 0) h0 rfl)) (e_cons (e_cI 0) (e_cons (e_cI 0) (e_cons (e_cI 0) e_nil))))) h0 fun box e1 k2 => (s_setE (i := 2) (ee_itemR (show _ = some ((cL .o cS) [(tx [102, 111, 117, 114, 115]), (tx [116, 104, 114, 101, 101, 115])]) from e_mk (e_cons (show _ = some (cS (tx [102, 111, 117, 114, 115])) from rfl) (e_cons (show _ = some (cS (tx [116, 104, 114, 101, 101, 115])) from rfl) e_nil))) (ee_call0 (dr := (fun (r5 : (Int × ((List Int) × Int × Int × Int))) => cI r5.1)) (Pf := fun (r5 : (Int × ((List Int) × Int × Int × Int))) => [some ((cL .w cI) script), some ((cR .o (Ow.k2 (cL .o cI) (Ow.k2 cI (Ow.k2 cI (Ow.k1 cI))))) r5.2), none, none, none, none, none, none, none, none]) k2 rfl (ea_mv (ea_ev (e_cI 2) (ea_nil k2))) rfl (fun r5 q6 => (congrArg ff__law_take (l_cons (rfl) (l_cons (rfl) l_nil))).trans (ty__law_take_0 box 2 r5 q6)) (fun _ => by simp [NoF.no, NoFK.no]) (fun _ => rfl))) fun r7 e3 k4 => (s_let (i := 3) (ct := cI) (e_cI 4) k4 fun many e9 k10 => (s_seq (s_if (Q := fun (j13 : (Int)) => [some ((cL .w cI) script), some ((cR .o (Ow.k2 (cL .o cI) (Ow.k2 cI (Ow.k2 cI (Ow.k1 cI))))) r7.1.2), some (cS r7.2), some (cI j13), none, none, none, none, none, none]) (e_B (e_eq (e_var (i := 2) (d := cS r7.2) k10 rfl) (show _ = some (cS (tx [116, 104, 114, 101, 101, 115])) from rfl))) (fun _ => (s_last (s_let (i := 3) (ct := cI) (e_cI 6) k10 fun many e11 k12 => (s_skip (k12.le (le_some (le_some (le_some (le_some (le_none (le_none (le_none (le_none (le_none (le_none le_nil))))))))))) rfl)))) (fun _ => (s_skip (k10.le (le_some (le_some (le_some (le_some (le_none (le_none (le_none (le_none (le_none (le_none le_nil))))))))))) rfl))) fun j13 e14 k15 => (s_asgE (Pb := fun (r16 : ((Int × Int × Int) × ((List Int) × Int × Int × Int))) => [some ((cL .w cI) script), some ((cR .o (Ow.k2 (cL .o cI) (Ow.k2 cI (Ow.k2 cI (Ow.k1 cI))))) r16.2), some (cS r7.2), some (cI j13), some (cI r16.1.1), some (cI r16.1.2.1), some (cI r16.1.2.2), none, none, none]) (ee_call0 (dr := (fun (r16 : ((Int × Int × Int) × ((List Int) × Int × Int × Int))) => (cT (Ow.k2 cI (Ow.k2 cI (Ow.k1 cI)))) r16.1)) (Pf := fun (r16 : ((Int × Int × Int) × ((List Int) × Int × Int × Int))) => [some ((cL .w cI) script), some ((cR .o (Ow.k2 (cL .o cI) (Ow.k2 cI (Ow.k2 cI (Ow.k1 cI))))) r16.2), some (cS r7.2), some (cI j13), none, none, none, none, none, none]) k15 rfl (ea_mv (ea_nil k15)) rfl (fun r16 q17 => (congrArg ff__law_numbers (l_cons (rfl) l_nil)).trans (ty__law_numbers_0 r7.1.2 r16 q17)) (fun _ => by simp [NoF.no, NoFK.no]) (fun _ => rfl)) (fun r16 => (b_tp (b_cons b_nm (b_cons b_nm (b_cons b_nm b_nil))))) fun r16 e18 k19 => (ES.hoist (v_mul (e_var (i := 4) (d := cI r16.1.1) k19 rfl) (e_var (i := 5) (d := cI r16.1.2.1) k19 rfl)) fun v22 hv22 => (s_setE (i := 7) (ee_call0 (dr := (fun (r23 : (Int × ((List Int) × Int × Int × Int))) => cI r23.1)) (Pf := fun (r23 : (Int × ((List Int) × Int × Int × Int))) => [some ((cL .w cI) script), some ((cR .o (Ow.k2 (cL .o cI) (Ow.k2 cI (Ow.k2 cI (Ow.k1 cI))))) r23.2), some (cS r7.2), some (cI j13), some (cI r16.1.1), some (cI r16.1.2.1), some (cI r16.1.2.2), none, none, none]) k19 rfl (ea_mv (ea_ev hv22 (ea_nil k19))) rfl (fun r23 q24 => (congrArg ff__law_take (l_cons (rfl) (l_cons (rfl) l_nil))).trans (ty__law_take_0 r16.2 v22 r23 q24)) (fun _ => by simp [NoF.no, NoFK.no]) (fun _ => rfl)) fun r23 e20 k21 => (s_setV (i := 8) (v_fn (c := (cL .o (cL .o cI))) (e_cons (e_var (i := 4) (d := cI r16.1.1) k21 rfl) (e_cons (e_var (i := 5) (d := cI r16.1.2.1) k21 rfl) (e_cons (e_var (i := 6) (d := cI r16.1.2.2) k21 rfl) e_nil))) (fun r27 q28 => (congrArg ff_fours (fz_cons (fz_cons (fz_cons fz_nil)))).trans (ty_fours_0 r16.1.1 r16.1.2.1 r16.1.2.2 r27 q28))) k21 fun rows e25 k26 => (s_seq (s_if (Q := fun (j35 : ((List (List Int)))) => [some ((cL .w cI) script), some ((cR .o (Ow.k2 (cL .o cI) (Ow.k2 cI (Ow.k2 cI (Ow.k1 cI))))) r23.2), some (cS r7.2), some (cI j13), some (cI r16.1.1), some (cI r16.1.2.1), some (cI r16.1.2.2), some (cI r23.1), some ((cL .o (cL .o cI)) j35), none]) (e_B (e_eq (e_var (i := 2) (d := cS r7.2) k26 rfl) (show _ = some (cS (tx [116, 104, 114, 101, 101, 115])) from rfl))) (fun _ => (s_last (s_setV (i := 8) (v_fn (c := (cL .o (cL .o cI))) (e_cons (e_var (i := 4) (d := cI r16.1.1) k26 rfl) (e_cons (e_var (i := 5) (d := cI r16.1.2.1) k26 rfl) (e_cons (e_var (i := 6) (d := cI r16.1.2.2) k26 rfl) e_nil))) (fun r32 q33 => (congrArg ff_threes (fz_cons (fz_cons (fz_cons fz_nil)))).trans (ty_threes_0 r16.1.1 r16.1.2.1 r16.1.2.2 r32 q33))) k26 fun rows e30 k31 => (s_skip (k31.le (le_some (le_some (le_some (le_some (le_some (le_some (le_some (le_some (le_some (le_none le_nil))))))))))) rfl)))) (fun _ => (s_skip (k26.le (le_some (le_some (le_some (le_some (le_some (le_some (le_some (le_some (le_some (le_none le_nil))))))))))) rfl))) fun j35 e36 k37 => (s_setV (i := 9) (v_fn (c := (cT (Ow.k2 cS (Ow.k2 cI (Ow.k2 cI (Ow.k2 cI (Ow.k1 (cL .o cI)))))))) (e_cons (e_var (i := 8) k37 rfl) (e_cons (e_cI 0) e_nil)) (fun r40 q41 => (congrArg ff_read_kind (fz_cons (fz_cons fz_nil))).trans (ty_read_kind_0 j35 0 r40 q41))) k37 fun told e38 k39 => (ES.hoist (v_fn (c := cB) (e_cons (e_var (i := 9) k39 rfl) (e_cons (e_var (i := 2) (d := cS r7.2) k39 rfl) (e_cons (show _ = some ((cT (Ow.k2 cI (Ow.k2 cI (Ow.k1 cI)))) (r16.1.1, r16.1.2.1, r16.1.2.2)) from e_mk (e_cons (e_pure (e_var (i := 4) (d := cI r16.1.1) k39 rfl)) (e_cons (e_pure (e_var (i := 5) (d := cI r16.1.2.1) k39 rfl)) (e_cons (e_pure (e_var (i := 6) (d := cI r16.1.2.2) k39 rfl)) e_nil)))) e_nil))) (fun r43 q44 => (congrArg ff__law_told (fz_cons (fz_cons (fz_cons fz_nil)))).trans (ty__law_told_0 told r7.2 (r16.1.1, r16.1.2.1, r16.1.2.2) r43 q44))) fun r45 hr45 => (ES.hoistB (v_or (e_not (e_truB hr45)) fun _ => (EVB.hoist (v_mul (e_var (i := 3) k39 rfl) (e_var (i := 4) (d := cI r16.1.1) k39 rfl)) fun v46 hv46 => (EVB.hoist (v_mul hv46 (e_var (i := 5) (d := cI r16.1.2.1) k39 rfl)) fun v47 hv47 => (EVB.hoist (v_rg (rg_1 hv47)) fun xs48 hxs48 => (EVB.hoist (v_fn (c := cB) (e_cons (e_itemT (d := (cL .o cI) told.2.2.2.2) (e_var (i := 9) k39 rfl) (e_cI 4) rfl) (e_cons hxs48 e_nil)) (fun r49 q50 => (congrArg ff__law_row (fz_cons (fz_cons fz_nil))).trans (ty__law_row_0 told.2.2.2.2 xs48 r49 q50))) fun r51 hr51 => (vb_p (e_not (e_truB hr51)))))))) fun b52 hb52 => (s_ifx (e_dec hb52) (fun _ => (s_ret (e_cB false) (k39.any rfl) ⟨rfl, fun z => nomatch z⟩)) (fun _ => (s_sk (ES.hoist (v_fn (c := (cL .o (cL .o cI))) (e_cons (e_var (i := 2) (d := cS r7.2) k39 rfl) (e_cons (e_var (i := 4) (d := cI r16.1.1) k39 rfl) (e_cons (e_var (i := 5) (d := cI r16.1.2.1) k39 rfl) (e_cons (e_var (i := 6) (d := cI r16.1.2.2) k39 rfl) e_nil)))) (fun r53 q54 => (congrArg ff__law_kind (fz_cons (fz_cons (fz_cons (fz_cons fz_nil))))).trans (ty__law_kind_0 r7.2 r16.1.1 r16.1.2.1 r16.1.2.2 r53 q54))) fun r55 hr55 => (ES.hoist (v_fn (c := cB) (e_cons (e_var (i := 8) k39 rfl) (e_cons hr55 e_nil)) (fun r56 q57 => (congrArg ff__law_rows (fz_cons (fz_cons fz_nil))).trans (ty__law_rows_0 j35 r55 r56 q57))) fun r58 hr58 => (s_ifx (e_not (e_truB hr58)) (fun _ => (s_ret (e_cB false) (k39.any rfl) ⟨rfl, fun z => nomatch z⟩)) (fun _ => (s_sk (ES.hoist (v_mul (e_var (i := 3) k39 rfl) (e_var (i := 7) (d := cI r23.1) k39 rfl)) fun v61 hv61 => (s_setV (i := 9) (v_fn (c := (cT (Ow.k2 cS (Ow.k2 cI (Ow.k2 cI (Ow.k2 cI (Ow.k1 (cL .o cI)))))))) (e_cons (e_var (i := 8) k39 rfl) (e_cons hv61 e_nil)) (fun r62 q63 => (congrArg ff_read_kind (fz_cons (fz_cons fz_nil))).trans (ty_read_kind_0 j35 v61 r62 q63))) k39 fun told e59 k60 => (ES.hoist (v_fn (c := cB) (e_cons (e_var (i := 9) k60 rfl) (e_cons (e_var (i := 2) (d := cS r7.2) k60 rfl) (e_cons (show _ = some ((cT (Ow.k2 cI (Ow.k2 cI (Ow.k1 cI)))) (r16.1.1, r16.1.2.1, r16.1.2.2)) from e_mk (e_cons (e_pure (e_var (i := 4) (d := cI r16.1.1) k60 rfl)) (e_cons (e_pure (e_var (i := 5) (d := cI r16.1.2.1) k60 rfl)) (e_cons (e_pure (e_var (i := 6) (d := cI r16.1.2.2) k60 rfl)) e_nil)))) e_nil))) (fun r65 q66 => (congrArg ff__law_told (fz_cons (fz_cons (fz_cons fz_nil)))).trans (ty__law_told_0 told r7.2 (r16.1.1, r16.1.2.1, r16.1.2.2) r65 q66))) fun r67 hr67 => (s_ifx (e_not (e_truB hr67)) (fun _ => (s_ret (e_cB false) (k60.any rfl) ⟨rfl, fun z => nomatch z⟩)) (fun _ => (s_sk (ES.hoist (v_fn (c := (cL .o cI)) (e_cons (e_var (i := 4) (d := cI r16.1.1) k60 rfl) (e_cons (e_var (i := 5) (d := cI r16.1.2.1) k60 rfl) (e_cons (e_var (i := 6) (d := cI r16.1.2.2) k60 rfl) (e_cons (e_var (i := 7) (d := cI r23.1) k60 rfl) (e_cons (e_var (i := 3) k60 rfl) e_nil))))) (fun r68 q69 => (congrArg ff__law_lay (fz_cons (fz_cons (fz_cons (fz_cons (fz_cons fz_nil)))))).trans (ty__law_lay_0 r16.1.1 r16.1.2.1 r16.1.2.2 r23.1 j13 r68 q69))) fun r70 hr70 => (s_retO (v_fn (c := cB) (e_cons (e_itemT (d := (cL .o cI) told.2.2.2.2) (e_var (i := 9) k60 rfl) (e_cI 4) rfl) (e_cons hr70 e_nil)) (fun r71 q72 => (congrArg ff__law_row (fz_cons (fz_cons fz_nil))).trans (ty__law_row_0 told.2.2.2.2 r70 r71 q72))) (fun r73 => (k60.any rfl)) (fun r73 => rfl)))))))))))))))))))))))))))))) _ (Mt.start (ds := [(cL .w cI) script]) (n := 10)))
end Lw

namespace Ty
variable {α β γ σ : Type}


theorem nodup_len [DecidableEq α] : ∀ {l L : List α}, l.Nodup → (∀ x ∈ l, x ∈ L) → l.length ≤ L.length
  | [], _, _, _ => Nat.zero_le _
  | x :: l, L, hn, hs => by
    have h1 := List.nodup_cons.mp hn
    have h2 : ∀ y ∈ l, y ∈ L.erase x := fun y hy => by
      have hne : y ≠ x := fun e => h1.1 (e ▸ hy)
      exact (List.mem_erase_of_ne hne).mpr (hs y (List.mem_cons_of_mem _ hy))
    have := nodup_len h1.2 h2
    have hx := hs x (List.mem_cons_self ..)
    rw [List.length_erase_of_mem hx] at this
    have : 0 < L.length := List.length_pos_of_mem hx
    rw [List.length_cons]
    omega
theorem span_nodup (a b : Int) : (span a b).Nodup := by
  unfold span
  rw [List.nodup_iff_pairwise_ne, List.pairwise_map]
  exact List.nodup_range.imp fun h => by omega
theorem forO_via {f : σ → α → Option σ} {g : σ → γ → σ} (I : σ → Prop) : ∀ (xs : List α) (L : List γ), xs.length = L.length → (∀ k (h1 : k < xs.length) (h2 : k < L.length) s, I s → f s xs[k] = some (g s L[k]) ∧ I (g s L[k])) → ∀ s, I s → forO xs s f = some (L.foldl g s) ∧ I (L.foldl g s)
  | [], [], _, _, s, hs => ⟨rfl, hs⟩
  | x :: xs, y :: L, hl, h, s, hs => by
    have h0 := h 0 (by simp) (by simp) s hs
    simp only [List.getElem_cons_zero] at h0
    rw [forO, h0.1, Option.bind_some, List.foldl_cons]
    exact forO_via I xs L (by simpa using hl) (fun k h1 h2 s hs => by
      have := h (k + 1) (by simpa using h1) (by simpa using h2) s hs
      simpa using this) _ h0.2
theorem span_getE {a b : Int} {k : Nat} (h : k < (span a b).length) : (span a b)[k] = a + (k : Int) := by
  have := span_get (a := a) (b := b) (k := k) (by simpa using h)
  rw [List.getElem?_eq_getElem h] at this
  exact Option.some.inj this
theorem enu_getE {i : Nat} {xs : List α} {k : Nat} (h : k < (enu i xs).length) : (enu i xs)[k] = (((i + k : Nat) : Int), xs[k]'(by simpa using h)) := by
  have := enu_get i xs k
  rw [List.getElem?_eq_getElem h, List.getElem?_eq_getElem (by simpa using h)] at this
  exact Option.some.inj this
theorem sum_flat : ∀ rs : List (List α), (rs.map fun r => (r.length : Int)).sum = rs.flatten.length
  | [] => rfl
  | x :: rs => by rw [List.map_cons, List.sum_cons, sum_flat rs, List.flatten_cons, List.length_append]; omega

def least (xs : List Int) : List Int := xs.drop (xs.idxOf (xs.min?.getD 0)) ++ xs.take (xs.idxOf (xs.min?.getD 0))
theorem least_perm (xs : List Int) : (least xs).Perm xs := by
  unfold least
  refine List.perm_append_comm.trans ?_
  rw [List.take_append_drop]
@[simp] theorem least_length (xs : List Int) : (least xs).length = xs.length := (least_perm xs).length_eq
theorem least_flat : ∀ rs : List (List Int), (rs.map least).flatten.Perm rs.flatten
  | [] => .refl _
  | r :: rs => by
    rw [List.map_cons, List.flatten_cons, List.flatten_cons]
    exact (least_perm r).append (least_flat rs)
end Ty

namespace Ty

def it (f : Int → Int) : Nat → Int → Int
  | 0, x => x
  | n + 1, x => f (it f n x)
theorem it_add (f : Int → Int) : ∀ (i j : Nat) (x : Int), it f (i + j) x = it f i (it f j x)
  | 0, j, x => by rw [Nat.zero_add]; rfl
  | i + 1, j, x => by rw [Nat.add_right_comm, it, it_add f i j x, it]
def In (n : Nat) (x : Int) : Prop := 0 ≤ x ∧ x < n
structure Pm (f : Int → Int) (n : Nat) : Prop where
  mp : ∀ x, In n x → In n (f x)
  inj : ∀ x y, In n x → In n y → f x = f y → x = y
variable {f : Int → Int} {n : Nat}
theorem Pm.it (h : Pm f n) {x : Int} (hx : In n x) : ∀ i, In n (it f i x)
  | 0 => hx
  | i + 1 => h.mp _ (h.it hx i)
theorem Pm.cut (h : Pm f n) : ∀ (i : Nat) (x y : Int), In n x → In n y → Ty.it f i x = Ty.it f i y → x = y
  | 0, _, _, _, _, e => e
  | i + 1, x, y, hx, hy, e => h.cut i x y hx hy (h.inj _ _ (h.it hx i) (h.it hy i) e)
theorem least_ex {P : Nat → Prop} (h : ∃ k, P k) : ∃ k, P k ∧ ∀ j, j < k → ¬P j := by
  obtain ⟨k, hk⟩ := h
  induction k using Nat.strongRecOn with
  | _ k ih =>
    by_cases q : ∃ j, j < k ∧ P j
    · obtain ⟨j, hj, hp⟩ := q
      exact ih j hj hp
    · exact ⟨k, hk, fun j hj hp => q ⟨j, hj, hp⟩⟩
theorem pairwise_of_not_nodup {α : Type} {g : Nat → α} : ∀ m : Nat, ¬((List.range m).map g).Nodup → ∃ i j, i < j ∧ j < m ∧ g i = g j
  | 0, h => absurd (by simp) h
  | m + 1, h => by
    by_cases q : ((List.range m).map g).Nodup
    · by_cases r : g m ∈ (List.range m).map g
      · obtain ⟨i, hi, e⟩ := List.mem_map.mp r
        exact ⟨i, m, List.mem_range.mp hi, Nat.lt_succ_self m, e⟩
      · refine absurd ?_ h
        rw [List.range_succ, List.map_append, List.nodup_append]
        refine ⟨q, by simp, fun a ha b hb e => ?_⟩
        simp at hb
        subst hb e
        exact r ha
    · obtain ⟨i, j, h1, h2, h3⟩ := pairwise_of_not_nodup m q
      exact ⟨i, j, h1, by omega, h3⟩
theorem Pm.per (h : Pm f n) {x : Int} (hx : In n x) : ∃ k, 0 < k ∧ k ≤ n ∧ Ty.it f k x = x ∧ ∀ j, 0 < j → j < k → Ty.it f j x ≠ x := by
  have : ¬((List.range (n + 1)).map fun i => Ty.it f i x).Nodup := fun hn => by
    have := nodup_len (L := span 0 n) hn fun y hy => by
      obtain ⟨i, _, rfl⟩ := List.mem_map.mp hy
      have := h.it hx i
      exact mem_span.mpr this
    simp at this
    omega
  obtain ⟨i, j, h1, h2, h3⟩ := pairwise_of_not_nodup _ this
  have h4 : Ty.it f i x = Ty.it f i (Ty.it f (j - i) x) := by
    rw [← it_add, show i + (j - i) = j by omega]; exact h3
  have h5 := h.cut i _ _ hx (h.it hx _) h4
  obtain ⟨k, ⟨k1, k2⟩, k3⟩ := least_ex (P := fun k => 0 < k ∧ Ty.it f k x = x) ⟨j - i, by omega, h5.symm⟩
  refine ⟨k, k1, ?_, k2, fun j hj hk e => k3 j hk ⟨hj, e⟩⟩
  rcases Nat.lt_or_ge (j - i) k with q | q
  · exact absurd ⟨by omega, h5.symm⟩ (k3 _ q)
  · omega
def walk (f : Int → Int) (x : Int) : Nat → Int → List Int
  | 0, _ => []
  | m + 1, y => if y = x then [] else y :: walk f x m (f y)
def ring (f : Int → Int) (n : Nat) (x : Int) : List Int := x :: walk f x n (f x)
theorem walk_eq {x : Int} {k : Nat} (hk : Ty.it f k x = x) (hm : ∀ j, 0 < j → j < k → Ty.it f j x ≠ x) : ∀ (m j : Nat), 0 < j → j ≤ k → k ≤ j + m → walk f x m (Ty.it f j x) = (List.range (k - j)).map fun i => Ty.it f (j + i) x
  | 0, j, h0, h1, h2 => by
    rw [show k - j = 0 by omega]; rfl
  | m + 1, j, h0, h1, h2 => by
    rw [walk]
    by_cases q : j = k
    · subst q
      rw [if_pos hk, Nat.sub_self]; rfl
    · rw [if_neg (hm j h0 (by omega)), show f (Ty.it f j x) = Ty.it f (j + 1) x from rfl, walk_eq hk hm m (j + 1) (by omega) (by omega) (by omega), show k - j = (k - (j + 1)) + 1 by omega, List.range_succ_eq_map, List.map_cons, List.map_map]
      congr 1
      apply List.map_congr_left
      intro i _
      show Ty.it f (j + 1 + i) x = Ty.it f (j + (i + 1)) x
      rw [show j + 1 + i = j + (i + 1) by omega]
theorem Pm.ring (h : Pm f n) {x : Int} (hx : In n x) : ∃ k, 0 < k ∧ k ≤ n ∧ Ty.it f k x = x ∧ (∀ j, 0 < j → j < k → Ty.it f j x ≠ x) ∧ ring f n x = (List.range k).map fun i => Ty.it f i x := by
  obtain ⟨k, k1, k2, k3, k4⟩ := h.per hx
  refine ⟨k, k1, k2, k3, k4, ?_⟩
  unfold Ty.ring
  have := walk_eq k3 k4 n 1 (by omega) k1 (by omega)
  rw [show Ty.it f 1 x = f x from rfl] at this
  rw [this]
  obtain ⟨k', rfl⟩ : ∃ k', k = k' + 1 := ⟨k - 1, by omega⟩
  rw [List.range_succ_eq_map, List.map_cons, List.map_map]
  congr 1
  apply List.map_congr_left
  intro i _
  show Ty.it f (1 + i) x = Ty.it f (i + 1) x
  rw [Nat.add_comm]
theorem Pm.ring_in (h : Pm f n) {x y : Int} (hx : In n x) (hy : y ∈ Ty.ring f n x) : In n y := by
  obtain ⟨k, _, _, _, _, e⟩ := h.ring hx
  rw [e] at hy
  obtain ⟨i, _, rfl⟩ := List.mem_map.mp hy
  exact h.it hx i
theorem Pm.ring_back (h : Pm f n) {x y : Int} (hx : In n x) (hy : In n y) (e : f y ∈ Ty.ring f n x) : y ∈ Ty.ring f n x := by
  obtain ⟨k, k1, _, k3, _, er⟩ := h.ring hx
  rw [er] at e ⊢
  obtain ⟨i, hi, e⟩ := List.mem_map.mp e
  rw [List.mem_range] at hi
  cases i with
  | zero =>
    refine List.mem_map.mpr ⟨k - 1, List.mem_range.mpr (by omega), ?_⟩
    refine h.inj _ _ (h.it hx _) hy ?_
    show Ty.it f (k - 1 + 1) x = f y
    rw [Nat.sub_add_cancel k1, k3]
    exact e
  | succ i => exact List.mem_map.mpr ⟨i, List.mem_range.mpr (by omega), h.inj _ _ (h.it hx _) hy e⟩
theorem Pm.ring_nodup (h : Pm f n) {x : Int} (hx : In n x) : (Ty.ring f n x).Nodup := by
  obtain ⟨k, k1, _, k3, k4, e⟩ := h.ring hx
  rw [e]
  refine Classical.byContradiction fun q => ?_
  obtain ⟨i, j, h1, h2, h3⟩ := pairwise_of_not_nodup _ q
  have h4 : Ty.it f i x = Ty.it f i (Ty.it f (j - i) x) := by
    rw [← it_add, show i + (j - i) = j by omega]; exact h3
  exact k4 (j - i) (by omega) (by omega) (h.cut i _ _ hx (h.it hx _) h4).symm
theorem Pm.apart (h : Pm f n) {S : Int → Prop} (hS : ∀ y, In n y → S (f y) → S y) {x : Int} (hx : In n x) (hn : ¬S x) : ∀ i, ¬S (Ty.it f i x)
  | 0 => hn
  | i + 1 => fun q => h.apart hS hx hn i (hS _ (h.it hx i) q)
def rings (f : Int → Int) (n : Nat) : List (List Int) := (span 0 n).foldl (fun ls x => if x ∈ ls.flatten then ls else ls ++ [ring f n x]) []

def prevs : List Int → List Int
  | [] => []
  | x :: r => (x :: r).getLast (by simp) :: (x :: r).dropLast
@[simp] theorem prevs_length : ∀ row : List Int, (prevs row).length = row.length
  | [] => rfl
  | x :: r => by simp [prevs]
theorem prevs_perm : ∀ row : List Int, (prevs row).Perm row
  | [] => .refl _
  | x :: r => by
    have : ((x :: r).dropLast ++ [(x :: r).getLast (by simp)]).Perm (x :: r) := by rw [List.dropLast_concat_getLast]
    exact (List.perm_append_comm (l₁ := [(x :: r).getLast (by simp)]) (l₂ := (x :: r).dropLast)).trans this
theorem prevs_idx {row : List Int} {k : Nat} (h : k < row.length) : idx row ((k : Int) - 1) = some ((prevs row)[k]'(by simpa using h)) := by
  cases row with
  | nil => simp at h
  | cons x r =>
    cases k with
    | zero =>
      show idx (x :: r) (-1) = _
      rw [idx_last (by simp)]; rfl
    | succ k =>
      rw [show (((k + 1 : Nat) : Int) - 1) = (k : Int) by omega, idx_nat (by omega)]
      simp [prevs]
def setAll (b : List Int) (ps : List (Int × Int)) : List Int := ps.foldl (fun b p => b.set p.1.toNat p.2) b
@[simp] theorem setAll_length : ∀ (ps : List (Int × Int)) (b : List Int), (setAll b ps).length = b.length
  | [], b => rfl
  | p :: ps, b => by
    show (setAll (b.set p.1.toNat p.2) ps).length = _
    rw [setAll_length ps]; simp
theorem setAll_other {x : Int} : ∀ (ps : List (Int × Int)) (b : List Int), (∀ p ∈ ps, p.1.toNat ≠ x.toNat) → (setAll b ps)[x.toNat]? = b[x.toNat]?
  | [], b, _ => rfl
  | p :: ps, b, h => by
    show (setAll (b.set p.1.toNat p.2) ps)[x.toNat]? = _
    rw [setAll_other ps _ fun q hq => h q (List.mem_cons_of_mem _ hq), List.getElem?_set, if_neg (h p (List.mem_cons_self ..))]
theorem setAll_at {n : Nat} : ∀ (ps : List (Int × Int)) (b : List Int), b.length = n → (ps.map (·.1)).Nodup → (∀ p ∈ ps, In n p.1) → ∀ p ∈ ps, (setAll b ps)[p.1.toNat]? = some p.2
  | [], b, _, _, _, p, h => by simp at h
  | q :: ps, b, hb, hn, hi, p, h => by
    have hn' := List.nodup_cons.mp hn
    show (setAll (b.set q.1.toNat q.2) ps)[p.1.toNat]? = _
    rcases List.mem_cons.mp h with e | h
    · subst e
      have i1 := hi p (List.mem_cons_self ..)
      rw [setAll_other ps _ fun q hq e => hn'.1 (List.mem_map.mpr ⟨q, hq, by
        have i2 := hi q (List.mem_cons_of_mem _ hq)
        have := i1.1; have := i2.1
        show q.1 = p.1
        omega⟩), List.getElem?_set, if_pos rfl, if_pos (by have := i1.1; have := i1.2; omega)]
    · exact setAll_at ps _ (by simp [hb]) hn'.2 (fun p hp => hi p (List.mem_cons_of_mem _ hp)) p h
def pairsOf (rows : List (List Int)) : List (Int × Int) := rows.flatMap fun row => (prevs row).zip row
theorem pairs_fst : ∀ rows : List (List Int), ((pairsOf rows).map (·.1)).Perm rows.flatten
  | [] => .refl _
  | r :: rs => by
    show (((prevs r).zip r ++ pairsOf rs).map (·.1)).Perm _
    rw [List.map_append, List.flatten_cons, List.map_fst_zip (by simp)]
    exact (prevs_perm r).append (pairs_fst rs)
theorem pairs_snd : ∀ rows : List (List Int), (pairsOf rows).map (·.2) = rows.flatten
  | [] => rfl
  | r :: rs => by
    show ((prevs r).zip r ++ pairsOf rs).map (·.2) = _
    rw [List.map_append, List.flatten_cons, List.map_snd_zip (by simp), pairs_snd rs]
def behindL (rows : List (List Int)) : List Int := setAll (List.replicate rows.flatten.length 0) (pairsOf rows)
def Dr (n : Nat) (rows : List (List Int)) : Prop := rows.flatten.Perm (span 0 n)
theorem Dr.len {rows : List (List Int)} (h : Dr n rows) : rows.flatten.length = n := by
  have := List.Perm.length_eq h
  simpa using this
theorem Dr.in {rows : List (List Int)} (h : Dr n rows) {x : Int} : x ∈ rows.flatten ↔ In n x := by
  rw [List.Perm.mem_iff h, mem_span]; rfl
theorem Dr.nd {rows : List (List Int)} (h : Dr n rows) : rows.flatten.Nodup := (List.Perm.nodup_iff h).mpr (span_nodup _ _)
theorem behind_length (rows : List (List Int)) : (behindL rows).length = rows.flatten.length := by simp [behindL]
theorem Dr.behind {rows : List (List Int)} (h : Dr n rows) {p : Int × Int} (hp : p ∈ pairsOf rows) : (behindL rows)[p.1.toNat]? = some p.2 := by
  refine setAll_at (n := n) _ _ (by simp [h.len]) ((pairs_fst rows).nodup_iff.mpr h.nd) (fun q hq => ?_) p hp
  exact h.in.mp ((pairs_fst rows).mem_iff.mp (List.mem_map.mpr ⟨q, hq, rfl⟩))
def nx (rows : List (List Int)) (x : Int) : Int := ((behindL rows)[x.toNat]?).getD 0
theorem Dr.pair {rows : List (List Int)} (h : Dr n rows) {x : Int} (hx : In n x) : (x, nx rows x) ∈ pairsOf rows := by
  have : x ∈ (pairsOf rows).map (·.1) := (pairs_fst rows).mem_iff.mpr (h.in.mpr hx)
  obtain ⟨p, hp, rfl⟩ := List.mem_map.mp this
  have := h.behind hp
  unfold nx
  rw [this]; exact hp
theorem Dr.pm {rows : List (List Int)} (h : Dr n rows) : Pm (nx rows) n where
  mp x hx := h.in.mp (by rw [← pairs_snd]; exact List.mem_map.mpr ⟨_, h.pair hx, rfl⟩)
  inj x y hx hy e := by
    have p1 := h.pair hx
    have p2 := h.pair hy
    rw [← e] at p2
    have hn : ((pairsOf rows).map (·.2)).Nodup := by rw [pairs_snd]; exact h.nd
    exact congrArg Prod.fst (inj_snd hn p1 p2)
where
  inj_snd {ps : List (Int × Int)} (hn : (ps.map (·.2)).Nodup) {x y z : Int} (h1 : (x, z) ∈ ps) (h2 : (y, z) ∈ ps) : ((x, z) : Int × Int) = (y, z) := by
    induction ps with
    | nil => simp at h1
    | cons p ps ih =>
      have hn' := List.nodup_cons.mp hn
      rcases List.mem_cons.mp h1 with e1 | g1
      · rcases List.mem_cons.mp h2 with e2 | g2
        · rw [e1, e2]
        · rw [← e1] at hn'
          exact absurd (List.mem_map.mpr ⟨_, g2, rfl⟩) hn'.1
      · rcases List.mem_cons.mp h2 with e2 | g2
        · rw [← e2] at hn'
          exact absurd (List.mem_map.mpr ⟨_, g1, rfl⟩) hn'.1
        · exact ih hn'.2 g1 g2
theorem Dr.idx {rows : List (List Int)} (h : Dr n rows) {x : Int} (hx : In n x) : idx (behindL rows) x = some (nx rows x) := by
  have hl : (behindL rows).length = n := by rw [behind_length, h.len]
  refine idx_at hx.1 ?_
  unfold nx
  have : x.toNat < (behindL rows).length := by have := hx.1; have := hx.2; omega
  rw [List.getElem?_eq_getElem this]; rfl

def mate (x : Int) : Int := x + 1 - 2 * (x % 2)
theorem mate_in {m : Nat} {x : Int} (h : In (2 * m) x) : In (2 * m) (mate x) := by
  have h0 := h.1
  have h1 := h.2
  unfold mate
  constructor <;> omega
theorem mate_mate (x : Int) : mate (mate x) = x := by unfold mate; omega
theorem mate_inj {x y : Int} (h : mate x = mate y) : x = y := by rw [← mate_mate x, h, mate_mate]
def stp (rows : List (List Int)) (x : Int) : Int := nx rows (mate x)
theorem Dr.stp {m : Nat} {rows : List (List Int)} (h : Dr (2 * m) rows) : Pm (stp rows) (2 * m) where
  mp x hx := h.pm.mp _ (mate_in hx)
  inj x y hx hy e := mate_inj (h.pm.inj _ _ (mate_in hx) (mate_in hy) e)
def lands (rows : List (List Int)) : List (List Int) := rings (stp rows) rows.flatten.length ++ (rows.filter fun r => decide (r = [])).map fun _ => []
end Ty

namespace Td
open Ty
def l_cell (script : (List Int)) (k : Int) : Option Int :=
 if (k < (script.length : Int)) then idx script k
 else if ((script.length : Int) = 0) then pmul 7919 k
 else (pmod k (script.length : Int)).bind fun v3 =>
 (idx script v3).bind fun v4 =>
 (pmul (v4 % 1000003) 48271).bind fun v5 =>
 (pmul 7919 k).bind fun v6 =>
 some (v5 + v6)
end Td

namespace Td
open Ty
def l_mixed (cell : Int) (k : Int) : Option Int :=
 (pmul 1009 k).bind fun v3 =>
 (pmul v3 k).bind fun v4 =>
 (pmul 48611 k).bind fun v5 =>
 (ppow ((((cell % 2147483647) + v4) + v5) + 17) 5).bind fun v6 =>
 lt (v6 % 2147483647 : Int) fun one =>
 (pmul one 39373).bind fun v7 =>
 (pmul 7919 k).bind fun v8 =>
 some ((v7 + v8) % 1000000007)
end Td

namespace Td
open Ty
def l_draws (cell : Int) (sizes : (List Int)) : Option (List Int) :=
 lt (if cell < 0 then -cell else cell : Int) fun left =>
 (if (left < 1000000000000000000) then lt (0 : Int) fun left =>
 some left
 else some left : Option (Int)).bind fun j5 =>
 lt (([] : (List Int)) : (List Int)) fun row =>
 (rng 0 (sizes.length : Int)).bind fun xs10 =>
 (forO xs10 ((j5, row) : (Int × (List Int))) fun s12 x11 =>
 (if (0 < s12.1) then (idx sizes x11).bind fun v15 =>
 (pmod s12.1 v15).bind fun v16 =>
 (app s12.2 v16).bind fun row =>
 (idx sizes x11).bind fun v22 =>
 (pdiv s12.1 v22).bind fun left =>
 some (left, row)
 else (Td.l_mixed cell x11).bind fun r26 =>
 (idx sizes x11).bind fun v27 =>
 (pmod r26 v27).bind fun v28 =>
 (app s12.2 v28).bind fun row =>
 some (s12.1, row) : Option (Int × (List Int))).bind fun j32 =>
 some (j32.1, j32.2)).bind fun s35 =>
 some (s35.2)
end Td

namespace Td
open Ty
def l_rows (cell : Int) (ties : Int) (places : Int) : Option (List (List Int)) :=
 (pmul 2 ties).bind fun v3 =>
 (rng 0 v3).bind fun pool =>
 (pmul 2 ties).bind fun v7 =>
 (rng 0 v7).bind fun xs8 =>
 (lcp xs8 (fun x9 : Int => some true) fun x9 => (pmul 2 ties).bind fun v12 =>
 some (v12 - x9)).bind fun sizes =>
 (pmul 2 ties).bind fun v16 =>
 (rep [places] v16).bind fun v17 =>
 (cat sizes v17).bind fun v18 =>
 (Td.l_draws cell v18).bind fun draws =>
 (rng 0 places).bind fun xs24 =>
 (lcm xs24 fun x25 : Int => ([] : (List Int))).bind fun rows =>
 (pmul 2 ties).bind fun v29 =>
 (rng 0 v29).bind fun xs30 =>
 (forO xs30 ((pool, rows) : ((List Int) × (List (List Int)))) fun s32 x31 =>
 (pmul 2 ties).bind fun v35 =>
 (idx draws (v35 + x31)).bind fun v36 =>
 (idx s32.2 v36).bind fun z37 =>
 (idx draws x31).bind fun v38 =>
 (popI s32.1 v38).bind fun r39 => (app z37 r39.1).bind fun z40 =>
 some (r39.2, (setI s32.2 v36 z40))).bind fun s43 =>
 some (s43.2)
end Td

namespace Td
open Ty
def l_least (row : (List Int)) : Option (List Int) :=
 if ((row.length : Int) = 0) then some (([] : (List Int)))
 else (pmin row).bind fun v3 =>
 (ixOf row v3).bind fun at_ =>
 cat (sl row (some at_) none) (sl row none (some at_))
end Td

namespace Td
open Ty
theorem count_eq {rs : List (List Int)} (h : rs.length ≤ 1000000) : p_count_ends rs = some (rs.flatten.length : Int) := by
  unfold p_count_ends
  rw [lcm_ok (by omega), Option.bind_some, sum_flat]
end Td

namespace Td
open Ty
def l_behind (rows : (List (List Int))) : Option (List Int) :=
 (lcm rows fun x3 : (List Int) => (x3.length : Int)).bind fun ys6 =>
 (rep [0] ys6.sum).bind fun behind =>
 (forO rows (behind : ((List Int))) fun s9 x8 =>
 (rng 0 (x8.length : Int)).bind fun xs12 =>
 (forO xs12 (s9 : ((List Int))) fun s14 x13 =>
 (idx x8 x13).bind fun v17 =>
 (idx x8 (x13 - 1)).bind fun v18 =>
 (putI s14 v18 v17).bind fun behind =>
 some behind).bind fun s22 =>
 some s22).bind fun s25 =>
 some (s25)
end Td

namespace Td
open Ty
def l_lands (rows : (List (List Int))) : Option (List (List Int)) :=
 (Td.l_behind rows).bind fun behind =>
 lt (([] : (List (List Int))) : (List (List Int))) fun lands =>
 lt (([] : (List (Int × Bool))) : (List (Int × Bool))) fun gone =>
 (rng 0 (behind.length : Int)).bind fun xs10 =>
 (forO xs10 ((lands, gone) : ((List (List Int)) × (List (Int × Bool)))) fun s12 x11 =>
 lt (([] : (List Int)) : (List Int)) fun land =>
 lt (x11 : Int) fun end_ =>
 (whO 100000 ((s12.2, land, end_) : ((List (Int × Bool)) × (List Int) × Int)) (fun s19 => some (decide (¬dhas s19.1 s19.2.2 = true))) fun s19 =>
 (dputO s19.1 s19.2.2 true).bind fun gone =>
 (app s19.2.1 s19.2.2).bind fun land =>
 (pmul 2 (s19.2.2 % 2)).bind fun v29 =>
 (idx behind ((s19.2.2 + 1) - v29)).bind fun end_ =>
 some (gone, land, end_)).bind fun s31 =>
 (if (0 < (s31.2.1.length : Int)) then (app s12.1 s31.2.1).bind fun lands =>
 some lands
 else some s12.1 : Option ((List (List Int)))).bind fun j37 =>
 some (j37, s31.1)).bind fun s40 =>
 ((lcp rows (fun x45 : (List Int) => some (decide (((x45.length : Int) = 0)))) fun x45 => some ([] : (List Int))).bind fun ys49 => cat s40.1 ys49).bind fun z50 => some (z50)
end Td

namespace Td
open Ty
def l_land (rows : (List (List Int))) (end_ : Int) : Option (List Int) :=
 (Td.l_behind rows).bind fun behind =>
 lt ([end_] : (List Int)) fun land =>
 (pmul 2 (end_ % 2)).bind fun v10 =>
 (idx behind ((end_ + 1) - v10)).bind fun step =>
 (whO 100000 ((land, step) : ((List Int) × Int)) (fun s12 => some (decide ((s12.2 ≠ end_)))) fun s12 =>
 (app s12.1 s12.2).bind fun land =>
 (pmul 2 (s12.2 % 2)).bind fun v20 =>
 (idx behind ((s12.2 + 1) - v20)).bind fun step =>
 some (land, step)).bind fun s22 =>
 some (s22.1)
end Td

namespace Td
open Ty
theorem zip_getE {α β : Type} {xs : List α} {ys : List β} {k : Nat} (h : k < (xs.zip ys).length) : (xs.zip ys)[k] = (xs[k]'(by rw [List.length_zip] at h; omega), ys[k]'(by rw [List.length_zip] at h; omega)) := by simp
theorem row_turn {n : Nat} {row : List Int} (hr : ∀ e ∈ row, In n e) (k : Nat) (hk : k < row.length) (s : List Int) (hs : s.length = n) :
    putI s ((prevs row)[k]'(by simpa using hk)) row[k] = some (s.set ((prevs row)[k]'(by simpa using hk)).toNat row[k]) := by
  have := hr _ ((prevs_perm row).mem_iff.mp (List.getElem_mem (l := prevs row) (n := k) (by simpa using hk)))
  exact putI_ok this.1 (by rw [hs]; exact this.2)
theorem p_behind_eq {n : Nat} {rows : List (List Int)} (h : Dr n rows) (hn : n ≤ 100000) (hl : rows.length ≤ 100000) : p_behind_of rows = some (behindL rows) := by
  unfold p_behind_of
  rw [count_eq (by omega), bs, rep_one (by rw [h.len]; omega) (by omega), bs]
  have hin : ∀ r ∈ rows, ∀ e ∈ r, In n e := fun r hr e he => h.in.mp (List.mem_flatten.mpr ⟨r, hr, he⟩)
  have key := forO_via (f := fun (s8 : List Int) (x7 : List Int) => (forO (enu 0 x7) (s8 : List Int) fun s12 x11 => (idx x7 (x11.1 - 1)).bind fun v15 => (putI s12 v15 x11.2).bind fun behind => some behind).bind fun s19 => some s19) (g := fun s row => setAll s ((prevs row).zip row)) (fun s : List Int => s.length = n) rows rows rfl (fun k h1 _ s hs => by
    have hrow : rows[k] ∈ rows := List.getElem_mem h1
    have q := forO_via (f := fun (s12 : List Int) (x11 : Int × Int) => (idx rows[k] (x11.1 - 1)).bind fun v15 => (putI s12 v15 x11.2).bind fun behind => some behind) (g := fun s p => s.set p.1.toNat p.2) (fun s : List Int => s.length = n) (enu 0 rows[k]) ((prevs rows[k]).zip rows[k]) (by simp) (fun j j1 j2 s hs => by
      have hj : j < rows[k].length := by simpa using j1
      rw [enu_getE j1, zip_getE j2]
      dsimp only
      rw [show ((0 + j : Nat) : Int) = (j : Int) by omega, prevs_idx hj, bs, row_turn (hin _ hrow) j hj s hs, bs]
      exact ⟨rfl, by simp [hs]⟩) s hs
    refine ⟨?_, by simp [hs]⟩
    rw [q.1, bs]; rfl) (List.replicate rows.flatten.length 0) (by simp [h.len])
  show Option.bind (forO rows (List.replicate ((rows.flatten.length : Int).toNat) 0) _) _ = _
  rw [show ((rows.flatten.length : Int)).toNat = rows.flatten.length by omega]
  rw [key.1, bs]
  unfold behindL pairsOf setAll
  rw [List.flatMap, List.foldl_flatten, List.foldl_map]
theorem walk_ok {f : Int → Int} {n : Nat} (P : Pm f n) (hn : n < 100000) {x : Int} (hx : In n x) {c : List Int × Int → Option Bool} {g : List Int × Int → Option (List Int × Int)} (hc : ∀ s, c s = some (decide (s.2 ≠ x))) (hg : ∀ s, s.1.length ≤ n → In n s.2 → g s = some (s.1 ++ [s.2], f s.2)) :
    ∃ y, whO 100000 (([x], f x) : List Int × Int) c g = some (ring f n x, y) := by
  obtain ⟨k, k1, k2, k3, k4, e⟩ := P.ring hx
  have := whO_ok (c := c) (f := g) (fun s : List Int × Int => ∃ j, 0 < j ∧ j ≤ k ∧ s = ((List.range j).map fun i => it f i x, it f j x)) (fun s => k - s.1.length) (fun s => s.1 = ring f n x) (fun s ⟨j, j0, j1, hs⟩ => by
    subst hs
    by_cases q : it f j x = x
    · refine .inr ⟨by rw [hc]; simp [q], ?_⟩
      have : j = k := by
        rcases Nat.lt_or_ge j k with z | z
        · exact absurd q (k4 j j0 z)
        · omega
      subst this
      exact e.symm
    · refine .inl ⟨by rw [hc]; simp [q], Ok.of (hg _ (by simp; omega) (P.it hx j)) ⟨⟨j + 1, by omega, ?_, ?_⟩, ?_⟩⟩
      · rcases Nat.lt_or_ge j k with z | z
        · omega
        · exact absurd (by rw [show j = k by omega]; exact k3) q
      · rw [List.range_succ, List.map_append]; rfl
      · have : j ≠ k := fun z => q (by rw [z]; exact k3)
        simp
        omega) 100000 ([x], f x) ⟨1, by omega, k1, rfl⟩ (by dsimp only; omega)
  obtain ⟨s, h1, h2⟩ := this
  exact ⟨s.2, by rw [h1, ← h2]⟩
theorem land_from_eq {m : Nat} {rows : List (List Int)} (h : Dr (2 * m) rows) (hn : 2 * m ≤ 10000) {x : Int} (hx : In (2 * m) x) : p_land_from (behindL rows) x = some (ring (stp rows) (2 * m) x) := by
  unfold p_land_from p_mate_of
  dsimp only [Ty.lt]
  rw [bs, show x + 1 - 2 * (x % 2) = mate x from rfl, h.idx (mate_in hx), bs]
  obtain ⟨y, hy⟩ := walk_ok h.stp (by omega) hx (c := fun s9 => some (decide (s9.2 ≠ x))) (g := fun s9 => (app s9.1 s9.2).bind fun land => (some (s9.2 + 1 - 2 * (s9.2 % 2))).bind fun r19 => (idx (behindL rows) r19).bind fun end_ => some (land, end_)) (fun s => rfl) (fun s h1 h2 => by
    rw [app_ok (by omega), bs, bs, show s.2 + 1 - 2 * (s.2 % 2) = mate s.2 from rfl, h.idx (mate_in h2), bs]; rfl)
  show Option.bind (whO 100000 (([x], stp rows x) : List Int × Int) _ _) _ = _
  rw [hy, bs]
structure RF (f : Int → Int) (n : Nat) (ls : List (List Int)) : Prop where
  ne : ∀ l ∈ ls, l ≠ []
  nd : ls.flatten.Nodup
  mem : ∀ y ∈ ls.flatten, In n y
  back : ∀ y, In n y → f y ∈ ls.flatten → y ∈ ls.flatten
theorem flat_long : ∀ ls : List (List Int), (∀ l ∈ ls, l ≠ []) → ls.length ≤ ls.flatten.length
  | [], _ => Nat.le_refl _
  | l :: ls, h => by
    have := flat_long ls fun x hx => h x (List.mem_cons_of_mem _ hx)
    have h0 := List.length_pos_iff.mpr (h l (List.mem_cons_self ..))
    rw [List.length_cons, List.flatten_cons, List.length_append]
    omega
theorem RF.len {f : Int → Int} {n : Nat} {ls : List (List Int)} (h : RF f n ls) : ls.length ≤ n := by
  have h1 := flat_long ls h.ne
  have h2 := nodup_len (L := span 0 n) h.nd fun y hy => mem_span.mpr (h.mem y hy)
  rw [span_length] at h2
  omega
theorem RF.flen {f : Int → Int} {n : Nat} {ls : List (List Int)} (h : RF f n ls) : ls.flatten.length ≤ n := by
  have h2 := nodup_len (L := span 0 n) h.nd fun y hy => mem_span.mpr (h.mem y hy)
  simpa using h2
theorem RF.nil {f : Int → Int} {n : Nat} : RF f n [] := ⟨by simp, by simp, by simp, by simp⟩
theorem RF.app {f : Int → Int} {n : Nat} (P : Pm f n) {ls : List (List Int)} (h : RF f n ls) {x : Int} (hx : In n x) (hn : x ∉ ls.flatten) : RF f n (ls ++ [ring f n x]) := by
  have e : (ls ++ [ring f n x]).flatten = ls.flatten ++ ring f n x := by simp
  refine ⟨fun l hl => ?_, ?_, fun y hy => ?_, fun y hy hf => ?_⟩
  · rcases List.mem_append.mp hl with q | q
    · exact h.ne l q
    · rw [List.mem_singleton] at q
      rw [q]; exact List.cons_ne_nil _ _
  · rw [e, List.nodup_append]
    refine ⟨h.nd, P.ring_nodup hx, fun a ha b hb ab => ?_⟩
    subst ab
    obtain ⟨k, _, _, _, _, er⟩ := P.ring hx
    rw [er] at hb
    obtain ⟨i, _, rfl⟩ := List.mem_map.mp hb
    exact P.apart (S := fun y => y ∈ ls.flatten) h.back hx hn i ha
  · rw [e] at hy
    rcases List.mem_append.mp hy with q | q
    · exact h.mem y q
    · exact P.ring_in hx q
  · rw [e] at hf ⊢
    rcases List.mem_append.mp hf with q | q
    · exact List.mem_append.mpr (.inl (h.back y hy q))
    · exact List.mem_append.mpr (.inr (P.ring_back hx hy q))
theorem RF.turn {f : Int → Int} {n : Nat} (P : Pm f n) {ls : List (List Int)} (h : RF f n ls) {x : Int} (hx : In n x) : RF f n (if x ∈ ls.flatten then ls else ls ++ [ring f n x]) := by
  split
  · exact h
  · exact h.app P hx ‹_›
theorem RF.all {f : Int → Int} {n : Nat} (P : Pm f n) : ∀ (xs : List Int) (ls : List (List Int)), RF f n ls → (∀ x ∈ xs, In n x) → RF f n (xs.foldl (fun ls x => if x ∈ ls.flatten then ls else ls ++ [ring f n x]) ls)
  | [], _, h, _ => h
  | x :: xs, ls, h, hx => RF.all P xs _ (h.turn P (hx x (List.mem_cons_self ..))) fun y hy => hx y (List.mem_cons_of_mem _ hy)
theorem rings_rf {f : Int → Int} {n : Nat} (P : Pm f n) : RF f n (rings f n) := RF.all P _ [] .nil fun x hx => mem_span.mp hx
def mark (n : Nat) (S : List Int) : List Bool := (List.range n).map fun (i : Nat) => decide ((i : Int) ∈ S)
theorem mark_idx {n : Nat} {S : List Int} {x : Int} (hx : In n x) : idx (mark n S) x = some (decide (x ∈ S)) := by
  refine idx_at hx.1 ?_
  unfold mark
  have := hx.2
  have := hx.1
  rw [List.getElem?_map, List.getElem?_range (by omega), Option.map_some, show ((x.toNat : Nat) : Int) = x by omega]
theorem mark_put {n : Nat} {S : List Int} {x : Int} (hx : In n x) : putI (mark n S) x true = some (mark n (S ++ [x])) := by
  have h1 := hx.1
  have h2 := hx.2
  rw [putI_ok h1 (by simp [mark]; exact h2)]
  congr 1
  apply List.ext_getElem?
  intro j
  unfold mark
  rw [List.getElem?_set, List.getElem?_map, List.getElem?_map, List.length_map, List.length_range]
  by_cases q : j < n
  · rw [List.getElem?_range q]
    by_cases e : x.toNat = j
    · rw [if_pos e, if_pos (by omega)]
      simp only [Option.map_some]
      congr 1
      symm
      rw [decide_eq_true_iff, List.mem_append, List.mem_singleton]
      exact .inr (by omega)
    · rw [if_neg e]
      simp only [Option.map_some]
      congr 1
      rw [Bool.eq_iff_iff, decide_eq_true_iff, decide_eq_true_iff, List.mem_append, List.mem_singleton]
      exact ⟨.inl, fun z => z.elim id fun z => absurd z (by omega)⟩
  · rw [List.getElem?_eq_none (l := List.range n) (by simpa using q), if_neg (by omega)]; rfl
theorem mark_all {n : Nat} : ∀ (xs : List Int) (S : List Int), (∀ x ∈ xs, In n x) → (forO xs (mark n S : List Bool) fun s25 x24 => (putI s25 x24 true).bind fun seen => some seen) = some (mark n (S ++ xs))
  | [], S, _ => by rw [List.append_nil]; rfl
  | x :: xs, S, h => by
    rw [forO, mark_put (h x (List.mem_cons_self ..)), bs, bs, mark_all xs (S ++ [x]) fun y hy => h y (List.mem_cons_of_mem _ hy)]
    rw [List.append_assoc]; rfl
theorem p_lands_eq {m : Nat} {rows : List (List Int)} (h : Dr (2 * m) rows) (hn : 2 * m ≤ 10000) (hl : rows.length ≤ 100000) : p_lands_of rows = some (lands rows) := by
  unfold p_lands_of
  rw [p_behind_eq h (by omega) hl, bs, behind_length, h.len, rep_one (by omega) (by omega), bs]
  dsimp only [Ty.lt]
  rw [rng_ok (by omega) (by omega) (by omega) (by omega), bs]
  have e0 : List.replicate ((2 * m : Nat) : Int).toNat false = mark (2 * m) [] := by
    rw [show ((2 * m : Nat) : Int).toNat = 2 * m by omega]
    unfold mark
    simp [List.map_const']
  have P := h.stp
  have key := forO_via (f := fun (s13 : List Bool × List (List Int)) (x12 : Int) => (idx s13.1 x12).bind fun v16 => (if ¬(v16 = true) then (p_land_from (behindL rows) x12).bind fun land => (forO land (s13.1 : List Bool) fun s25 x24 => (putI s25 x24 true).bind fun seen => some seen).bind fun s31 => (app s13.2 land).bind fun lands => some (s31, lands) else some (s13.1, s13.2) : Option (List Bool × List (List Int))).bind fun j37 => some (j37.1, j37.2))
    (g := fun s x => (mark (2 * m) ((if x ∈ s.2.flatten then s.2 else s.2 ++ [ring (stp rows) (2 * m) x]).flatten), if x ∈ s.2.flatten then s.2 else s.2 ++ [ring (stp rows) (2 * m) x])) (fun s => s.1 = mark (2 * m) s.2.flatten ∧ RF (stp rows) (2 * m) s.2) (span 0 ((2 * m : Nat) : Int)) (span 0 ((2 * m : Nat) : Int)) rfl (fun k k1 _ s hs => by
      have hx : In (2 * m) (span 0 ((2 * m : Nat) : Int))[k] := mem_span.mp (List.getElem_mem k1)
      generalize (span 0 ((2 * m : Nat) : Int))[k] = x at hx
      obtain ⟨s1, s2⟩ := s
      obtain ⟨e1, R⟩ := hs
      dsimp only at e1 R
      subst e1
      refine ⟨?_, rfl, R.turn P hx⟩
      dsimp only
      rw [mark_idx hx, bs]
      by_cases q : x ∈ s2.flatten
      · rw [if_neg (by simp [q]), bs, if_pos q]
      · have hl := R.len
        rw [if_pos (by simp [q]), land_from_eq h hn hx, bs, mark_all _ _ (fun y hy => P.ring_in hx hy), bs, app_ok (by omega), bs, bs, if_neg q]
        simp) (List.replicate ((2 * m : Nat) : Int).toNat false, []) ⟨e0, .nil⟩
  rw [key.1, bs]
  have e1 : ∀ (xs : List Int) (s : List Bool × List (List Int)), (xs.foldl (fun (s : List Bool × List (List Int)) x => (mark (2 * m) ((if x ∈ s.2.flatten then s.2 else s.2 ++ [ring (stp rows) (2 * m) x]).flatten), if x ∈ s.2.flatten then s.2 else s.2 ++ [ring (stp rows) (2 * m) x])) s).2 = xs.foldl (fun ls x => if x ∈ ls.flatten then ls else ls ++ [ring (stp rows) (2 * m) x]) s.2 := by
    intro xs
    induction xs with
    | nil => intro s; rfl
    | cons x xs ih => intro s; rw [List.foldl_cons, List.foldl_cons, ih]
  rw [e1, lcp_ok (fun r : List Int => decide (r = [])) (fun _ => []) (by omega) (fun x _ => by simp) (fun _ _ _ => rfl), bs, cat_ok ?_, bs]
  · unfold lands rings
    rw [h.len]
  · have h1 := (rings_rf P).len
    unfold rings at h1
    have h2 : (rows.filter fun r => decide (r = [])).length ≤ rows.length := List.length_filter_le ..
    rw [List.length_map]
    dsimp only
    omega
def gone (S : List Int) : List (Int × Bool) := S.map fun x => (x, true)
end Td

namespace Td
open Ty
def l_seats (drawing : (List (List Int))) : Option (List (Int × Int)) :=
 lt (([] : (List (Int × Int))) : (List (Int × Int))) fun seats =>
 (rng 0 (drawing.length : Int)).bind fun xs3 =>
 (forO xs3 (seats : ((List (Int × Int)))) fun s5 x4 =>
 (idx drawing x4).bind fun v8 =>
 (forO v8 (s5 : ((List (Int × Int)))) fun s10 x9 =>
 (dputO s10 x9 x4).bind fun seats =>
 some seats).bind fun s15 =>
 some s15).bind fun s18 =>
 some (s18)
end Td

namespace Td
open Ty
def l_mate (end_ : Int) : Option Int :=
 (pmul 2 (end_ % 2)).bind fun v1 =>
 some ((end_ + 1) - v1)
end Td

namespace Td
open Ty
instance (n : Nat) (x : Int) : Decidable (In n x) := inferInstanceAs (Decidable (_ ∧ _))
theorem map_fst_pair (r : List Int) (i : Int) : (r.map fun e => (e, i)).map (·.1) = r := by
  induction r with
  | nil => rfl
  | cons x r ih => rw [List.map_cons, List.map_cons, ih]
def seatsP (i : Nat) (rows : List (List Int)) : List (Int × Int) := (enu i rows).flatMap fun x => x.2.map fun e => (e, x.1)
theorem seatsP_cons (i : Nat) (r : List Int) (rs : List (List Int)) : seatsP i (r :: rs) = r.map (fun e => (e, (i : Int))) ++ seatsP (i + 1) rs := rfl
theorem seatsP_fst : ∀ (i : Nat) (rows : List (List Int)), (seatsP i rows).map (·.1) = rows.flatten
  | _, [] => rfl
  | i, r :: rs => by rw [seatsP_cons, List.map_append, seatsP_fst (i + 1) rs, map_fst_pair, List.flatten_cons]
def hm (rows : List (List Int)) (e : Int) : Int := (((seatsP 0 rows).find? fun p => decide (p.1 = e)).map (·.2)).getD 0
theorem dget_nd {m : List (Int × Int)} (h : (m.map (·.1)).Nodup) {p : Int × Int} (hp : p ∈ m) : dget m p.1 = some p.2 := by
  unfold dget
  induction m with
  | nil => cases hp
  | cons q m ih =>
    have hn := List.nodup_cons.mp h
    rw [List.find?_cons]
    rcases List.mem_cons.mp hp with e | e
    · subst e; simp
    · have : q.1 ≠ p.1 := fun z => hn.1 (by show q.1 ∈ _; rw [z]; exact List.mem_map.mpr ⟨p, e, rfl⟩)
      simp only [this, decide_false]
      exact ih hn.2 e
theorem dget_hm {n : Nat} {rows : List (List Int)} (h : Dr n rows) {e : Int} (he : In n e) : dget (seatsP 0 rows) e = some (hm rows e) := by
  have h1 : e ∈ (seatsP 0 rows).map (·.1) := by rw [seatsP_fst]; exact h.in.mpr he
  obtain ⟨p, hp, rfl⟩ := List.mem_map.mp h1
  have h2 := dget_nd (by rw [seatsP_fst]; exact h.nd) hp
  rw [h2]
  unfold hm
  show _ = some ((dget (seatsP 0 rows) p.1).getD 0)
  rw [h2]; rfl
theorem hm_row {n : Nat} {rows : List (List Int)} (h : Dr n rows) {e : Int} {i : Nat} (hi : i < rows.length) (he : e ∈ rows[i]) : hm rows e = (i : Int) := by
  have hin : In n e := h.in.mp (List.mem_flatten.mpr ⟨_, List.getElem_mem hi, he⟩)
  have key : ∀ (k : Nat) (rs : List (List Int)) (i : Nat) (hi : i < rs.length), e ∈ rs[i] → (e, ((k + i : Nat) : Int)) ∈ seatsP k rs := by
    intro k rs
    induction rs generalizing k with
    | nil => intro i hi; simp at hi
    | cons r rs ih =>
      intro i hi he
      rw [seatsP_cons]
      cases i with
      | zero => exact List.mem_append_left _ (List.mem_map.mpr ⟨e, by simpa using he, by simp⟩)
      | succ i =>
        refine List.mem_append_right _ ?_
        have := ih (k + 1) i (by simpa using hi) (by simpa using he)
        rw [show k + (i + 1) = k + 1 + i by omega]; exact this
  have h1 := key 0 rows i hi he
  have h2 := dget_nd (by rw [seatsP_fst]; exact h.nd) h1
  rw [show (0 + i : Nat) = i by omega] at h2
  have h3 := dget_hm h hin
  rw [h2] at h3
  exact (Option.some.inj h3).symm
theorem hm_in {n : Nat} {rows : List (List Int)} (h : Dr n rows) {e : Int} (he : In n e) : ∃ i, ∃ hi : i < rows.length, hm rows e = (i : Int) ∧ e ∈ rows[i] := by
  obtain ⟨r, hr, h2⟩ := List.mem_flatten.mp (h.in.mpr he)
  obtain ⟨i, hi, rfl⟩ := List.getElem_of_mem hr
  exact ⟨i, hi, hm_row h hi h2, h2⟩
theorem hm_rg {n : Nat} {rows : List (List Int)} (h : Dr n rows) {e : Int} (he : In n e) : 0 ≤ hm rows e ∧ hm rows e < rows.length := by
  obtain ⟨i, hi, e1, _⟩ := hm_in h he
  rw [e1]; omega

theorem put_seats (i : Int) : ∀ (row : List Int) (b : List Int), (∀ e ∈ row, In b.length e) → forO row b (fun s14 x13 => (putI s14 x13 i).bind fun homes => some homes) = some (setAll b (row.map fun e => (e, i)))
  | [], b, _ => rfl
  | x :: row, b, h => by
    have hx := h x (List.mem_cons_self ..)
    rw [forO, putI_ok hx.1 hx.2, bs, bs, put_seats i row _ fun e he => by rw [List.length_set]; exact h e (List.mem_cons_of_mem _ he)]
    rfl
theorem homes_go : ∀ (rest : List (List Int)) (i : Nat) (b : List Int), (∀ e ∈ rest.flatten, In b.length e) → forO (enu i rest) b (fun s8 x7 => (forO x7.2 (s8 : (List Int)) fun s14 x13 => (putI s14 x13 x7.1).bind fun homes => some homes).bind fun s20 => some s20) = some (setAll b (seatsP i rest))
  | [], i, b, _ => rfl
  | r :: rest, i, b, h => by
    rw [enu, forO]
    dsimp only
    rw [put_seats _ r b fun e he => h e (List.mem_flatten.mpr ⟨r, List.mem_cons_self .., he⟩), bs, bs, homes_go rest (i + 1) _ fun e he => by
      rw [setAll_length]
      rw [List.flatten_cons] at h
      exact h e (List.mem_append_right _ he)]
    rw [seatsP_cons, setAll, setAll, setAll, List.foldl_append]
def homesL (rows : List (List Int)) : List Int := setAll (List.replicate rows.flatten.length 0) (seatsP 0 rows)
theorem homes_eq {n : Nat} {rows : List (List Int)} (h : Dr n rows) (hn : n ≤ 100000) (hl : rows.length ≤ 100000) : p_homes_of rows = some (homesL rows) := by
  unfold p_homes_of
  rw [count_eq (by omega), bs, rep_one (by rw [h.len]; omega) (by omega), bs, homes_go rows 0 _ fun e he => by
    have := h.in.mp he
    simp only [List.length_replicate]
    rw [h.len]
    exact this]
  rw [bs]
  unfold homesL
  simp
theorem homes_idx {n : Nat} {rows : List (List Int)} (h : Dr n rows) {e : Int} (he : In n e) : idx (homesL rows) e = some (hm rows e) := by
  obtain ⟨p, hp, rfl⟩ := List.mem_map.mp (show e ∈ (seatsP 0 rows).map (·.1) by rw [seatsP_fst]; exact h.in.mpr he)
  refine idx_at he.1 ?_
  have h1 := setAll_at (n := n) (seatsP 0 rows) (List.replicate rows.flatten.length 0) (by simp [h.len]) (by rw [seatsP_fst]; exact h.nd) (fun q hq => h.in.mp (by rw [← seatsP_fst 0]; exact List.mem_map.mpr ⟨q, hq, rfl⟩)) p hp
  unfold homesL
  rw [h1]
  have h2 := dget_nd (by rw [seatsP_fst]; exact h.nd) hp
  rw [dget_hm h he] at h2
  exact h2.symm
theorem p_mate_eq (x : Int) : p_mate_of x = some (mate x) := rfl
end Td

namespace Td
open Ty
def p_between (behind : (List Int)) (one : Int) (other : Int) : Option (List Int) :=
 lt (([] : (List Int)) : (List Int)) fun found =>
 (idx behind one).bind fun end_ =>
 (whO 100000 ((found, end_) : ((List Int) × Int)) (fun s6 => some (decide ((s6.2 ≠ other)))) fun s6 =>
 (app s6.1 s6.2).bind fun found =>
 (idx behind s6.2).bind fun end_ =>
 some (found, end_)).bind fun s15 =>
 some (s15.1)
end Td

namespace Td
open Ty
def p_visits_of (walk_ : (List Int)) : Option (List (Int × Int)) :=
 lcp (enu 0 walk_) (fun x1 : (Int × Int) => some true) fun x1 => (idx walk_ (x1.1 - 1)).bind fun v4 =>
 (Td.p_mate_of v4).bind fun r7 =>
 some (r7, x1.2)
end Td

namespace Td
open Ty
theorem nx_row {n : Nat} {rows : List (List Int)} (h : Dr n rows) {row : List Int} (hr : row ∈ rows) {j : Nat} (hj : j < row.length) : nx rows row[j] = row[(j + 1) % row.length]'(Nat.mod_lt _ (by omega)) := by
  have hk : (j + 1) % row.length < row.length := Nat.mod_lt _ (by omega)
  have e1 := prevs_idx hk
  have e2 : (prevs row)[(j + 1) % row.length]'(by simpa using hk) = row[j] := by
    by_cases q : j + 1 < row.length
    · have : (j + 1) % row.length = j + 1 := Nat.mod_eq_of_lt q
      simp only [this] at e1 ⊢
      rw [show (((j + 1 : Nat) : Int) - 1) = (j : Int) by omega, idx_nat hj] at e1
      exact (Option.some.inj e1).symm
    · have : (j + 1) % row.length = 0 := by rw [show j + 1 = row.length by omega]; exact Nat.mod_self _
      simp only [this] at e1 ⊢
      have hn : row ≠ [] := fun z => by rw [z] at hj; simp at hj
      rw [show (((0 : Nat) : Int) - 1) = (-1 : Int) by omega, idx_last hn, List.getLast_eq_getElem] at e1
      have := (Option.some.inj e1).symm
      rw [this]
      congr 1
      omega
  have e3 : ((prevs row)[(j + 1) % row.length]'(by simpa using hk), row[(j + 1) % row.length]) ∈ pairsOf rows := by
    unfold pairsOf
    refine List.mem_flatMap.mpr ⟨row, hr, ?_⟩
    have := List.getElem_mem (l := (prevs row).zip row) (n := (j + 1) % row.length) (by simpa using hk)
    rwa [zip_getE] at this
  have e4 := h.behind e3
  rw [e2] at e4
  unfold nx
  rw [e4]; rfl
def far (n p r : Nat) : Nat := if p < r then r - p else r + n - p
def btw (row : List Int) (p q : Nat) : List Int := (List.range (far row.length p q - 1)).map fun t => row.getD ((p + 1 + t) % row.length) 0
def ah (p q : Nat) : Int := if p < q then 1 else 0
end Td

namespace Td
open Ty
def Bx (n : Int) (b : List Int × Int × Int × Int) : Prop := 0 ≤ b.2.1 ∧ 0 ≤ b.2.2.1 ∧ 0 ≤ b.2.2.2 ∧ b.2.2.2 ≤ n
theorem Bx.mono {n m : Int} {b : List Int × Int × Int × Int} (h : Bx n b) (e : n ≤ m) : Bx m b := ⟨h.1, h.2.1, h.2.2.1, Int.le_trans h.2.2.2 e⟩
theorem Bx.start {ns : List Int} : Bx 0 (ns, 0, 0, 0) := ⟨by simp, by simp, by simp, by simp⟩
theorem mixedT_ok {cell k many : Int} (h0 : 0 ≤ k) (h1 : k ≤ 2 ^ 40) (hm : 0 < many) : Ok (l_mixed_2 cell k many) fun r => 0 ≤ r ∧ r < many := by
  unfold l_mixed_2
  have b1 := Int.emod_nonneg cell (b := 2147483647) (by decide)
  have b2 := Int.emod_lt_of_pos cell (b := 2147483647) (by decide)
  rw [pmul_ok (by decide) (by omega), bs, ppow_ok (by decide) (by decide) (by omega), bs, lt_eq]
  generalize hx : (cell % 2147483647 + 40503 * k + 17) ^ (5 : Int).toNat = x
  have c1 := Int.emod_nonneg x (b := 2147483647) (by decide)
  have c2 := Int.emod_lt_of_pos x (b := 2147483647) (by decide)
  generalize x % 2147483647 = one at *
  rw [pmul_ok (by omega) (by omega), bs]
  generalize one * (48271 + k) = y
  have d1 := Int.emod_nonneg y (b := 999999937) (by decide)
  have d2 := Int.emod_lt_of_pos y (b := 999999937) (by decide)
  rw [pmul_ok (by omega) (by decide), bs, pmod_ok hm]
  exact Ok.ret ⟨Int.emod_nonneg _ (by omega), Int.emod_lt_of_pos _ hm⟩
theorem take_ok {n many : Int} {b : List Int × Int × Int × Int} (h : Bx n b) (hn : n ≤ 1000000000) (hm : 0 < many) (hM : many < 2 ^ 250) : Ok (l_take b many) fun r => 0 ≤ r.1 ∧ r.1 < many ∧ Bx (n + 1) r.2 := by
  obtain ⟨xs, i, d, k⟩ := b
  obtain ⟨h1, h2, h3, h4⟩ := h
  dsimp only at h1 h2 h3 h4
  unfold l_take
  simp only [lt_eq]
  have mix : ∀ {cell : Int} {b' : List Int × Int × Int × Int}, Bx (n + 1) b' → Ok ((l_mixed_2 cell (k + 1) many).bind fun r => some (r, b')) fun r => 0 ≤ r.1 ∧ r.1 < many ∧ Bx (n + 1) r.2 := fun hb => by
    exact (mixedT_ok (by omega) (by omega) hm).bind fun r hr => Ok.ret ⟨hr.1, hr.2, hb⟩
  have drw : ∀ {d : Int} {i : Int}, 0 < d → 0 ≤ i → Ok ((pmod d many).bind fun draw => (pdiv d many).bind fun v => some (draw, (xs, i, v, k + 1))) fun r => 0 ≤ r.1 ∧ r.1 < many ∧ Bx (n + 1) r.2 := fun {d i} hd hi => by
    rw [pmod_ok hm, bs, pdiv_ok hm hM, bs]
    exact Ok.ret ⟨Int.emod_nonneg _ (by omega), Int.emod_lt_of_pos _ hm, hi, Int.ediv_nonneg (by omega) (by omega), by dsimp only; omega, by dsimp only; omega⟩
  have lst : ∀ {i d c : Int}, 0 ≤ i → 0 ≤ d → Ok ((if (0 : Int) < (xs.length : Int) then (pmod (k + 1) (xs.length : Int)).bind fun v23 => (idx xs v23).bind fun cell => some cell else some c : Option Int).bind fun j => (l_mixed_2 j (k + 1) many).bind fun r => some (r, (xs, i, d, k + 1))) fun r => 0 ≤ r.1 ∧ r.1 < many ∧ Bx (n + 1) r.2 := fun {i d c} hi hd => by
    have hb : Bx (n + 1) (xs, i, d, k + 1) := ⟨hi, hd, by dsimp only; omega, by dsimp only; omega⟩
    refine Ok.bind (Q := fun _ => True) (Ok.ite (fun hl => ?_) fun _ => Ok.ret trivial) fun c _ => mix hb
    rw [pmod_ok hl, bs, idx_ok (Int.emod_nonneg _ (by omega)) (Int.emod_lt_of_pos _ hl), bs]
    exact Ok.ret trivial
  refine Ok.ite (fun hc => ?_) fun hc => Ok.ite (fun hd => drw hd h1) fun hd => lst h1 h2
  rw [idx_ok h1 hc.2, bs]
  refine Ok.ite (fun _ => mix ⟨by dsimp only; omega, h2, by dsimp only; omega, by dsimp only; omega⟩) fun hcell => ?_
  refine Ok.ite (fun hd => drw hd (by omega)) fun hd => lst (by omega) (by omega)
end Td

namespace Td
open Ty
def l_behind_3 (rows : (List (List Int))) : Option (List Int) :=
 (lcm rows fun x3 : (List Int) => (x3.length : Int)).bind fun ys6 =>
 (rep [0] ys6.sum).bind fun told =>
 (forO rows (told : ((List Int))) fun s9 x8 =>
 (forO (enu 0 x8) (s9 : ((List Int))) fun s13 x12 =>
 (pmod (x12.1 + 1) (x8.length : Int)).bind fun v16 =>
 (idx x8 v16).bind fun v17 =>
 (putI s13 x12.2 v17).bind fun told =>
 some told).bind fun s21 =>
 some s21).bind fun s24 =>
 some (s24)
end Td

namespace Td
open Ty
def l_seats_3 (rows : (List (List Int))) : Option (List Int) :=
 (lcm rows fun x3 : (List Int) => (x3.length : Int)).bind fun ys6 =>
 (rep [0] ys6.sum).bind fun told =>
 (forO (enu 0 rows) (told : ((List Int))) fun s9 x8 =>
 (forO x8.2 (s9 : ((List Int))) fun s15 x14 =>
 (putI s15 x14 x8.1).bind fun told =>
 some told).bind fun s21 =>
 some s21).bind fun s24 =>
 some (s24)
end Td

namespace Td
open Ty
def l_put (rows : (List (List Int))) (at_ : Int) (end_ : Int) : Option (Bool × (List (List Int))) :=
 aft (forWR rows (at_ : (Int)) fun s1 x2 =>
 lt (max 1 (x2.length : Int) : Int) fun many =>
 if (s1 < many) then (insI x2 (s1 + 1) end_).bind fun row =>
 some (.rt (true, row))
 else lt (s1 - many : Int) fun at_ =>
 some (.go (at_, x2)) : Option (Lp ((Int) × List (List Int)) (Bool × List (List Int)))) (fun s15 =>
 some (false, s15.2)) fun r_ => some (r_.1, r_.2)
end Td

namespace Td
open Ty
def l_lay_ends (box : ((List Int) × Int × Int × Int)) (rows : (List (List Int))) (first : Int) (behind_last : Int) : Option ((List (List Int)) × ((List Int) × Int × Int × Int) × (List (List Int))) :=
 (rng first behind_last).bind fun xs1 =>
 (forO xs1 ((box, rows) : (((List Int) × Int × Int × Int) × (List (List Int)))) fun s3 x2 =>
 (lcm s3.2 fun x6 : (List Int) => max 1 (x6.length : Int)).bind fun ys9 =>
 ((Td.l_take s3.1 ys9.sum).bind fun r10 => (Td.l_put s3.2 r10.1 x2).bind fun r14 => some (r10, r14)).bind fun r16 =>
 some (r16.1.2, r16.2.2)).bind fun s19 =>
 some (s19.2, s19.1, s19.2)
end Td

namespace Td
open Ty
def l_grown_3 (box : ((List Int) × Int × Int × Int)) (leaves : Int) (ties : Int) : Option ((List (List Int)) × ((List Int) × Int × Int × Int)) :=
 lt ([([] : (List Int))] : (List (List Int))) fun rows =>
 (rng 0 leaves).bind fun xs3 =>
 (forO xs3 ((box, rows) : (((List Int) × Int × Int × Int) × (List (List Int)))) fun s5 x4 =>
 (lcm s5.2 fun x8 : (List Int) => max 1 (x8.length : Int)).bind fun ys11 =>
 (((Td.l_take s5.1 ys11.sum).bind fun r12 => ((pmul 2 x4).bind fun v17 => (some ()).bind fun a18 => some (v17, a18)).bind fun r19 => some (r12, r19)).bind fun r22 => (Td.l_put s5.2 r22.1.1 r22.2.1).bind fun r23 => some (r22, r23)).bind fun r25 =>
 (pmul 2 x4).bind fun v28 =>
 (app r25.2.2 [v28 + 1]).bind fun rows =>
 some (r25.1.1.2, rows)).bind fun s32 =>
 (pmul 2 leaves).bind fun v35 =>
 (pmul 2 leaves).bind fun v36 =>
 (pmul 2 ties).bind fun v37 =>
 (Td.l_lay_ends s32.1 s32.2 v35 (v36 + v37)).bind fun r38 => some (r38.1, r38.2.1)
end Td

namespace Td
open Ty
def l_shuffled (box : ((List Int) × Int × Int × Int)) (many : Int) : Option ((List Int) × ((List Int) × Int × Int × Int)) :=
 (rng 0 many).bind fun pool =>
 lt (([] : (List Int)) : (List Int)) fun told =>
 (whO 100000 ((box, pool, told) : (((List Int) × Int × Int × Int) × (List Int) × (List Int))) (fun s6 => some (decide ((0 < (s6.2.1.length : Int))))) fun s6 =>
 ((Td.l_take s6.1 (s6.2.1.length : Int)).bind fun a12 => (popI s6.2.1 a12.1).bind fun p13 => some (a12, p13)).bind fun r11 => (app s6.2.2 r11.2.1).bind fun told =>
 some (r11.1.2, r11.2.2, told)).bind fun s16 =>
 some (s16.2.2, s16.1)
end Td

namespace Td
open Ty

end Td

namespace Td
open Ty
def l_named (box : ((List Int) × Int × Int × Int)) (rows : (List (List Int))) : Option (((List (List Int)) × (List Int)) × ((List Int) × Int × Int × Int)) :=
 lt (([] : (List Int)) : (List Int)) fun names =>
 (lcm rows fun x3 : (List Int) => (x3.length : Int)).bind fun ys6 =>
 (Td.l_shuffled box (ys6.sum / 2)).bind fun r7 =>
 (forO r7.1 ((r7.2, names) : (((List Int) × Int × Int × Int) × (List Int))) fun s12 x11 =>
 (Td.l_take s12.1 2).bind fun r17 =>
 (pmul 2 x11).bind fun v19 =>
 (app s12.2 (v19 + r17.1)).bind fun names =>
 (pmul 2 x11).bind fun v23 =>
 (app names ((v23 + 1) - r17.1)).bind fun names =>
 some (r17.2, names)).bind fun s27 =>
 (Td.l_shuffled s27.1 (rows.length : Int)).bind fun r32 =>
 (lcm rows fun x36 : (List Int) => ([] : (List Int))).bind fun told =>
 (forO (enu 0 rows) (told : ((List (List Int)))) fun s41 x40 =>
 (lcp x40.2 (fun x44 : Int => some true) fun x44 => (idx s27.2 x44).bind fun v47 =>
 some v47).bind fun ys48 =>
 (Td.l_least_2 ys48).bind fun r51 =>
 (idx r32.1 x40.1).bind fun v52 =>
 (putI s41 v52 r51).bind fun told =>
 some told).bind fun s56 =>
 some ((s56, s27.2), r32.2)
end Td

namespace Td
open Ty
def l_exchanged (rows : (List (List Int))) (one : Int) (two : Int) : Option (List (List Int)) :=
 (lcm rows fun x3 : (List Int) => (x3.length : Int)).bind fun ys6 =>
 (rng 0 ys6.sum).bind fun names =>
 (putI names one two).bind fun names =>
 (putI names two one).bind fun names =>
 lcp rows (fun x14 : (List Int) => some true) fun x14 => (lcp x14 (fun x17 : Int => some true) fun x17 => (idx names x17).bind fun v20 =>
 some v20).bind fun ys21 =>
 (Td.l_least_2 ys21).bind fun r24 =>
 some r24
end Td

namespace Td
open Ty
def nextsP (rows : List (List Int)) : List (Int × Int) := rows.flatMap fun row => (List.range row.length).map fun j => (row.getD j 0, row.getD ((j + 1) % row.length) 0)
end Td

namespace Td
open Ty
def l_cell_2 (script : (List Int)) (k : Int) : Option Int :=
 if ((script.length : Int) = 0) then (pmul 48271 k).bind fun v1 =>
 some (v1 + 5)
 else if (k < (script.length : Int)) then idx script k
 else (pmod k (script.length : Int)).bind fun v3 =>
 (idx script v3).bind fun v4 =>
 (pmul (v4 % 1000033) 39373).bind fun v5 =>
 (pmul 7907 k).bind fun v6 =>
 some (v5 + v6)
end Td

namespace Td
open Ty
def l_draws_2 (cell : Int) (sizes : (List Int)) : Option (List Int) :=
 lt (0 : Int) fun rest =>
 (if (1000000000000000000 ≤ cell) then lt (cell : Int) fun rest =>
 some rest
 else some rest : Option (Int)).bind fun j5 =>
 lt (([] : (List Int)) : (List Int)) fun found =>
 (forO (enu 0 sizes) ((j5, found) : (Int × (List Int))) fun s11 x10 =>
 (if (0 < s11.1) then (pmod s11.1 x10.2).bind fun v14 =>
 (app s11.2 v14).bind fun found =>
 (pdiv s11.1 x10.2).bind fun rest =>
 some (rest, found)
 else (pmul 1009 x10.1).bind fun v23 =>
 (pmul v23 x10.1).bind fun v24 =>
 (pmul 48611 x10.1).bind fun v25 =>
 (ppow ((((cell % 2147483647) + v24) + v25) + 17) 5).bind fun v26 =>
 lt (v26 % 2147483647 : Int) fun mixed =>
 (pmul mixed 48271).bind fun v27 =>
 (pmul 7919 x10.1).bind fun v28 =>
 (pmod ((v27 + v28) % 1000000007) x10.2).bind fun v29 =>
 (app s11.2 v29).bind fun found =>
 some (s11.1, found) : Option (Int × (List Int))).bind fun j33 =>
 some (j33.1, j33.2)).bind fun s36 =>
 some (s36.2)
end Td

namespace Td
open Ty
def l_settled (rows : (List (List Int))) : Option (List (List Int)) :=
 lt (([] : (List (List Int))) : (List (List Int))) fun found =>
 (forO rows (found : ((List (List Int)))) fun s4 x3 =>
 lt (0 : Int) fun at_ =>
 (if (0 < (x3.length : Int)) then (pmin x3).bind fun v11 =>
 (ixOf x3 v11).bind fun at_ =>
 some at_
 else some at_ : Option (Int)).bind fun j13 =>
 (cat (sl x3 (some j13) none) (sl x3 none (some j13))).bind fun v16 =>
 (app s4 v16).bind fun found =>
 some found).bind fun s20 =>
 some (s20)
end Td

namespace Td
open Ty
def l_drawing (script : (List Int)) (base : Int) (most : Int) : Option (List (List Int)) :=
 (Td.l_cell_2 script base).bind fun r3 =>
 (Td.l_draws_2 r3 [most + 1, 4, 4, 60, 60]).bind fun r6 =>
 (un5 r6).bind fun y7 =>
 (Td.l_cell_2 script (base + 1)).bind fun r14 =>
 (pmul 2 y7.1).bind fun v15 =>
 (rng 0 v15).bind fun xs16 =>
 (lcp xs16 (fun x17 : Int => some true) fun x17 => (pmul 2 y7.1).bind fun v20 =>
 some (v20 - x17)).bind fun ys21 =>
 (Td.l_draws_2 r14 ys21).bind fun picks =>
 (Td.l_cell_2 script (base + 2)).bind fun r29 =>
 (idx [2, 3, 5, 40] y7.2.1).bind fun v30 =>
 (pmul 2 y7.1).bind fun v31 =>
 (rep [v30] v31).bind fun v32 =>
 (Td.l_draws_2 r29 v32).bind fun cuts =>
 (pmul 2 y7.1).bind fun v38 =>
 (rng 0 v38).bind fun left =>
 lt (([] : (List (List Int))) : (List (List Int))) fun rows =>
 (pmul 2 y7.1).bind fun v42 =>
 (rng 0 v42).bind fun xs43 =>
 (forO xs43 ((left, rows) : ((List Int) × (List (List Int)))) fun s45 x44 =>
 (idx cuts x44).bind fun v48 =>
 (if ((v48 = 0) ∨ ((s45.2.length : Int) = 0)) then (app s45.2 ([] : (List Int))).bind fun rows =>
 some rows
 else some s45.2 : Option ((List (List Int)))).bind fun j52 =>
 (idx j52 (-1)).bind fun z55 =>
 (idx picks x44).bind fun v56 =>
 (popI s45.1 v56).bind fun r57 => (app z55 r57.1).bind fun z58 =>
 some (r57.2, (setI j52 (-1) z58))).bind fun s61 =>
 (forO (sl [y7.2.2.2.1, y7.2.2.2.2] none (some (max 0 (y7.2.2.1 - 1)))) (s61.2 : ((List (List Int)))) fun s65 x64 =>
 (pmod x64 ((s65.length : Int) + 1)).bind fun v68 =>
 (insI s65 v68 ([] : (List Int))).bind fun rows =>
 some rows).bind fun s75 =>
 Td.l_settled s75
end Td

namespace Td
open Ty
def l_great_2 (cell : Int) : Option (List (List Int)) :=
 (Td.l_draws_2 cell [101, 5, 1000, 4, 3]).bind fun r3 =>
 (un5 r3).bind fun y4 =>
 lt (400 + y4.1 : Int) fun ties =>
 (idx [503, 509, 521, 523] y4.2.2.2.1).bind fun step =>
 (rng 0 (1 + y4.2.1)).bind fun xs14 =>
 (lcm xs14 fun x15 : Int => ([] : (List Int))).bind fun rows =>
 (pmul 2 ties).bind fun v19 =>
 (rng 0 v19).bind fun xs20 =>
 (forO xs20 (rows : ((List (List Int)))) fun s22 x21 =>
 (pmul x21 step).bind fun v27 =>
 (pmul 2 ties).bind fun v28 =>
 (pmod (v27 + y4.2.2.1) v28).bind fun end_ =>
 (pdiv x21 (1 + y4.2.2.2.2)).bind fun v30 =>
 (pmod v30 (s22.length : Int)).bind fun v31 =>
 (idx s22 v31).bind fun z32 =>
 (app z32 end_).bind fun z33 =>
 some (setI s22 v31 z33)).bind fun s36 =>
 Td.l_settled s36
end Td

namespace Td
open Ty
def l_crossed (one : Int) (two : Int) : Option (List (List Int)) :=
 (pmul 2 one).bind fun v3 =>
 (pmul 2 one).bind fun v4 =>
 (pmul 2 (one + two)).bind fun v5 =>
 lt ([[0, v3, v4 - 1, v5 - 1]] : (List (List Int))) fun rows =>
 (((rng 1 one).bind fun xs10 =>
 lcp xs10 (fun x11 : Int => some true) fun x11 => (pmul 2 x11).bind fun v14 =>
 (pmul 2 x11).bind fun v15 =>
 some [v14 - 1, v15]).bind fun ys17 => cat rows ys17).bind fun z18 =>
 (((rng 1 two).bind fun xs21 =>
 lcp xs21 (fun x22 : Int => some true) fun x22 => (pmul 2 one).bind fun v25 =>
 (pmul 2 x22).bind fun v26 =>
 (pmul 2 one).bind fun v27 =>
 (pmul 2 x22).bind fun v28 =>
 some [(v25 + v26) - 1, v27 + v28]).bind fun ys30 => cat z18 ys30).bind fun z31 => some (z31)
end Td

namespace Td
open Ty
def crossL (x y : Nat) : List (List Int) := [[0, 2 * ((x : Int) + 1), 2 * ((x : Int) + 1) - 1, 2 * ((x : Int) + 1 + ((y : Int) + 1)) - 1]] ++ ((span 1 ((x : Int) + 1)).map fun z => [0 + 2 * z - 1, 0 + 2 * z]) ++ ((span 1 ((y : Int) + 1)).map fun z => [2 * ((x : Int) + 1) + 2 * z - 1, 2 * ((x : Int) + 1) + 2 * z])
end Td

namespace Td
open Ty
def told (f : Int → Int) (rows : List (List Int)) : List (List Int) := rows.map fun r => least (r.map f)
def swp (one two x : Int) : Int := if x = two then one else if x = one then two else x
end Td

namespace Td
open Ty
def nm (names : List Int) (x : Int) : Int := (names[x.toNat]?).getD 0
structure Nms (m : Nat) (names : List Int) : Prop where
  perm : names.Perm (span 0 ((2 * m : Nat) : Int))
  mate : ∀ x, In (2 * m) x → nm names (Ty.mate x) = Ty.mate (nm names x)
end Td

namespace Td
open Ty
end Td

namespace Td
open Ty
def l_threes (r : Int) (c : Int) (s : Int) : Option (List (List Int)) :=
 lt (([] : (List (List Int))) : (List (List Int))) fun told =>
 (pmul r c).bind fun v3 =>
 (rng 0 v3).bind fun xs4 =>
 (forO xs4 (told : ((List (List Int)))) fun s6 x5 =>
 (pmod x5 c).bind fun v11 =>
 (pmod x5 c).bind fun v12 =>
 (pmod (v12 - 1) c).bind fun v13 =>
 lt ((x5 - v11) + v13 : Int) fun left =>
 (Td.l_down r c s x5).bind fun down =>
 (Td.l_down r c s left).bind fun back =>
 (pmul 6 x5).bind fun v26 =>
 (pmul 6 x5).bind fun v27 =>
 (pmul 6 x5).bind fun v28 =>
 (pmul 6 down).bind fun v29 =>
 (pmul 6 back).bind fun v30 =>
 (pmul 6 left).bind fun v31 =>
 lt ([v26 + 2, v27 + 4, v28, v29 + 3, v30 + 5, v31 + 1] : (List Int)) fun row =>
 (Td.l_least_2 row).bind fun r34 =>
 (app s6 r34).bind fun told =>
 some told).bind fun s38 =>
 some (s38)
end Td

namespace Td
open Ty
def l_forty (box : ((List Int) × Int × Int × Int)) : Option ((List (List Int)) × ((List Int) × Int × Int × Int)) :=
 ((Td.l_take box 8).bind fun r3 => (idx [1, 2, 4, 5, 8, 10, 20, 40] r3.1).bind fun z6 => some (r3, z6)).bind fun r5 =>
 (pdiv 40 r5.2).bind fun v7 =>
 (pdiv 40 r5.2).bind fun v8 =>
 ((Td.l_take r5.1.2 v8).bind fun r9 => (Td.l_threes r5.2 v7 r9.1).bind fun r13 => some (r9, r13)).bind fun r15 => some (r15.2, r15.1.2)
end Td

namespace Td
open Ty
def dn (r c s p : Int) : Int := if c ≤ p then p - c else (r - 1) * c + (p - s) % c
def lf (c p : Int) : Int := p - p % c + (p % c - 1) % c
end Td

namespace Td
open Ty
end Td

namespace Td
open Ty
def l_forced (ones : (List (List Int))) (others : (List (List Int))) (end_ : Int) (goal : Int) : Option (Option (List Int)) :=
 (Td.l_behind_3 ones).bind fun one =>
 (Td.l_behind_3 others).bind fun other =>
 if ((one.length : Int) ≠ (other.length : Int)) then some (none)
 else lt ([(end_, goal)] : (List (Int × Int))) fun lay =>
 lt ([end_] : (List Int)) fun waiting =>
 aft (whR 100000 ((lay, waiting) : ((List (Int × Int)) × (List Int))) (fun s15 => some (decide ((0 < (s15.2.length : Int))))) fun s15 =>
 (popL s15.2).bind fun r20 =>
 (Td.l_mate r20.1).bind fun r23 =>
 (dget s15.1 r20.1).bind fun v24 =>
 (Td.l_mate v24).bind fun r27 =>
 (idx one r20.1).bind fun v28 =>
 (dget s15.1 r20.1).bind fun v29 =>
 (idx other v29).bind fun v30 =>
 aft (forR [(r23, r27), (v28, v30)] ((s15.1, r20.2) : ((List (Int × Int)) × (List Int))) fun s32 x31 =>
 (if ¬dhas s32.1 x31.1 = true then (dputO s32.1 x31.1 x31.2).bind fun lay =>
 (app s32.2 x31.1).bind fun waiting =>
 some (lay, waiting)
 else some (s32.1, s32.2) : Option ((List (Int × Int)) × (List Int))).bind fun j40 =>
 (dget j40.1 x31.1).bind fun v43 =>
 if (v43 ≠ x31.2) then some (.rt (none))
 else some (.go (j40.1, j40.2))) (fun s44 =>
 some (.go (s44.1, s44.2))) fun r_ => some (Lp.rt r_)) (fun s47 =>
 (rng 0 (one.length : Int)).bind fun xs52 =>
 (lcp xs52 (fun x53 : Int => some true) fun x53 => (dget s47.1 x53).bind fun v56 =>
 some v56).bind fun told =>
 (rng 0 (one.length : Int)).bind fun xs58 =>
 if ((srt told) ≠ xs58) then some (none)
 else some ((some told))) fun r_ => some r_
end Td

namespace Td
open Ty
def Cn (n : Nat) (rows : List (List Int)) : Prop := ∀ S : Int → Prop, (∀ x, In n x → S x → S (mate x)) → (∀ x, In n x → S x → S (nx rows x)) → S 0 → ∀ x, In n x → S x
abbrev FS := List (Int × Int) × List Int
structure FJ (n : Nat) (goal : Int) (s : FS) : Prop where
  nd : (s.1.map (·.1)).Nodup
  ink : ∀ k v, dget s.1 k = some v → In n k ∧ In n v
  wait : ∀ w ∈ s.2, ∃ v, dget s.1 w = some v
  zero : dget s.1 0 = some goal
def fmu (n : Nat) (s : FS) : Nat := s.2.length + (n - s.1.length)
end Td

namespace Td
open Ty
def l_hits (lay : (List Int)) (many : Int) : Option Bool :=
 lt (([] : (List (Int × Bool))) : (List (Int × Bool))) fun hit =>
 aft (forR lay (hit : ((List (Int × Bool)))) fun s4 x3 =>
 (Td.l_whole x3).bind fun r9 =>
 if (¬(r9 = true) ∨ ((x3 < 0) ∨ ((many ≤ x3) ∨ dhas s4 x3 = true))) then some (.rt (false))
 else (dputO s4 x3 true).bind fun hit =>
 some (.go hit)) (fun s12 =>
 some (decide ((lay.length : Int) = many))) fun r_ => some r_
end Td

namespace Td
open Ty
def l_lays (ones : (List (List Int))) (others : (List (List Int))) (lay : (List Int)) : Option Bool :=
 (Td.l_behind_3 ones).bind fun one =>
 (Td.l_behind_3 others).bind fun other =>
 (if ((one.length : Int) ≠ (other.length : Int)) then some true else (Td.l_hits lay (one.length : Int)).bind fun r13 =>
 some (decide (¬(r13 = true)))).bind fun b14 =>
 if b14 = true then some (false)
 else (rng 0 (one.length : Int)).bind fun xs15 =>
 aft (forR xs15 (() : Unit) fun s17 x16 =>
 (Td.l_mate x16).bind fun r22 =>
 (idx lay r22).bind fun v23 =>
 (idx lay x16).bind fun v24 =>
 (Td.l_mate v24).bind fun r27 =>
 (if (v23 ≠ r27) then some true else (idx one x16).bind fun v28 =>
 (idx lay v28).bind fun v29 =>
 (idx lay x16).bind fun v30 =>
 (idx other v30).bind fun v31 =>
 some (decide ((v29 ≠ v31)))).bind fun b32 =>
 if b32 = true then some (.rt (false))
 else some (.go ())) (fun s33 =>
 some (true)) fun r_ => some r_
end Td

namespace Td
open Ty
def p_is_one_part (drawing : (List (List Int))) : Option Bool :=
 (Td.p_parts_of drawing).bind fun r3 =>
 some (decide ((r3.length : Int) = 1))
end Td

namespace Td
open Ty
def p_is_laying (one : (List (List Int))) (two : (List (List Int))) (lay : (List Int)) : Option Bool :=
 (Td.p_is_one_part one).bind fun r3 =>
 (if ¬(r3 = true) then some true else (Td.p_is_one_part two).bind fun r6 =>
 some (decide (¬(r6 = true)))).bind fun b7 =>
 if b7 = true then some (false)
 else (Td.p_behind_of one).bind fun behind =>
 (Td.p_behind_of two).bind fun beyond =>
 (if ((behind.length : Int) ≠ (beyond.length : Int)) then some true else (rng 0 (beyond.length : Int)).bind fun xs18 =>
 some (decide (((srt lay) ≠ xs18)))).bind fun b19 =>
 if b19 = true then some (false)
 else aft (forR (enu 0 lay) (() : Unit) fun s21 x20 =>
 (Td.p_mate_of x20.1).bind fun r26 =>
 (idx lay r26).bind fun v27 =>
 (Td.p_mate_of x20.2).bind fun r30 =>
 (if (v27 ≠ r30) then some true else (idx behind x20.1).bind fun v31 =>
 (idx lay v31).bind fun v32 =>
 (idx beyond x20.2).bind fun v33 =>
 some (decide ((v32 ≠ v33)))).bind fun b34 =>
 if b34 = true then some (.rt (false))
 else some (.go ())) (fun s35 =>
 some (true)) fun r_ => some r_
end Td

namespace Td
open Ty
def LL (n : Nat) (one two : List (List Int)) (lay : List Int) : Prop := lay.Perm (span 0 n) ∧ ∀ x, In n x → nm lay (mate x) = mate (nm lay x) ∧ nm lay (nx one x) = nx two (nm lay x)
end Td

namespace Td
open Ty
theorem span_up (a b : Int) : (span a b).Pairwise (· ≤ ·) := by
  rw [List.pairwise_iff_getElem]
  intro i j hi hj hij
  rw [span_getE, span_getE]; omega
end Td

namespace Td
open Ty
theorem ddel_len1 {w : List (Int × Bool)} (nd : (w.map (·.1)).Nodup) {x : Int} (h : dhas w x = true) : (ddel w x).length + 1 = w.length ∧ ((ddel w x).map (·.1)).Nodup := by
  refine ⟨?_, List.Nodup.sublist (List.Sublist.map _ (List.filter_sublist)) nd⟩
  induction w with
  | nil => simp at h
  | cons p w ih =>
    rw [List.map_cons, List.nodup_cons] at nd
    unfold ddel at ih ⊢
    by_cases c : p.1 = x
    · have : w.filter (fun e => decide (e.1 ≠ x)) = w := by
        rw [List.filter_eq_self]
        intro e he
        rw [decide_eq_true_iff]
        intro z
        exact nd.1 (by rw [c, ← z]; exact List.mem_map_of_mem he)
      rw [List.filter_cons, if_neg (by simpa using c), this]; rfl
    · rw [List.filter_cons, if_pos (by simpa using c)]
      have h' : dhas w x = true := by
        unfold dhas at h ⊢
        simpa [c] using h
      have := ih nd.2 h'
      simp only [List.length_cons]; omega
def nr (near : List (List Int)) (y : Int) : List Int := (near[y.toNat]?).getD []
def Cl (near : List (List Int)) (N : Nat) (S : Int → Prop) : Prop := ∀ y, In N y → S y → ∀ z ∈ nr near y, S z
structure DB (near : List (List Int)) (N : Nat) (W : List (Int × Bool)) (start : Int) (w : List (Int × Bool)) (g : List Int) : Prop where
  len : g.length + w.length = W.length
  sub : ∀ y, dhas w y = true → dhas W y = true
  cov : ∀ y, dhas W y = true → dhas w y = true ∨ y ∈ g
  out : ∀ y ∈ g, In N y ∧ dhas w y = false
  cl : ∀ S : Int → Prop, Cl near N S → S start → ∀ y ∈ g, S y
  st : start ∈ g
  nd : (w.map (·.1)).Nodup
theorem DB.step {near : List (List Int)} {N : Nat} {W w : List (Int × Bool)} {start x y : Int} {g : List Int} (h : DB near N W start w g) (hx : In N x) (hd : dhas w x = true) (hy : y ∈ g) (hxy : x ∈ nr near y) : DB near N W start (ddel w x) (g ++ [x]) where
  len := by have := (ddel_len1 h.nd hd).1; have := h.len; simp; omega
  sub := fun y q => by rw [dhas_del, Bool.and_eq_true] at q; exact h.sub y q.2
  cov := fun y q => by
    by_cases c : y = x
    · exact .inr (by rw [c]; simp)
    · rcases h.cov y q with z | z
      · exact .inl (by rw [dhas_del, z]; simp [c])
      · exact .inr (by simp [z])
  out := fun y q => by
    rcases List.mem_append.mp q with z | z
    · exact ⟨(h.out y z).1, by rw [dhas_del, (h.out y z).2]; simp⟩
    · rw [List.mem_singleton.mp z]; exact ⟨hx, by rw [dhas_del]; simp⟩
  cl := fun S hS s0 z q => by
    rcases List.mem_append.mp q with c | c
    · exact h.cl S hS s0 z c
    · rw [List.mem_singleton.mp c]; exact hS y (h.out y hy).1 (h.cl S hS s0 y hy) x hxy
  st := by have := h.st; simp [this]
  nd := (ddel_len1 h.nd hd).2
theorem drain_ok {near : List (List Int)} {N : Nat} (hN : near.length = N) (hN' : N ≤ 10000) (hin : ∀ y, ∀ z ∈ nr near y, In N z) (hnl : ∀ y, (nr near y).length ≤ 100000) {W : List (Int × Bool)} (ndW : (W.map (·.1)).Nodup) (lW : W.length ≤ 10000) {start : Int} (hs : In N start) (hd : dhas W start = true) :
    Ok (p_drain near W start) fun r => DB near N W start r.2 r.1 ∧ ∀ y ∈ r.1, ∀ z ∈ nr near y, dhas r.2 z = false := by
  unfold p_drain
  rw [ddelO_ok hd, bs, lt_eq, lt_eq]
  have b0 : DB near N W start (ddel W start) [start] := by
    obtain ⟨l1, l2⟩ := ddel_len1 ndW hd
    refine ⟨by simp; omega, fun y q => by rw [dhas_del, Bool.and_eq_true] at q; exact q.2, fun y q => ?_, fun y q => ?_, fun S _ s0 y q => by rw [List.mem_singleton.mp q]; exact s0, by simp, l2⟩
    · by_cases c : y = start
      · exact .inr (by simp [c])
      · exact .inl (by rw [dhas_del, q]; simp [c])
    · rw [List.mem_singleton.mp q]; exact ⟨hs, by rw [dhas_del]; simp⟩
  refine (whO_ok (fun (s : List (Int × Bool) × List Int × Int) => DB near N W start s.1 s.2.1 ∧ 0 ≤ s.2.2 ∧ s.2.2 ≤ s.2.1.length ∧ ∀ (i : Nat) (hi : i < s.2.1.length), (i : Int) < s.2.2 → ∀ z ∈ nr near s.2.1[i], dhas s.1 z = false) (fun (s : List (Int × Bool) × List Int × Int) => W.length - s.2.2.toNat) (fun (s : List (Int × Bool) × List Int × Int) => DB near N W start s.1 s.2.1 ∧ ∀ y ∈ s.2.1, ∀ z ∈ nr near y, dhas s.1 z = false) (fun s ⟨g1, g2, g3, g4⟩ => ?_) _ _ ⟨b0, by simp, by simp, fun i _ q => by dsimp only at q; omega⟩ (by dsimp only; omega)).bind fun s ⟨g1, g2⟩ => Ok.ret ⟨g1, g2⟩
  have gl := g1.len
  by_cases q : s.2.2 < s.2.1.length
  · refine .inl ⟨by rw [decide_eq_true q], ?_⟩
    rw [idx_ok g2 q, bs]
    have hk : s.2.2.toNat < s.2.1.length := by omega
    generalize hh : s.2.1[s.2.2.toNat]'(by omega) = here
    have hm : here ∈ s.2.1 := by rw [← hh]; exact List.getElem_mem _
    have ih := (g1.out here hm).1
    have e : idx near here = some (nr near here) := by
      have h0 := ih.1; have h1 := ih.2
      unfold nr
      rw [List.getElem?_eq_getElem (by omega)]
      exact idx_at h0 (List.getElem?_eq_getElem (by omega))
    rw [e, bs]
    refine Ok.bind (Q := fun (t : List (Int × Bool) × List Int) => DB near N W start t.1 t.2 ∧ (∃ more, t.2 = s.2.1 ++ more) ∧ (∀ y, dhas s.1 y = false → dhas t.1 y = false) ∧ ∀ z ∈ nr near here, dhas t.1 z = false) ?_ fun t ⟨c1, ⟨more, c2⟩, c3, c4⟩ => ?_
    · refine (forO_ok (fun pre (t : List (Int × Bool) × List Int) => DB near N W start t.1 t.2 ∧ (∃ more, t.2 = s.2.1 ++ more) ∧ (∀ y, dhas s.1 y = false → dhas t.1 y = false) ∧ ∀ z ∈ pre, dhas t.1 z = false) ⟨g1, ⟨[], by simp⟩, fun _ z => z, by simp⟩ fun pre x post t e ⟨c1, ⟨more, c2⟩, c3, c4⟩ => ?_)
      have hx : x ∈ nr near here := by rw [e]; simp
      have tl := c1.len
      by_cases d : dhas t.1 x = true
      · rw [if_pos d, ddelO_ok d, bs, app_ok (by omega), bs, bs]
        refine Ok.ret ⟨c1.step (hin here x hx) d (by rw [c2]; simp [hm]) hx, ⟨more ++ [x], by dsimp only; rw [c2]; simp⟩, fun y z => by dsimp only; rw [dhas_del, c3 y z]; simp, fun z hz => ?_⟩
        dsimp only
        rw [dhas_del]
        rcases List.mem_append.mp hz with w | w
        · rw [c4 z w]; simp
        · rw [List.mem_singleton.mp w]; simp
      · rw [if_neg d, bs]
        refine Ok.ret ⟨c1, ⟨more, c2⟩, c3, fun z hz => ?_⟩
        rcases List.mem_append.mp hz with w | w
        · exact c4 z w
        · rw [List.mem_singleton.mp w]; simpa using d
    · rw [lt_eq]
      have tl := c1.len
      have l2 : s.2.1.length ≤ t.2.length := by rw [c2]; simp
      refine Ok.ret ⟨⟨c1, by dsimp only; omega, by dsimp only; omega, fun i hi hia z hz => ?_⟩, by dsimp only; omega⟩
      dsimp only at hi hia hz ⊢
      have hil : i < s.2.1.length := by omega
      have ei : t.2[i] = s.2.1[i] := by
        have : t.2[i]? = s.2.1[i]? := by rw [c2, List.getElem?_append_left hil]
        rw [List.getElem?_eq_getElem hi, List.getElem?_eq_getElem hil] at this
        exact Option.some.inj this
      rw [ei] at hz
      by_cases w : (i : Int) < s.2.2
      · exact c3 z (g4 i hil w z hz)
      · have : i = s.2.2.toNat := by omega
        subst this
        rw [hh] at hz
        exact c4 z hz
  · refine .inr ⟨by rw [decide_eq_false q], g1, fun y hy z hz => ?_⟩
    obtain ⟨i, hi, ei⟩ := List.getElem_of_mem hy
    exact g4 i hi (by omega) z (by rw [ei]; exact hz)
end Td

namespace Td
open Ty
theorem dc_all : ∀ (xs : List Int) (m : List (Int × Bool)), xs.Nodup → (∀ x ∈ xs, x ∉ m.map (·.1)) → ∃ r, dcO (fun _ => some true) (fun x : Int => some (x, true)) xs m = some r ∧ r.map (·.1) = m.map (·.1) ++ xs
  | [], m, _, _ => ⟨m, rfl, by simp⟩
  | x :: xs, m, nd, hm => by
    rw [List.nodup_cons] at nd
    have hx := hm x (List.mem_cons_self ..)
    have k : (dput m x true).map (·.1) = m.map (·.1) ++ [x] := by rw [dput_keys, if_neg hx]
    obtain ⟨r, h1, h2⟩ := dc_all xs (dput m x true) nd.2 (fun y hy => by
      rw [k, List.mem_append, not_or]
      exact ⟨hm y (List.mem_cons_of_mem _ hy), fun z => nd.1 (by rw [← List.mem_singleton.mp z]; exact hy)⟩)
    refine ⟨r, ?_, by rw [h2, k, List.append_assoc]; rfl⟩
    rw [dcO, bs, if_pos rfl, bs]
    exact h1
def OP (n : Nat) (rows : List (List Int)) : Prop := 0 < rows.length ∧ ∀ S : Int → Prop, (∀ x, In n x → S (hm rows x) → S (hm rows (mate x))) → S 0 → ∀ i, In rows.length i → S i
def ord (rows : List (List Int)) : List (List Int) := rows.map fun row => row.map fun e => hm rows (mate e)
theorem orders_eq {m : Nat} {rows : List (List Int)} (h : Dr (2 * m) rows) (hm' : m ≤ 5000) (hl : rows.length ≤ 10000) : p_orders_of rows = some (ord rows) := by
  unfold p_orders_of
  rw [homes_eq h (by omega) (by omega), bs]
  refine lcp_all _ (by omega) (fun _ _ => rfl) fun r hr => ?_
  have hrl : r.length ≤ 10000 := by
    have := h.len
    have := (List.sublist_flatten_of_mem hr).length_le
    omega
  rw [lcp_all (fun e => hm rows (mate e)) (by omega) (fun _ _ => rfl) (fun e he => by
    have := h.in.mp (List.mem_flatten.mpr ⟨r, hr, he⟩)
    rw [p_mate_eq, bs, homes_idx h (mate_in this), bs]), bs]
theorem ord_nr {m : Nat} {rows : List (List Int)} (h : Dr (2 * m) rows) {y z : Int} (hy : In rows.length y) : z ∈ nr (ord rows) y ↔ ∃ x, In (2 * m) x ∧ hm rows x = y ∧ z = hm rows (mate x) := by
  have h0 := hy.1; have h1 := hy.2
  have hk : y.toNat < rows.length := by omega
  have e : nr (ord rows) y = rows[y.toNat].map fun e => hm rows (mate e) := by
    unfold nr ord
    rw [List.getElem?_map, List.getElem?_eq_getElem hk]; rfl
  rw [e, List.mem_map]
  constructor
  · rintro ⟨x, hx, rfl⟩
    have ix := h.in.mp (List.mem_flatten.mpr ⟨_, List.getElem_mem hk, hx⟩)
    exact ⟨x, ix, by rw [hm_row h hk hx]; omega, rfl⟩
  · rintro ⟨x, ix, e1, e2⟩
    obtain ⟨i, hi, e3, e4⟩ := hm_in h ix
    have : i = y.toNat := by omega
    subst this
    exact ⟨x, e4, e2.symm⟩
end Td

namespace Td
open Ty
def l_part_count (rows : (List (List Int))) : Option Int :=
 (Td.l_seats_3 rows).bind fun seats =>
 (rng 0 (rows.length : Int)).bind fun part =>
 (rng 0 ((seats.length : Int) / 2)).bind fun xs9 =>
 (forO xs9 (part : ((List Int))) fun s11 x10 =>
 (pmul 2 x10).bind fun v16 =>
 (idx seats v16).bind fun v17 =>
 (idx s11 v17).bind fun one =>
 (pmul 2 x10).bind fun v21 =>
 (idx seats (v21 + 1)).bind fun v22 =>
 (idx s11 v22).bind fun two =>
 (if (one ≠ two) then (lcm s11 fun x26 : Int => if (x26 = two) then one else x26).bind fun part =>
 some part
 else some s11 : Option ((List Int))).bind fun j30 =>
 some j30).bind fun s33 =>
 dist s33
end Td

namespace Td
open Ty
def Cs (n : Nat) (rows : List (List Int)) (S : Int → Prop) : Prop := ∀ x, In n x → S (hm rows x) → S (hm rows (mate x))
end Td

namespace Td
open Ty
def l_well_2 (one : (List (List Int))) (two : (List (List Int))) (lay : (List Int)) : Option Bool :=
 (lcm one fun x3 : (List Int) => x3).bind fun ys6 =>
 (lcm two fun x7 : (List Int) => x7).bind fun ys10 =>
 lt ((ys6, ys10, lay) : ((List (List Int)) × (List (List Int)) × (List Int))) fun kept =>
 (Td.l_part_count one).bind fun r15 =>
 (if (r15 = 1) then (Td.l_part_count two).bind fun r18 =>
 (if (r18 = 1) then (Td.l_lays one two lay).bind fun r21 =>
 some (decide (r21 = true)) else some false).bind fun b22 =>
 some b22 else some false).bind fun due =>
 (Td.p_is_laying one two lay).bind fun told =>
 some (decide (True ∧ ((told = due) ∧ ((one, two, lay) = kept))))
end Td

namespace Td
open Ty
def l_spoilt_4 (box : ((List Int) × Int × Int × Int)) (way : Int) (rows : (List (List Int))) : Option ((List (List Int)) × ((List Int) × Int × Int × Int)) :=
 (lcm rows fun x3 : (List Int) => (x3.length : Int)).bind fun ys6 =>
 lt (ys6.sum : Int) fun many =>
 (Td.l_take box (max 1 many)).bind fun r9 =>
 (Td.l_take r9.2 (max 1 many)).bind fun r13 =>
 (if ((0 < many) ∧ (way = 1)) then (Td.l_behind_3 rows).bind fun r19 =>
 (idx r19 r9.1).bind fun two =>
 some two
 else some r13.1 : Option (Int)).bind fun j21 =>
 (if ((0 < many) ∧ ((way = 1) ∨ (way = 2))) then (Td.l_exchanged rows r9.1 j21).bind fun rows =>
 some rows
 else some rows : Option ((List (List Int)))).bind fun j29 =>
 (if (way = 3) then (Td.l_grown_3 r13.2 ((j29.length : Int) - 1) (((many / 2) - (j29.length : Int)) + 1)).bind fun r34 =>
 some (r34.2, r34.1)
 else some (r13.2, j29) : Option (((List Int) × Int × Int × Int) × (List (List Int)))).bind fun j36 =>
 (if (way = 4) then (((Td.l_take j36.1 5).bind fun r41 => (Td.l_take r41.2 5).bind fun r45 => some (r41, r45)).bind fun r49 => Td.l_grown_3 r49.2.2 r49.1.1 r49.2.1).bind fun r50 =>
 some (r50.2, r50.1)
 else some (j36.1, j36.2) : Option (((List Int) × Int × Int × Int) × (List (List Int)))).bind fun j52 =>
 (if (way = 5) then (cat j52.2 [([] : (List Int))]).bind fun rows =>
 some rows
 else some j52.2 : Option ((List (List Int)))).bind fun j58 =>
 (if (way = 6) then (lcp j58 (fun x63 : (List Int) => some true) fun x63 => (lcm x63 fun x66 : Int => x66 + many).bind fun ys69 =>
 some ys69).bind fun ys70 =>
 (cat j58 ys70).bind fun rows =>
 some rows
 else some j58 : Option ((List (List Int)))).bind fun j72 =>
 (if (way = 7) then lt (([] : (List (List Int))) : (List (List Int))) fun rows =>
 some rows
 else some j72 : Option ((List (List Int)))).bind fun j77 =>
 (if (way = 8) then lt ([([] : (List Int))] : (List (List Int))) fun rows =>
 some rows
 else some j77 : Option ((List (List Int)))).bind fun j82 =>
 (if (way = 9) then (lcp j82 (fun x87 : (List Int) => some true) fun x87 => (slS x87 none none (-1)).bind fun ys90 =>
 (Td.l_least_2 ys90).bind fun r93 =>
 some r93).bind fun rows =>
 some rows
 else some j82 : Option ((List (List Int)))).bind fun j95 =>
 some (j95, j52.1)
end Td

namespace Td
open Ty
def l_bent (box : ((List Int) × Int × Int × Int)) (bend : Int) (lay : (List Int)) (many : Int) : Option ((List Int) × ((List Int) × Int × Int × Int)) :=
 (Td.l_take box (max 1 (lay.length : Int))).bind fun r3 =>
 (Td.l_take r3.2 (max 1 (lay.length : Int))).bind fun r7 =>
 (Td.l_take r7.2 (many + 3)).bind fun r11 =>
 if (bend = 1) then (cat (sl lay none (some r3.1)) [r11.1 - 1]).bind fun v15 =>
 (cat v15 (sl lay (some (r3.1 + 1)) none)).bind fun v16 =>
 some (v16, r11.2)
 else if (bend = 2) then (cat (sl lay none (some r3.1)) (sl lay (some (r3.1 + 1)) none)).bind fun v17 =>
 some (v17, r11.2)
 else if (bend = 3) then (cat (sl lay none (some r3.1)) (sl lay (some r3.1) (some (r3.1 + 1)))).bind fun v18 =>
 (cat v18 (sl lay (some r3.1) none)).bind fun v19 =>
 some (v19, r11.2)
 else if (bend = 4) then (lcp (sl lay (some r3.1) (some (r3.1 + 1))) (fun x20 : Int => some true) fun x20 => (Td.l_mate x20).bind fun r25 =>
 some r25).bind fun ys26 =>
 (cat (sl lay none (some r3.1)) ys26).bind fun v27 =>
 (cat v27 (sl lay (some (r3.1 + 1)) none)).bind fun v28 =>
 some (v28, r11.2)
 else if ((bend = 5) ∧ (0 < (lay.length : Int))) then lt (lay : (List Int)) fun moved =>
 (idx lay r7.1).bind fun v31 =>
 (putI moved r3.1 v31).bind fun moved =>
 (idx lay r3.1).bind fun v35 =>
 (putI moved r7.1 v35).bind fun moved =>
 some (moved, r11.2)
 else if (bend = 6) then (cat lay [r11.1 - 1]).bind fun v41 =>
 some (v41, r11.2)
 else if (bend = 7) then (((Td.l_take r11.2 6).bind fun r44 => (rng 0 r44.1).bind fun xs43 => some (r44, xs43)).bind fun r42 => (lce r42.2 (r42.1.2 : ((List Int) × Int × Int × Int)) (fun s46 (x47 : Int) => some true) fun s46 x47 => (Td.l_take s46 (many + 2)).bind fun r50 => some (r50.1 - 1, r50.2)).bind fun r54_ => some (r42, r54_)).bind fun r54 => some (r54.2.1, r54.2.2)
 else if (bend = 8) then (cat (sl lay none (some r3.1)) [10000000000000000000000000000000000000000 + (r11.1 - 1)]).bind fun v57 =>
 (cat v57 (sl lay (some (r3.1 + 1)) none)).bind fun v58 =>
 some (v58, r11.2)
 else if (bend = 9) then lt (r3.1 - (r3.1 % 2) : Int) fun at_ =>
 (((Td.l_take r11.2 4).bind fun r63 => (idx [0, 1, 2, 10000000000000000000000000000000000000000] r63.1).bind fun z66 => some (r63, z66)).bind fun r65 => (pmul 2 r65.2).bind fun w68 => some (r65, w68)).bind fun r67 =>
 ((Td.l_take r67.1.1.2 2).bind fun r71 => (idx [many + r67.2, (0 - r67.2) - 2] r71.1).bind fun z74 => some (r71, z74)).bind fun r73 =>
 (cat (sl lay none (some at_)) [r73.2, r73.2 + 1]).bind fun v75 =>
 (cat v75 (sl lay (some (at_ + 2)) none)).bind fun v76 =>
 some (v76, r73.1.2)
 else some (lay, r11.2)
end Td

namespace Td
open Ty
end Td

namespace Td
open Ty
end Td

namespace Td
open Ty
def Fit (a b : Nat) (rows : List (List Int)) : Prop := ∃ m, Dr (2 * m) rows ∧ m ≤ a ∧ rows.length ≤ b
end Td

namespace Td
open Ty
def Jn (n : Nat) (rows : List (List Int)) : Prop := ∀ S : Int → Prop, (∀ x, In n x → S x → S (mate x)) → (∀ row ∈ rows, ∀ x ∈ row, ∀ y ∈ row, S x → S y) → S 0 → ∀ x, In n x → S x
end Td

namespace Td
open Ty
def CnE (n : Nat) (rows : List (List Int)) (e : Int) : Prop := ∀ S : Int → Prop, (∀ x, In n x → S x → S (mate x)) → (∀ x, In n x → S x → S (nx rows x)) → S e → ∀ x, In n x → S x
theorem closed_row {n : Nat} {rows : List (List Int)} (h : Dr n rows) {S : Int → Prop} (h2 : ∀ x, In n x → S x → S (nx rows x)) {row : List Int} (hr : row ∈ rows) {x y : Int} (hx : x ∈ row) (hy : y ∈ row) (sx : S x) : S y := by
  obtain ⟨a, ha, ea⟩ := List.getElem_of_mem hx
  obtain ⟨b, hb, eb⟩ := List.getElem_of_mem hy
  have go : ∀ k : Nat, S (row[(a + k) % row.length]'(Nat.mod_lt _ (by omega))) := fun k => by
    induction k with
    | zero => simp only [Nat.add_zero, Nat.mod_eq_of_lt ha]; rw [ea]; exact sx
    | succ k ih =>
      have hk : (a + k) % row.length < row.length := Nat.mod_lt _ (by omega)
      have ii := h.in.mp (List.mem_flatten.mpr ⟨row, hr, List.getElem_mem hk⟩)
      have q := h2 _ ii ih
      rw [nx_row h hr hk] at q
      have e : ((a + k) % row.length + 1) % row.length = (a + (k + 1)) % row.length := by rw [Nat.mod_add_mod, Nat.add_assoc]
      simp only [e] at q
      exact q
  have q := go (b + row.length - a)
  have e : (a + (b + row.length - a)) % row.length = b := by rw [show a + (b + row.length - a) = b + row.length by omega, Nat.add_mod_right, Nat.mod_eq_of_lt hb]
  simp only [e] at q
  rw [← eb]; exact q
theorem closed_hm {n : Nat} {rows : List (List Int)} (h : Dr n rows) {S : Int → Prop} (h2 : ∀ x, In n x → S x → S (nx rows x)) {x y : Int} (hx : In n x) (hy : In n y) (e : hm rows x = hm rows y) (sx : S x) : S y := by
  obtain ⟨i, hi, e1, m1⟩ := hm_in h hx
  obtain ⟨j, hj, e2, m2⟩ := hm_in h hy
  have q : i = j := by omega
  subst q
  exact closed_row h h2 (List.getElem_mem hi) m1 m2 sx
theorem hm_nx {n : Nat} {rows : List (List Int)} (h : Dr n rows) {x : Int} (hx : In n x) : hm rows (nx rows x) = hm rows x := by
  obtain ⟨i, hi, e1, m1⟩ := hm_in h hx
  obtain ⟨a, ha, ea⟩ := List.getElem_of_mem m1
  have q := nx_row h (List.getElem_mem hi) ha
  rw [ea] at q
  rw [e1, q]
  exact hm_row h hi (List.getElem_mem _)
end Td

namespace Td
open Ty
def p_lay_from_2 (behind : (List Int)) (beyond : (List Int)) (end_ : Int) (goal : Int) : Option (Option (List Int)) :=
 if ((behind.length : Int) ≠ (beyond.length : Int)) then some (none)
 else lt ([(end_, goal)] : (List (Int × Int))) fun lay =>
 lt ([end_] : (List Int)) fun line =>
 lt (0 : Int) fun at_ =>
 aft (whR 100000 ((lay, line, at_) : ((List (Int × Int)) × (List Int) × Int)) (fun s7 => some (decide ((s7.2.2 < (s7.2.1.length : Int))))) fun s7 =>
 (idx s7.2.1 s7.2.2).bind fun here =>
 (dget s7.1 here).bind fun there =>
 (Td.p_mate_of here).bind fun r18 =>
 (Td.p_mate_of there).bind fun r21 =>
 (idx behind here).bind fun v22 =>
 (idx beyond there).bind fun v23 =>
 aft (forR [((r18, r21), (v22, v23)).1, ((r18, r21), (v22, v23)).2] ((s7.1, s7.2.1) : ((List (Int × Int)) × (List Int))) fun s25 x24 =>
 if ¬dhas s25.1 x24.1 = true then (dputO s25.1 x24.1 x24.2).bind fun lay =>
 (app s25.2 x24.1).bind fun line =>
 some (.go (lay, line))
 else (dget s25.1 x24.1).bind fun v33 =>
 if (v33 ≠ x24.2) then some (.rt (none))
 else some (.go (s25.1, s25.2))) (fun s34 =>
 lt (s7.2.2 + 1) fun at_ =>
 some (.go (s34.1, s34.2, at_))) fun r_ => some (Lp.rt r_)) (fun s39 =>
 (rng 0 (behind.length : Int)).bind fun xs42 =>
 (lcp xs42 (fun x43 : Int => some true) fun x43 => (dget s39.1 x43).bind fun v46 =>
 some v46).bind fun ys47 =>
 some ((some ys47))) fun r_ => some r_
end Td

namespace Td
open Ty
def LG (n : Nat) (one two : List (List Int)) (e goal : Int) (L : List Int) : Prop := LL n one two L ∧ nm L e = goal
structure GJ (n : Nat) (one two : List (List Int)) (e goal : Int) (s : FS) : Prop where
  nd : (s.1.map (·.1)).Nodup
  ink : ∀ k v, dget s.1 k = some v → In n k ∧ In n v
  wait : ∀ w ∈ s.2, ∃ v, dget s.1 w = some v
  zero : dget s.1 e = some goal
  tru : ∀ L, LG n one two e goal L → ∀ k v, dget s.1 k = some v → nm L k = v
variable {n : Nat} {one two : List (List Int)} {e goal : Int}
def GS (n : Nat) (one two : List (List Int)) (e goal a b : Int) (s : FS) (r : Lp FS (Option (List Int))) : Prop := match r with
   | .go s' => GJ n one two e goal s' ∧ (∀ j v, dget s.1 j = some v → dget s'.1 j = some v) ∧ dget s'.1 a = some b ∧ (∀ k v, dget s'.1 k = some v → k ∉ s'.2 → dget s.1 k = some v ∧ k ∉ s.2) ∧ fmu n s' ≤ fmu n s ∧ (∃ l, s'.2 = s.2 ++ l) ∧ (s.1.map (·.1) = s.2 → s'.1.map (·.1) = s'.2)
   | .br _ => False
   | .rt v => v = none ∧ ∀ L, ¬LG n one two e goal L
theorem perm_cov : ∀ {l L : List Int}, l.Nodup → (∀ x ∈ l, x ∈ L) → L.length ≤ l.length → l.Perm L
  | [], L, _, _, h => by rw [List.length_eq_zero_iff.mp (Nat.le_zero.mp h)]
  | x :: l, L, nd, hs, h => by
    rw [List.nodup_cons] at nd
    have hx := hs x (List.mem_cons_self ..)
    have p := List.perm_cons_erase hx
    have q := p.length_eq
    simp only [List.length_cons] at q h
    refine (List.Perm.cons x (perm_cov nd.2 (fun y hy => ?_) (by omega))).trans p.symm
    rcases List.mem_cons.mp (p.mem_iff.mp (hs y (List.mem_cons_of_mem _ hy))) with z | z
    · exact absurd (z ▸ hy) nd.1
    · exact z
end Td

namespace Td
open Ty
end Td

namespace Td
open Ty
theorem rot_get {L : List Int} {a k : Nat} (ha : a ≤ L.length) (hk : k < L.length) : (L.drop a ++ L.take a)[k]? = L[(a + k) % L.length]? := by
  by_cases q : a + k < L.length
  · rw [List.getElem?_append_left (by simp; omega), List.getElem?_drop, Nat.mod_eq_of_lt q]
  · rw [List.getElem?_append_right (by simp; omega), List.length_drop, List.getElem?_take_of_lt (by omega), Nat.mod_eq_sub_mod (by omega), Nat.mod_eq_of_lt (by omega)]
    congr 1; omega
theorem nx_rot {n : Nat} {rows rows2 : List (List Int)} {f : Int → Int} (h : Dr n rows) (h2 : Dr n rows2) {row R : List Int} (hr : row ∈ rows) (hR : R ∈ rows2) {a : Nat} (ha : a ≤ row.length) (e : R = (row.map f).drop a ++ (row.map f).take a) {x : Int} (hx : x ∈ row) : nx rows2 (f x) = f (nx rows x) := by
  obtain ⟨j, hj, ej⟩ := List.getElem_of_mem hx
  have hl : R.length = row.length := by rw [e]; simp; omega
  have g : ∀ k, k < row.length → ∀ hk : k < R.length, R[k] = f (row[(a + k) % row.length]'(Nat.mod_lt _ (by omega))) := fun k hk hk' => by
    have q := rot_get (L := row.map f) (a := a) (k := k) (by simpa using ha) (by simpa using hk)
    rw [← e, List.getElem?_eq_getElem hk', List.length_map, List.getElem?_map, List.getElem?_eq_getElem (Nat.mod_lt _ (by omega))] at q
    exact Option.some.inj q
  have hk : (j + row.length - a) % row.length < R.length := by rw [hl]; exact Nat.mod_lt _ (by omega)
  have e1 := g _ (by omega) hk
  have m1 : (a + (j + row.length - a) % row.length) % row.length = j := by
    rw [Nat.add_mod_mod, show a + (j + row.length - a) = j + row.length by omega, Nat.add_mod_right, Nat.mod_eq_of_lt hj]
  simp only [m1] at e1
  have e2 := nx_row h2 hR hk
  have m3 : ((j + row.length - a) % row.length + 1) % R.length < R.length := Nat.mod_lt _ (by omega)
  rw [g _ (by omega) m3] at e2
  have m2 : (a + ((j + row.length - a) % row.length + 1) % R.length) % row.length = (j + 1) % row.length := by
    rw [hl, Nat.mod_add_mod, Nat.add_mod_mod, show a + (j + row.length - a + 1) = j + 1 + row.length by omega, Nat.add_mod_right]
  simp only [m2] at e2
  rw [e1, ej] at e2
  rw [e2]
  have e3 := nx_row h hr hj
  rw [ej] at e3
  rw [e3]
end Td

namespace Td
open Ty
def l_lands_3 (rows : (List (List Int))) : Option (List (List Int)) :=
 (Td.l_behind_3 rows).bind fun behind =>
 lt (([] : (List (Int × Bool))) : (List (Int × Bool))) fun seen =>
 lt (([] : (List (List Int))) : (List (List Int))) fun told =>
 (rng 0 (behind.length : Int)).bind fun xs10 =>
 (forO xs10 ((seen, told) : ((List (Int × Bool)) × (List (List Int)))) fun s12 x11 =>
 (if ¬dhas s12.1 x11 = true then lt (([] : (List Int)) : (List Int)) fun land =>
 lt (x11 : Int) fun step =>
 (whO 100000 ((s12.1, land, step) : ((List (Int × Bool)) × (List Int) × Int)) (fun s19 => some (decide (¬dhas s19.1 s19.2.2 = true))) fun s19 =>
 (dputO s19.1 s19.2.2 true).bind fun seen =>
 (app s19.2.1 s19.2.2).bind fun land =>
 (Td.l_mate s19.2.2).bind fun r31 =>
 (idx behind r31).bind fun step =>
 some (seen, land, step)).bind fun s33 =>
 (app s12.2 s33.2.1).bind fun told =>
 some (s33.1, told)
 else some (s12.1, s12.2) : Option ((List (Int × Bool)) × (List (List Int)))).bind fun j39 =>
 some (j39.1, j39.2)).bind fun s42 =>
 ((lcp rows (fun x47 : (List Int) => some (decide (((x47.length : Int) = 0)))) fun x47 => some ([] : (List Int))).bind fun ys51 => cat s42.2 ys51).bind fun z52 => some (z52)
end Td

namespace Td
open Ty
end Td

namespace Td
open Ty
def l_mirrored (rows : (List (List Int))) : Option (List (List Int)) :=
 lcp rows (fun x1 : (List Int) => some true) fun x1 => (slS x1 none none (-1)).bind fun ys4 =>
 (Td.l_least_2 ys4).bind fun r7 =>
 some r7
end Td

namespace Td
open Ty
variable {m : Nat} {rows : List (List Int)}
theorem rings_form {f : Int → Int} {n : Nat} (P : Pm f n) : ∀ (xs : List Int) (ls : List (List Int)), (∀ x ∈ xs, In n x) → (∀ l ∈ ls, ∃ x, In n x ∧ l = ring f n x) →
    (∀ l ∈ xs.foldl (fun ls x => if x ∈ ls.flatten then ls else ls ++ [ring f n x]) ls, ∃ x, In n x ∧ l = ring f n x) ∧ ∀ y, y ∈ ls.flatten ∨ y ∈ xs → y ∈ (xs.foldl (fun ls x => if x ∈ ls.flatten then ls else ls ++ [ring f n x]) ls).flatten
  | [], ls, _, h => ⟨h, fun y hy => hy.elim id fun z => by simp at z⟩
  | x :: xs, ls, hx, h => by
    rw [List.foldl_cons]
    have ix := hx x (List.mem_cons_self ..)
    by_cases q : x ∈ ls.flatten
    · rw [if_pos q]
      obtain ⟨g1, g2⟩ := rings_form P xs ls (fun y hy => hx y (List.mem_cons_of_mem _ hy)) h
      refine ⟨g1, fun y hy => g2 y ?_⟩
      rcases hy with z | z
      · exact .inl z
      · rcases List.mem_cons.mp z with z | z
        · exact .inl (z ▸ q)
        · exact .inr z
    · rw [if_neg q]
      obtain ⟨g1, g2⟩ := rings_form P xs (ls ++ [ring f n x]) (fun y hy => hx y (List.mem_cons_of_mem _ hy)) (fun l hl => by
        rcases List.mem_append.mp hl with z | z
        · exact h l z
        · exact ⟨x, ix, List.mem_singleton.mp z⟩)
      refine ⟨g1, fun y hy => g2 y ?_⟩
      have fe : (ls ++ [ring f n x]).flatten = ls.flatten ++ ring f n x := by simp
      rw [fe, List.mem_append]
      rcases hy with z | z
      · exact .inl (.inl z)
      · rcases List.mem_cons.mp z with z | z
        · exact .inl (.inr (by rw [z]; exact List.mem_cons_self ..))
        · exact .inr z
theorem rings_all {f : Int → Int} {n : Nat} (P : Pm f n) : (∀ l ∈ rings f n, ∃ x, In n x ∧ l = ring f n x) ∧ ∀ y, In n y → y ∈ (rings f n).flatten := by
  obtain ⟨g1, g2⟩ := rings_form P (span 0 n) [] (fun x hx => mem_span.mp hx) (by simp)
  exact ⟨g1, fun y hy => g2 y (.inr (mem_span.mpr hy))⟩
theorem rings_dr {f : Int → Int} {n : Nat} (P : Pm f n) : Dr n (rings f n) :=
  (perm_cov (span_nodup _ _) (fun y hy => (rings_all P).2 y (mem_span.mp hy)) (by have := (rings_rf P).flen; simpa using this)).symm
theorem nil_flat : ∀ xs : List (List Int), (xs.map fun _ => ([] : List Int)).flatten = []
  | [] => rfl
  | x :: xs => by rw [List.map_cons, List.flatten_cons, nil_flat xs]; rfl
theorem lands_dr (h : Dr (2 * m) rows) : Dr (2 * m) (lands rows) := by
  unfold Dr lands
  rw [List.flatten_append, nil_flat, List.append_nil, h.len]
  exact rings_dr h.stp
theorem lands_full (h : Dr (2 * m) rows) (f : ∀ r ∈ rows, r ≠ []) : ∀ r ∈ lands rows, r ≠ [] := by
  intro r hr
  unfold lands at hr
  rw [h.len] at hr
  rcases List.mem_append.mp hr with q | q
  · exact (rings_rf h.stp).ne r q
  · obtain ⟨a, ha, _⟩ := List.mem_map.mp q
    have := List.mem_filter.mp ha
    exact absurd (of_decide_eq_true this.2) (f a this.1)
def mir (rows : List (List Int)) : List (List Int) := rows.map fun r => least r.reverse
theorem CnE.to {n : Nat} (h : Dr (2 * m) rows) {a b : Int} (c : CnE (2 * m) rows a) (ha : In (2 * m) a) (hb : In (2 * m) b) : CnE (2 * m) rows b := by
  intro S h1 h2 sb
  have sa : S a := Classical.byContradiction fun n0 => by
    refine c (fun x => In (2 * m) x → ¬S x) (fun x hx nx_ _ sx => ?_) (fun x hx nx_ _ sx => ?_) (fun _ => n0) b hb hb sb
    · have := h1 _ (mate_in hx) sx
      rw [mate_mate] at this
      exact nx_ hx this
    · exact nx_ hx (closed_hm h h2 (h.pm.mp _ hx) hx (hm_nx h hx) sx)
  exact c S h1 h2 sa
theorem CnE.op (h : Dr (2 * m) rows) {e : Int} (c : CnE (2 * m) rows e) (he : In (2 * m) e) (f : ∀ r ∈ rows, r ≠ []) : OP (2 * m) rows := by
  obtain ⟨r, hr, _⟩ := List.mem_flatten.mp (h.in.mpr he)
  have l0 : 0 < rows.length := List.length_pos_of_mem hr
  have pl : ∀ i : Nat, (hi : i < rows.length) → ∃ x, In (2 * m) x ∧ hm rows x = (i : Int) := fun i hi => by
    obtain ⟨x, hx⟩ := List.exists_mem_of_ne_nil _ (f rows[i] (List.getElem_mem hi))
    exact ⟨x, h.in.mp (List.mem_flatten.mpr ⟨_, List.getElem_mem hi, hx⟩), hm_row h hi hx⟩
  refine ⟨l0, fun S hS s0 i hi => ?_⟩
  obtain ⟨a, ia, ea⟩ := pl 0 l0
  have hi0 := hi.1; have hi1 := hi.2
  obtain ⟨b, ib, eb⟩ := pl i.toNat (by omega)
  have := (CnE.to (n := 0) h c he ia) (fun x => S (hm rows x)) (fun x hx sx => hS x hx sx) (fun x hx sx => by rw [hm_nx h hx]; exact sx) (by rw [ea]; exact s0) b ib
  rw [eb, show ((i.toNat : Nat) : Int) = i by omega] at this
  exact this
variable {two : List (List Int)} {e g : Int} {L : List Int}
end Td

namespace Td
open Ty
structure Gd where
  z : Nat
  X : Nat → Int
  Y : Nat → Int
  up : Nat
def Gd.ax (G : Gd) (ρ : Nat) (x y : Int) : Int := x * G.X ρ + y * G.X ((G.up + ρ) % G.z)
def Gd.ay (G : Gd) (ρ : Nat) (x y : Int) : Int := x * G.Y ρ + y * G.Y ((G.up + ρ) % G.z)
def G4 : Gd := ⟨4, fun d => match d with | 0 => 1 | 2 => -1 | _ => 0, fun d => match d with | 1 => -1 | 3 => 1 | _ => 0, 3⟩
def G6 : Gd := ⟨6, fun d => match d with | 0 => 1 | 2 => -1 | 3 => -1 | 5 => 1 | _ => 0, fun d => match d with | 1 => -1 | 2 => -1 | 4 => 1 | 5 => 1 | _ => 0, 4⟩
structure Gd.Ok (G : Gd) : Prop where
  even : ∃ h, G.z = 2 * h ∧ 0 < h ∧ h ≤ 3
  ul : G.up < G.z
  r0 : G.X 0 = 1 ∧ G.Y 0 = 0
  ru : G.X G.up = 0 ∧ G.Y G.up = 1
  half : ∀ d < G.z, G.X ((d + G.z / 2) % G.z) = -G.X d ∧ G.Y ((d + G.z / 2) % G.z) = -G.Y d
  turn : ∀ d < G.z, ∀ ρ < G.z, G.ax ρ (G.X d) (G.Y d) = G.X ((d + ρ) % G.z) ∧ G.ay ρ (G.X d) (G.Y d) = G.Y ((d + ρ) % G.z)
theorem G4.ok : G4.Ok := ⟨⟨2, rfl, by decide, by decide⟩, by decide, by decide, by decide, by decide, by decide⟩
theorem G6.ok : G6.Ok := ⟨⟨3, rfl, by decide, by decide⟩, by decide, by decide, by decide, by decide, by decide⟩
structure KR (G : Gd) (rows : List (List Int)) (N : Nat) (E : Nat → Nat → Int) (pl : Int → Int → Nat) : Prop where
  pos : 0 < N
  dr : Dr (G.z * N) rows
  pll : ∀ x y, pl x y < N
  onto : ∀ q < N, ∃ x y, pl x y = q
  ein : ∀ q < N, ∀ d < G.z, In (G.z * N) (E q d)
  all : ∀ e, In (G.z * N) e → ∃ q d, q < N ∧ d < G.z ∧ E q d = e
  inj : ∀ q < N, ∀ d < G.z, ∀ p < N, ∀ f < G.z, E q d = E p f → q = p ∧ d = f
  nxt : ∀ q < N, ∀ d < G.z, nx rows (E q d) = E q ((d + 1) % G.z)
  mat : ∀ x y, ∀ d < G.z, mate (E (pl x y) d) = E (pl (x + G.X d) (y + G.Y d)) ((d + G.z / 2) % G.z)
  zero : pl 0 0 = 0 ∧ E 0 0 = 0
variable {G : Gd} {rows rows' : List (List Int)} {N N' : Nat} {E E' : Nat → Nat → Int} {pl pl' : Int → Int → Nat}
theorem plane_ind (P : Int → Int → Prop) (h0 : P 0 0) (hr : ∀ x y, P x y → P (x + 1) y) (hl : ∀ x y, P x y → P (x - 1) y) (hu : ∀ x y, P x y → P x (y + 1)) (hd : ∀ x y, P x y → P x (y - 1)) : ∀ x y, P x y := by
  have a : ∀ x, P x 0 := fun x => by
    rcases Int.le_total 0 x with h | h
    · obtain ⟨n, rfl⟩ := Int.eq_ofNat_of_zero_le h
      clear h
      induction n with
      | zero => exact h0
      | succ n ih => exact hr _ _ ih
    · obtain ⟨n, e⟩ := Int.eq_ofNat_of_zero_le (show 0 ≤ -x by omega)
      have : x = -(n : Int) := by omega
      subst this
      clear h e
      induction n with
      | zero => exact h0
      | succ n ih => have := hl _ _ ih; rwa [show -((n + 1 : Nat) : Int) = -(n : Int) - 1 by omega]
  intro x y
  rcases Int.le_total 0 y with h | h
  · obtain ⟨n, rfl⟩ := Int.eq_ofNat_of_zero_le h
    clear h
    induction n with
    | zero => exact a x
    | succ n ih => exact hu _ _ ih
  · obtain ⟨n, e⟩ := Int.eq_ofNat_of_zero_le (show 0 ≤ -y by omega)
    have : y = -(n : Int) := by omega
    subst this
    clear h e
    induction n with
    | zero => exact a x
    | succ n ih => have := hd _ _ ih; rwa [show -((n + 1 : Nat) : Int) = -(n : Int) - 1 by omega]
theorem dir_ind (ok : G.Ok) (P : Int → Int → Prop) (h0 : P 0 0) (h : ∀ x y, P x y → ∀ d < G.z, P (x + G.X d) (y + G.Y d)) : ∀ x y, P x y := by
  obtain ⟨hh, z1, z2, z3⟩ := ok.even
  refine plane_ind P h0 (fun x y p => ?_) (fun x y p => ?_) (fun x y p => ?_) (fun x y p => ?_)
  · have := h x y p 0 (by omega); rwa [ok.r0.1, ok.r0.2, Int.add_zero] at this
  · have q := ok.half 0 (by omega)
    have := h x y p _ (Nat.mod_lt (0 + G.z / 2) (by omega))
    rwa [q.1, q.2, ok.r0.1, ok.r0.2, Int.neg_zero, Int.add_zero] at this
  · have := h x y p G.up ok.ul; rwa [ok.ru.1, ok.ru.2, Int.add_zero] at this
  · have q := ok.half G.up ok.ul
    have := h x y p _ (Nat.mod_lt (G.up + G.z / 2) (by omega))
    rwa [q.1, q.2, ok.ru.1, ok.ru.2, Int.neg_zero, Int.add_zero] at this
theorem KR.cn (ok : G.Ok) (k : KR G rows N E pl) : CnE (G.z * N) rows 0 := by
  intro S h1 h2 s0
  have z0 : 0 < G.z := by obtain ⟨hh, z1, z2, z3⟩ := ok.even; omega
  have round : ∀ q < N, ∀ d < G.z, S (E q d) → ∀ f < G.z, S (E q f) := fun q hq d hd s f hf => by
    have go : ∀ j, S (E q ((d + j) % G.z)) := fun j => by
      induction j with
      | zero => rwa [Nat.add_zero, Nat.mod_eq_of_lt hd]
      | succ j ih =>
        have l := Nat.mod_lt (d + j) z0
        have := h2 _ (k.ein q hq _ l) ih
        rw [k.nxt q hq _ l, Nat.mod_add_mod] at this
        exact this
    have := go (f + G.z - d)
    rwa [show d + (f + G.z - d) = f + G.z by omega, Nat.add_mod_right, Nat.mod_eq_of_lt hf] at this
  have all := dir_ind ok (fun x y => ∀ d < G.z, S (E (pl x y) d)) (by
    refine round _ (k.pll 0 0) 0 z0 ?_
    rw [k.zero.1, k.zero.2]; exact s0) (fun x y h d hd => by
    have := h1 _ (k.ein _ (k.pll x y) d hd) (h d hd)
    rw [k.mat x y d hd] at this
    exact round _ (k.pll _ _) _ (Nat.mod_lt _ z0) this)
  intro e he
  obtain ⟨q, d, hq, hd, rfl⟩ := k.all e he
  obtain ⟨x, y, rfl⟩ := k.onto q hq
  exact all x y d hd
theorem Gd.ax_add (x y x' y' : Int) (ρ : Nat) : G.ax ρ (x + x') (y + y') = G.ax ρ x y + G.ax ρ x' y' ∧ G.ay ρ (x + x') (y + y') = G.ay ρ x y + G.ay ρ x' y' := by
  unfold Gd.ax Gd.ay
  constructor <;> rw [Int.add_mul, Int.add_mul] <;> omega
end Td

namespace Td
open Ty
def p_check_numbers (rows : Int) (columns : Int) (shift : Int) : Option (Rx Unit) :=
 (Td.p_are_numbers rows columns shift).bind fun r3 =>
 if ¬(r3 = true) then some (Rx.ex "NoNumbers")
 else (pmul rows columns).bind fun v4 =>
 if (40 < v4) then (fb [40]).bind fun _ => some (Rx.ex "NoNumbers")
 else some (Rx.ok (()))
end Td

namespace Td
open Ty

def beg (xs : List Int) : List Int := match xs.min? with
  | none => []
  | some m => xs.drop (xs.idxOf m) ++ xs.take (xs.idxOf m)
theorem beg_len {xs : List Int} : (beg xs).length = xs.length := by
  unfold beg
  split
  · rename_i h; rw [List.min?_eq_none_iff.mp h]
  · rw [List.length_append, List.length_drop, List.length_take]
    rename_i m h
    have := List.idxOf_lt_length_of_mem (List.min?_eq_some_iff.mp h).1
    omega
theorem beg_ok {xs : List Int} (hl : xs.length ≤ 16777216) (h : xs ≠ []) : ((pmin xs).bind fun v => (ixOf xs v).bind fun a => cat (sl xs (some a) none) (sl xs none (some a))) = some (beg xs) := by
  unfold beg pmin
  cases hm : xs.min? with
  | none => exact absurd (List.min?_eq_none_iff.mp hm) h
  | some m =>
    have hx := (List.min?_eq_some_iff.mp hm).1
    have hi := List.idxOf_lt_length_of_mem hx
    rw [bs, ixOf_ok hx, bs, sl_hi (by omega), sl_lo (by omega), Int.toNat_natCast, cat_ok (by rw [List.length_drop, List.length_take]; omega)]
theorem begun_ok {xs : List Int} (hl : xs.length ≤ 16777216) : p_begun_least xs = some (beg xs) := by
  unfold p_begun_least
  by_cases h : xs = []
  · subst h; rfl
  · rw [if_neg (by simp [h])]; exact beg_ok hl h
theorem least2_ok {xs : List Int} (hl : xs.length ≤ 16777216) : l_least_2 xs = some (beg xs) := by
  unfold l_least_2
  by_cases h : xs = []
  · subst h; rfl
  · rw [if_neg (by have := List.length_pos_iff.mpr h; omega)]; exact beg_ok hl h
theorem beg_rot {x : Int} {xs : List Int} (hn : (x :: xs).Nodup) : beg (x :: xs) = beg (xs ++ [x]) := by
  have hx : x ∉ xs := (List.nodup_cons.mp hn).1
  have hm : ∃ m, (x :: xs).min? = some m := ⟨_, rfl⟩
  obtain ⟨m, hm⟩ := hm
  have h1 := List.min?_eq_some_iff.mp hm
  have h2 : (xs ++ [x]).min? = some m := List.min?_eq_some_iff.mpr ⟨by simpa [or_comm] using h1.1, fun b hb => h1.2 b (by simpa [or_comm] using hb)⟩
  unfold beg
  rw [hm, h2]
  dsimp only
  by_cases e : m = x
  · subst e
    rw [List.idxOf_cons_self, List.idxOf_append, if_neg hx, List.idxOf_cons_self]
    simp
  · have hm' : m ∈ xs := by
      rcases List.mem_cons.mp h1.1 with z | z
      · exact absurd z e
      · exact z
    have hi := List.idxOf_lt_length_of_mem hm'
    have hc : (x :: xs).idxOf m = xs.idxOf m + 1 := by rw [List.idxOf_cons, show (x == m) = false from beq_eq_false_iff_ne.mpr fun z => e z.symm]; rfl
    rw [hc, List.idxOf_append, if_pos hm', List.drop_succ_cons, List.take_succ_cons, List.drop_append_of_le_length (by omega), List.take_append_of_le_length (by omega)]
    simp

def tab (n m : Nat) (g : Nat → Nat → Int) : List (List Int) := (List.range n).map fun q => (List.range m).map (g q)
@[simp] theorem tab_len {n m : Nat} {g : Nat → Nat → Int} : (tab n m g).length = n := by simp [tab]
theorem tab_get {n m : Nat} {g : Nat → Nat → Int} {q : Nat} (h : q < n) : (tab n m g)[q]? = some ((List.range m).map (g q)) := by
  unfold tab
  rw [List.getElem?_map, List.getElem?_range h]; rfl
theorem tab_idx {n m : Nat} {g : Nat → Nat → Int} {q : Nat} (h : q < n) : idx (tab n m g) (q : Int) = some ((List.range m).map (g q)) := idx_at (by omega) (by rw [Int.toNat_natCast]; exact tab_get h)
theorem row_idx {m : Nat} {g : Nat → Int} {k : Nat} (h : k < m) : idx ((List.range m).map g) (k : Int) = some (g k) := idx_at (by omega) (by rw [Int.toNat_natCast, List.getElem?_map, List.getElem?_range h]; rfl)
theorem row_put {m : Nat} {g : Nat → Int} {k : Nat} {v : Int} (h : k < m) : putI ((List.range m).map g) (k : Int) v = some ((List.range m).map fun j => if j = k then v else g j) := by
  rw [putI_ok (by omega) (by simp; omega), Int.toNat_natCast]
  congr 1
  apply List.ext_getElem?
  intro j
  rw [List.getElem?_set, List.getElem?_map, List.getElem?_map]
  by_cases hj : j < m
  · rw [List.getElem?_range hj]
    by_cases e : k = j
    · subst e; simp [h]
    · have : ¬ j = k := fun z => e z.symm
      simp [e, this]
  · have : (List.range m)[j]? = none := by simp; omega
    rw [this]
    have : ¬ k = j := by omega
    simp [this]
theorem tab_set {n m : Nat} {g : Nat → Nat → Int} {q : Nat} {r : Nat → Int} (h : q < n) : setI (tab n m g) (q : Int) ((List.range m).map r) = tab n m fun p k => if p = q then r k else g p k := by
  rw [setI_ok (by omega) (by simp; omega), Int.toNat_natCast]
  unfold tab
  apply List.ext_getElem?
  intro j
  rw [List.getElem?_set, List.getElem?_map, List.getElem?_map]
  by_cases hj : j < n
  · rw [List.getElem?_range hj]
    by_cases e : q = j
    · subst e; simp [h]
    · have : ¬ j = q := fun z => e z.symm
      simp [e, this]
  · have : (List.range n)[j]? = none := by simp; omega
    rw [this]
    have : ¬ q = j := by omega
    simp [this]
theorem tab_congr {n m : Nat} {g h : Nat → Nat → Int} (e : ∀ q < n, ∀ k < m, g q k = h q k) : tab n m g = tab n m h := by
  unfold tab
  apply List.map_congr_left
  intro q hq
  apply List.map_congr_left
  intro k hk
  exact e q (List.mem_range.mp hq) k (List.mem_range.mp hk)
structure Stp (n : Nat) (goals : List Int) (inv : Nat → Nat) : Prop where
  len : goals.length = n
  lt : ∀ q < n, inv q < n
  to : ∀ q < n, goals[inv q]? = some (q : Int)
  un : ∀ p < n, ∃ q, q < n ∧ goals[p]? = some (q : Int) ∧ inv q = p
def sv (size : Nat) (inv : Nat → Nat → Nat) (t : Nat) (q k : Nat) : Int := if k < 2 * t then (if k % 2 = 0 then ((size * q + k : Nat) : Int) else ((size * inv (k / 2) q + k : Nat) : Int)) else 0
def sw (size : Nat) (inv : Nat → Nat → Nat) (t m : Nat) (q k : Nat) : Int :=
  if k = 2 * t then (if q < m then ((size * q + k : Nat) : Int) else 0) else if k = 2 * t + 1 then (if inv t q < m then ((size * inv t q + k : Nat) : Int) else 0) else sv size inv t q k
theorem sw_zero {size : Nat} {inv : Nat → Nat → Nat} {t : Nat} : sw size inv t 0 = sv size inv t := by
  funext q k
  unfold sw sv
  by_cases h1 : k = 2 * t
  · rw [if_pos h1, if_neg (Nat.not_lt_zero _), if_neg (by omega)]
  · rw [if_neg h1]
    by_cases h2 : k = 2 * t + 1
    · rw [if_pos h2, if_neg (Nat.not_lt_zero _), if_neg (by omega)]
    · rw [if_neg h2]
theorem laid_ok {n size S : Nat} {steps : List (List Int)} {clock : List Nat} {inv : Nat → Nat → Nat} (hn : n ≤ 1000) (hS : steps.length = S) (hz : size = 2 * S) (h0 : 0 < S) (hs : S ≤ 100) (hc : clock.length = size) (hk : ∀ k ∈ clock, k < size) (hst : ∀ t (h : t < S), Stp n steps[t] (inv t)) :
    p_laid_out steps (clock.map fun k : Nat => (k : Int)) = some ((List.range n).map fun q => beg (clock.map (sv size inv S q))) := by
  unfold p_laid_out
  rw [lt_eq, List.length_map, hc, idx_at (x := steps[0]) (by omega) (List.getElem?_eq_getElem (by omega)), bs]
  have hl0 := (hst 0 h0).len
  rw [lcp_all (fun _ => List.replicate size 0) (by omega) (fun _ _ => rfl) (fun x _ => by rw [rep_one (by omega) (by omega), bs, Int.toNat_natCast]), bs]
  have e0 : (steps[0].map fun _ => List.replicate size (0 : Int)) = tab n size (sv size inv 0) := by
    apply List.ext_getElem?
    intro q
    by_cases hq : q < n
    · rw [tab_get hq, List.getElem?_map, List.getElem?_eq_getElem (by omega)]
      simp only [Option.map_some, Option.some.injEq]
      apply List.ext_getElem?
      intro k
      rw [List.getElem?_map, List.getElem?_replicate]
      by_cases hk : k < size
      · rw [if_pos hk, List.getElem?_range hk]; simp [sv]
      · rw [if_neg hk, List.getElem?_eq_none (by simp; omega)]; rfl
    · rw [List.getElem?_eq_none (by simp; omega), List.getElem?_eq_none (by simp; omega)]
  rw [e0]
  have main := forO_at (xs := enu 0 steps) (s := tab n size (sv size inv 0)) (f := fun s12 x11 => (forO (enu 0 x11.2) (s12 : ((List (List Int)))) fun s16 x15 =>
   (pmul (size : Int) x15.1).bind fun v21 =>
   (pmul 2 x11.1).bind fun v22 =>
   Ty.lt (v21 + v22 : Int) fun even =>
   (idx s16 x15.1).bind fun z23 =>
   (pmul 2 x11.1).bind fun v24 =>
   (putI z23 v24 even).bind fun z25 =>
   (idx (setI s16 x15.1 z25) x15.2).bind fun z28 =>
   (pmul 2 x11.1).bind fun v29 =>
   (putI z28 (v29 + 1) (even + 1)).bind fun z30 =>
   some (setI (setI s16 x15.1 z25) x15.2 z30)).bind fun s33 =>
   some s33) (fun t s => s = tab n size (sv size inv t)) rfl (fun t s ht hs => by
    rw [enu_length, hS] at ht
    have et : (enu 0 steps)[t]'(by rw [enu_length]; omega) = ((t : Int), steps[t]) := by
      have := enu_get 0 steps t
      rw [List.getElem?_eq_getElem (by rw [enu_length]; omega), List.getElem?_eq_getElem (by omega)] at this
      simpa using this
    rw [et]
    subst hs
    have st := hst t ht
    have inner := forO_at (xs := enu 0 steps[t]) (s := tab n size (sv size inv t)) (f := fun s16 (x15 : Int × Int) =>
     (pmul (size : Int) x15.1).bind fun v21 =>
     (pmul 2 (t : Int)).bind fun v22 =>
     Ty.lt (v21 + v22 : Int) fun even =>
     (idx s16 x15.1).bind fun z23 =>
     (pmul 2 (t : Int)).bind fun v24 =>
     (putI z23 v24 even).bind fun z25 =>
     (idx (setI s16 x15.1 z25) x15.2).bind fun z28 =>
     (pmul 2 (t : Int)).bind fun v29 =>
     (putI z28 (v29 + 1) (even + 1)).bind fun z30 =>
     some (setI (setI s16 x15.1 z25) x15.2 z30)) (fun m s => s = tab n size (sw size inv t m)) (by rw [sw_zero]) (fun m s hm hs => by
      rw [enu_length, st.len] at hm
      obtain ⟨q, hq, hg, hi⟩ := st.un m hm
      have em : (enu 0 steps[t])[m]'(by rw [enu_length, st.len]; omega) = ((m : Int), (q : Int)) := by
        have := enu_get 0 steps[t] m
        rw [List.getElem?_eq_getElem (by rw [enu_length, st.len]; omega), hg] at this
        simpa using this
      rw [em]
      subst hs
      dsimp only
      have f1 : ((2 : Int) * (t : Int)) = ((2 * t : Nat) : Int) := by omega
      have f2 : ((2 * t : Nat) : Int) + 1 = ((2 * t + 1 : Nat) : Int) := by omega
      rw [pmul_ok (by omega) (by omega), bs, pmul_ok (by decide) (by omega), bs, lt_eq, tab_idx hm, bs, bs, f1, row_put (by omega), bs, tab_set hm, tab_idx hq, bs, bs, f2, row_put (by omega), bs, tab_set hq]
      refine Ok.ret (tab_congr fun p hp k hk => ?_)
      have g1 : (size : Int) * (m : Int) + ((2 * t : Nat) : Int) = ((size * m + 2 * t : Nat) : Int) := by push_cast; rfl
      have g2 : ((size * m + 2 * t : Nat) : Int) + 1 = ((size * m + (2 * t + 1) : Nat) : Int) := by push_cast; omega
      rw [g1, g2]
      have key : inv t p = m ↔ p = q := by
        constructor
        · intro e
          have := st.to p hp
          rw [e, hg] at this
          have := Option.some.inj this
          omega
        · intro e; rw [e, hi]
      unfold sw
      by_cases k1 : k = 2 * t
      · subst k1
        have n1 : ¬ (2 * t = 2 * t + 1) := by omega
        simp only [if_true, n1, if_false]
        by_cases p2 : p = m
        · have p4 : p < m + 1 := by omega
          by_cases p1 : p = q
          · have p5 : q = m := p1.symm.trans p2
            simp only [p1, p5, if_true, if_pos (Nat.lt_succ_self m)]
          · rw [if_neg p1, if_pos p2, if_pos p4, p2]
        · by_cases p1 : p = q
          · have p5 : ¬ q = m := fun z => p2 (p1.trans z)
            by_cases p3 : q < m
            · simp only [p1, p5, if_true, if_false, if_pos p3, if_pos (Nat.lt_succ_of_lt p3)]
            · have p6 : ¬ q < m + 1 := by omega
              simp only [p1, p5, if_true, if_false, p3, p6]
          · by_cases p3 : p < m
            · simp only [p1, p2, if_false, if_pos p3, if_pos (Nat.lt_succ_of_lt p3)]
            · have p6 : ¬ p < m + 1 := by omega
              simp only [p1, p2, if_false, p3, p6]
      · by_cases k2 : k = 2 * t + 1
        · subst k2
          have n1 : ¬ (2 * t + 1 = 2 * t) := by omega
          simp only [if_true, n1, if_false]
          by_cases p1 : p = q
          · have p4 : inv t p = m := key.mpr p1
            simp only [p1, if_true]
            rw [← p1, p4, if_pos (Nat.lt_succ_self m)]
          · have p4 : ¬ inv t p = m := fun z => p1 (key.mp z)
            simp only [p1, if_false]
            have r : (if p = m then (if inv t m < m then ((size * inv t m + (2 * t + 1) : Nat) : Int) else 0) else if inv t p < m then ((size * inv t p + (2 * t + 1) : Nat) : Int) else 0) = if inv t p < m then ((size * inv t p + (2 * t + 1) : Nat) : Int) else 0 := by
              by_cases p2 : p = m
              · rw [if_pos p2, p2]
              · rw [if_neg p2]
            rw [r]
            by_cases p3 : inv t p < m
            · rw [if_pos p3, if_pos (by omega)]
            · rw [if_neg p3, if_neg (by omega)]
        · simp only [k1, k2, if_false]
          by_cases p1 : p = q
          · rw [if_pos p1]
            subst p1
            by_cases p2 : p = m
            · rw [if_pos p2, p2]
            · rw [if_neg p2]
          · rw [if_neg p1]
            by_cases p2 : p = m
            · rw [if_pos p2, p2]
            · rw [if_neg p2])
    rw [enu_length, st.len] at inner
    refine inner.bind fun s hs => Ok.ret ?_
    rw [hs]
    refine tab_congr fun p hp k hk => ?_
    unfold sw sv
    have := st.lt p hp
    by_cases k1 : k = 2 * t
    · subst k1
      rw [if_pos rfl, if_pos hp, if_pos (by omega), if_pos (by omega)]
    · by_cases k2 : k = 2 * t + 1
      · subst k2
        rw [if_neg (by omega), if_pos rfl, if_pos this, if_pos (by omega), if_neg (by omega), show (2 * t + 1) / 2 = t by omega]
      · rw [if_neg k1, if_neg k2]
        by_cases k3 : k < 2 * t
        · have k4 : k < 2 * (t + 1) := by omega
          simp only [if_pos k3, if_pos k4]
        · have k4 : ¬ k < 2 * (t + 1) := by omega
          simp only [if_neg k3, if_neg k4])
  rw [enu_length, hS] at main
  rw [main.eqs, bs]
  rw [lcp_all (fun row => beg (clock.map fun k => row.getD k 0)) (by rw [tab_len]; omega) (fun _ _ => rfl) fun row hr => ?_]
  · congr 1
    unfold tab
    rw [List.map_map]
    apply List.map_congr_left
    intro q hq
    show beg _ = beg _
    congr 1
    apply List.map_congr_left
    intro k hk'
    rw [List.getD, List.getElem?_map, List.getElem?_range (hk k hk')]; rfl
  · obtain ⟨q, hq, rfl⟩ := List.mem_map.mp hr
    rw [lcp_all (fun k => ((List.range size).map (sv size inv S q)).getD k.toNat 0) (by rw [List.length_map]; omega) (fun _ _ => rfl) fun k hk' => ?_, bs, begun_ok (by simp; omega), bs]
    · congr 2
      rw [List.map_map]
      apply List.map_congr_left
      intro k _
      show List.getD _ ((k : Int)).toNat 0 = _
      rw [Int.toNat_natCast]
    · obtain ⟨k, hk2, rfl⟩ := List.mem_map.mp hk'
      have := hk k hk2
      rw [row_idx this, bs, Int.toNat_natCast, List.getD, List.getElem?_map, List.getElem?_range this]; rfl
end Td

namespace Td
open Ty
def l_spoilt_2 (box : ((List Int) × Int × Int × Int)) (r : Int) (c : Int) (s : Int) : Option ((Int × Int × Int) × ((List Int) × Int × Int × Int)) :=
 (((Td.l_take box 2).bind fun r3 => (pmul r3.1 10000000000000000000000000000000000000000).bind fun w8 => some (r3, w8)).bind fun r7 => ((Td.l_take r7.1.2 1000000000000000000).bind fun r11 => (Td.l_take r11.2 3).bind fun r15 => (pmul r11.1 r15.1).bind fun w18 => some ((r11, r15), w18)).bind fun r17 => some (r7, r17)).bind fun r19 =>
 (Td.l_take r19.2.1.2.2 6).bind fun r22 =>
 (if (r22.1 = 0) then lt (0 - (r19.1.2 + r19.2.2) : Int) fun r =>
 some r
 else some r : Option (Int)).bind fun j26 =>
 (if (r22.1 = 1) then lt (0 - (r19.1.2 + r19.2.2) : Int) fun c =>
 some c
 else some c : Option (Int)).bind fun j31 =>
 (if (r22.1 = 2) then lt ((-1) - (r19.1.2 + r19.2.2) : Int) fun s =>
 some s
 else some s : Option (Int)).bind fun j36 =>
 (if (r22.1 = 3) then lt (j31 + (r19.1.2 + r19.2.2) : Int) fun s =>
 some s
 else some j36 : Option (Int)).bind fun j41 =>
 (if (r22.1 = 4) then (pdiv 40 (max 1 j31)).bind fun v46 =>
 lt ((v46 + 1) + (r19.1.2 + r19.2.2) : Int) fun r =>
 some r
 else some j26 : Option (Int)).bind fun j47 =>
 (if (r22.1 = 5) then (pdiv 40 (max 1 j47)).bind fun v52 =>
 lt ((v52 + 1) + (r19.1.2 + r19.2.2) : Int) fun c =>
 some c
 else some j31 : Option (Int)).bind fun j53 =>
 some ((j47, j53, j41), r22.2)
end Td

namespace Td
open Ty

theorem dm {c i j : Nat} (h : j < c) : (i * c + j) / c = i ∧ (i * c + j) % c = j := by
  have hc : 0 < c := by omega
  rw [Nat.mul_comm]
  exact ⟨by rw [Nat.mul_add_div hc, Nat.div_eq_of_lt h, Nat.add_zero], by rw [Nat.mul_add_mod, Nat.mod_eq_of_lt h]⟩
theorem dmE {c q : Nat} (h : 0 < c) : ∃ i j, q = i * c + j ∧ j < c ∧ q / c = i ∧ q % c = j := ⟨q / c, q % c, by rw [Nat.mul_comm]; exact (Nat.div_add_mod q c).symm, Nat.mod_lt _ h, rfl, rfl⟩
theorem cmod {a b : Nat} : ((a : Int) % (b : Int)) = ((a % b : Nat) : Int) := rfl
def rgt (c q : Nat) : Nat := q / c * c + (q % c + 1) % c
def rgtI (c q : Nat) : Nat := q / c * c + (q % c + (c - 1)) % c
def upp (r c s q : Nat) : Nat := if q < (r - 1) * c then q + c else (q - (r - 1) * c + s) % c
def uppI (r c s q : Nat) : Nat := if q < c then (r - 1) * c + (q + (c - s)) % c else q - c
theorem md_back {c j s : Nat} (hj : j < c) (hs : s < c) : ((j + (c - s)) % c + s) % c = j := by
  by_cases h : s ≤ j
  · rw [show j + (c - s) = (j - s) + c by omega, Nat.add_mod_right, Nat.mod_eq_of_lt (by omega : j - s < c), show j - s + s = j by omega, Nat.mod_eq_of_lt hj]
  · rw [Nat.mod_eq_of_lt (by omega : j + (c - s) < c), show j + (c - s) + s = j + c by omega, Nat.add_mod_right, Nat.mod_eq_of_lt hj]
theorem md_forth {c j s : Nat} (hj : j < c) (hs : s < c) : ((j + s) % c + (c - s)) % c = j := by
  by_cases h : j + s < c
  · rw [Nat.mod_eq_of_lt h, show j + s + (c - s) = j + c by omega, Nat.add_mod_right, Nat.mod_eq_of_lt hj]
  · rw [show j + s = (j + s - c) + c by omega, Nat.add_mod_right, Nat.mod_eq_of_lt (by omega : j + s - c < c), show j + s - c + (c - s) = j by omega, Nat.mod_eq_of_lt hj]
theorem rgt_lt {r c q : Nat} (hc : 0 < c) (h : q < r * c) : rgt c q < r * c ∧ rgtI c q < r * c ∧ rgt c (rgtI c q) = q ∧ rgtI c (rgt c q) = q := by
  obtain ⟨i, j, e, hj, h1, h2⟩ := dmE (q := q) hc
  have hi : i < r := by
    rw [← h1]
    exact (Nat.div_lt_iff_lt_mul hc).mpr h
  have hm : (i + 1) * c ≤ r * c := Nat.mul_le_mul_right c hi
  rw [Nat.add_mul, Nat.one_mul] at hm
  have a1 : (j + 1) % c < c := Nat.mod_lt _ hc
  have a2 : (j + (c - 1)) % c < c := Nat.mod_lt _ hc
  have d1 := dm (i := i) a1
  have d2 := dm (i := i) a2
  unfold rgt rgtI
  rw [h1, h2, d1.1, d1.2, d2.1, d2.2]
  refine ⟨by omega, by omega, ?_, ?_⟩
  · by_cases h1c : c = 1
    · subst h1c
      have : j = 0 := by omega
      subst this
      rw [e] <;> simp
    · rw [md_back hj (by omega : 1 < c), e]
  · by_cases h1c : c = 1
    · subst h1c
      have : j = 0 := by omega
      subst this
      rw [e] <;> simp
    · rw [md_forth hj (by omega : 1 < c), e]
theorem upp_lt {r c s q : Nat} (hr : 0 < r) (hs : s < c) (h : q < r * c) : upp r c s q < r * c ∧ uppI r c s q < r * c ∧ upp r c s (uppI r c s q) = q ∧ uppI r c s (upp r c s q) = q := by
  obtain ⟨r, rfl⟩ : ∃ k, r = k + 1 := ⟨r - 1, by omega⟩
  have hc : 0 < c := by omega
  unfold upp uppI
  rw [Nat.add_sub_cancel]
  rw [Nat.add_mul, Nat.one_mul] at h ⊢
  refine ⟨?_, ?_, ?_, ?_⟩
  · split
    · omega
    · have := Nat.mod_lt (q - r * c + s) hc
      omega
  · split
    · have := Nat.mod_lt (q + (c - s)) hc
      omega
    · omega
  · by_cases h1 : q < c
    · rw [if_pos h1, if_neg (by omega), show r * c + (q + (c - s)) % c - r * c = (q + (c - s)) % c by omega, md_back h1 hs]
    · rw [if_neg h1, if_pos (by omega)]; omega
  · by_cases h1 : q < r * c
    · rw [if_pos h1, if_neg (by omega)]; omega
    · rw [if_neg h1, if_pos (Nat.mod_lt _ hc), md_forth (by omega) hs]; omega
theorem lcq_ok {α : Type} {r c : Nat} {p : Int → Option Bool} {b : Int → Option (List α)} (H : Nat → α) (hl : r * c ≤ 1000) (hp : ∀ x, p x = some true) (hb : ∀ i : Nat, i < r → b (i : Int) = some ((List.range c).map fun j => H (i * c + j))) :
    lcq (span 0 (r : Int)) p b = some ((List.range (r * c)).map H) := by
  have key : ∀ k : Nat, k ≤ r → lcqO p b (span ((r - k : Nat) : Int) (r : Int)) = some ((List.range (k * c)).map fun j => H ((r - k) * c + j)) := by
    intro k
    induction k with
    | zero => intro _; rw [span_nil (by omega), lcqO]; simp
    | succ k ih =>
      intro hk
      rw [span_cons (by omega), lcqO, hp, bs, if_pos rfl, hb _ (by omega), bs, show ((r - (k + 1) : Nat) : Int) + 1 = ((r - k : Nat) : Int) by omega, ih (by omega), Option.map_some]
      congr 1
      rw [show (k + 1) * c = c + k * c by rw [Nat.add_mul, Nat.one_mul, Nat.add_comm], List.range_add, List.map_append, List.map_map]
      congr 1
      apply List.map_congr_left
      intro j _
      show H _ = H _
      congr 1
      rw [show r - k = (r - (k + 1)) + 1 by omega, Nat.add_mul, Nat.one_mul, Nat.add_assoc]
  have := key r (Nat.le_refl _)
  rw [Nat.sub_self] at this
  unfold lcq
  rw [show ((0 : Nat) : Int) = 0 from rfl] at this
  rw [this, bs, if_pos (by simp; omega)]
  simp
theorem span_map {α : Type} {n : Nat} {f : Int → α} : (span 0 (n : Int)).map f = (List.range n).map fun i : Nat => f (i : Int) := by
  unfold span
  rw [List.map_map, show ((n : Int) - 0).toNat = n by omega]
  apply List.map_congr_left
  intro i _
  show f (0 + (i : Int)) = f (i : Int)
  rw [Int.zero_add]
theorem mem_spanN {n : Nat} {x : Int} (h : x ∈ span 0 (n : Int)) : ∃ j : Nat, x = (j : Int) ∧ j < n := by
  have := mem_span.mp h
  exact ⟨x.toNat, by omega, by omega⟩
theorem rights_ok {r c : Nat} (hc : 0 < c) (hr : r ≤ 1000) (hc2 : c ≤ 1000) (hl : r * c ≤ 1000) : p_rights_of (r : Int) (c : Int) = some ((List.range (r * c)).map fun q => ((rgt c q : Nat) : Int)) := by
  unfold p_rights_of
  rw [rng_ok (by omega) (by omega) (by omega) (by omega), bs]
  refine lcq_ok (fun q => ((rgt c q : Nat) : Int)) hl (fun _ => rfl) fun i hi => ?_
  rw [rng_ok (by omega) (by omega) (by omega) (by omega), bs, lcO_map (pb := fun _ => true) (g := fun x => (((i * c + (x.toNat + 1) % c : Nat)) : Int)) (fun _ _ => rfl) fun x hx _ => ?_, List.filter_eq_self.mpr (fun _ _ => rfl), span_map]
  · congr 1
    apply List.map_congr_left
    intro j hj
    have hj := List.mem_range.mp hj
    show (((i * c + (((j : Int)).toNat + 1) % c : Nat)) : Int) = ((rgt c (i * c + j) : Nat) : Int)
    unfold rgt
    rw [(dm hj).1, (dm hj).2, Int.toNat_natCast]
  · obtain ⟨j, rfl, hj⟩ := mem_spanN hx
    rw [pmul_ok (by omega) (by omega), bs, pmod_ok (by omega), bs, Int.toNat_natCast]
    congr 1
theorem uppers_ok {r c s : Nat} (hr0 : 0 < r) (hc : 0 < c) (hr : r ≤ 1000) (hc2 : c ≤ 1000) (hl : r * c ≤ 1000) (hs : s < c) : p_uppers_of (r : Int) (c : Int) (s : Int) = some ((List.range (r * c)).map fun q => ((upp r c s q : Nat) : Int)) := by
  obtain ⟨r, rfl⟩ : ∃ k, r = k + 1 := ⟨r - 1, by omega⟩
  unfold p_uppers_of
  have e1 : (((r + 1 : Nat) : Int) - 1) = (r : Int) := by omega
  have hl' := hl
  rw [Nat.add_mul, Nat.one_mul] at hl'
  rw [e1, pmul_ok (by omega) (by omega), bs, show (r : Int) * (c : Int) = ((r * c : Nat) : Int) from rfl, rng_ok (by omega) (by omega) (by omega) (by omega), bs, lcm_ok (by simp; omega), bs, rng_ok (by omega) (by omega) (by omega) (by omega), bs,
    lcp_all (fun x => (((x.toNat + s) % c : Nat) : Int)) (by simp; omega) (fun _ _ => rfl) (fun x hx => by
      obtain ⟨j, rfl, hj⟩ := mem_spanN hx
      rw [pmod_ok (by omega), bs, Int.toNat_natCast]; rfl), bs, span_map, span_map, cat_ok (by simp; omega)]
  congr 1
  rw [Nat.add_mul, Nat.one_mul, List.range_add, List.map_append, List.map_map]
  congr 1
  · apply List.map_congr_left
    intro q hq
    have hq := List.mem_range.mp hq
    unfold upp
    rw [Nat.add_sub_cancel, if_pos hq]; rfl
  · apply List.map_congr_left
    intro q hq
    show _ = ((upp (r + 1) c s (r * c + q) : Nat) : Int)
    unfold upp
    rw [Nat.add_sub_cancel, if_neg (by omega), Int.toNat_natCast, show r * c + q - r * c = q by omega]

theorem enu_mid {α : Type} {xs : List α} {pre post : List (Int × α)} {x : Int × α} (e : enu 0 xs = pre ++ x :: post) : x.1 = (pre.length : Int) ∧ xs[pre.length]? = some x.2 := by
  have := enu_get 0 xs pre.length
  rw [e, List.getElem?_append_right (Nat.le_refl _), Nat.sub_self, List.getElem?_cons_zero] at this
  cases h : xs[pre.length]? with
  | none => rw [h] at this; cases this
  | some y =>
    rw [h, Option.map_some] at this
    cases Option.some.inj this
    exact ⟨by simp, rfl⟩
theorem l_row_ok {xs : List Int} : l_row xs xs = some true := by
  unfold l_row
  rw [if_neg (by simp)]
  refine (aft_for (Q := (· = true)) (I := fun pre _ => True) (fun _ => False) trivial (fun pre x post s e _ => ?_) (fun _ _ => Ok.ret rfl) fun _ h => h.elim).eqs
  obtain ⟨e1, e2⟩ := enu_mid e
  have h1 : idx xs x.1 = some x.2 := by rw [e1]; exact idx_at (by omega) (by rw [Int.toNat_natCast]; exact e2)
  rw [h1, bs]
  refine Ok.bindE (a := true) (by unfold l_whole; simp) (Ok.bindE (a := false) (by simp) (Ok.neg (by simp) (Ok.ret trivial)))
theorem l_rows_ok {xs : List (List Int)} : l_rows_2 xs xs = some true := by
  unfold l_rows_2
  rw [if_neg (by simp)]
  refine (aft_for (Q := (· = true)) (I := fun pre _ => True) (fun _ => False) trivial (fun pre x post s e _ => ?_) (fun _ _ => Ok.ret rfl) fun _ h => h.elim).eqs
  obtain ⟨e1, e2⟩ := enu_mid e
  have h1 : idx xs x.1 = some x.2 := by rw [e1]; exact idx_at (by omega) (by rw [Int.toNat_natCast]; exact e2)
  rw [h1, bs]
  exact Ok.bindE (a := true) l_row_ok (Ok.neg (by simp) (Ok.ret trivial))

theorem numbers_ok {n : Int} {b : List Int × Int × Int × Int} (h : Bx n b) (hn : n ≤ 1000) : Ok (l_numbers b) fun r => Bx (n + 5) r.2 ∧ ∃ x y z : Nat, r.1 = ((x : Int), (y : Int), (z : Int)) ∧ 0 < x ∧ z < y ∧ x * y ≤ 40 := by
  unfold l_numbers
  have fin : ∀ {b' : List Int × Int × Int × Int} {x y : Int}, Bx (n + 4) b' → 1 ≤ x → 1 ≤ y → x * y ≤ 40 → Ok ((l_take b' y).bind fun r39 => some ((x, y, r39.1), r39.2)) fun r => Bx (n + 5) r.2 ∧ ∃ x y z : Nat, r.1 = ((x : Int), (y : Int), (z : Int)) ∧ 0 < x ∧ z < y ∧ x * y ≤ 40 := fun {b' x y} hb hx hy hxy => by
    have hy2 : y ≤ 40 := by
      have : y * 1 ≤ y * x := Int.mul_le_mul_of_nonneg_left hx (by omega)
      rw [Int.mul_comm] at hxy
      omega
    refine (take_ok hb (by omega) (by omega) (by omega)).bind fun r ⟨h0, h1, h2⟩ => Ok.ret ⟨h2.mono (by omega), x.toNat, y.toNat, r.1.toNat, ?_, by omega, by omega, ?_⟩
    · rw [Int.toNat_of_nonneg (by omega), Int.toNat_of_nonneg (by omega), Int.toNat_of_nonneg (by omega)]
    · have : ((x.toNat * y.toNat : Nat) : Int) ≤ 40 := by
        rw [Int.natCast_mul, Int.toNat_of_nonneg (by omega), Int.toNat_of_nonneg (by omega)]; exact hxy
      omega
  refine (take_ok h (by omega) (by decide) (by decide)).bind fun r ⟨h0, h1, h2⟩ => ?_
  refine Ok.bind (Q := fun j => Bx (n + 4) j.1 ∧ 1 ≤ j.2.1 ∧ 1 ≤ j.2.2 ∧ j.2.1 * j.2.2 ≤ 40) (Ok.ite (fun hw => ?_) fun hw => ?_) fun j ⟨q1, q2, q3, q4⟩ => fin q1 q2 q3 q4
  · refine Ok.bind (Q := fun r9 => Bx (n + 2) r9.1.2 ∧ r9.2 ∈ [1, 2, 4, 5, 8, 10, 20, 40]) ((take_ok h2 (by omega) (by decide) (by decide)).bind fun r7 ⟨g0, g1, g2⟩ => ?_) fun r9 ⟨g1, g2⟩ => ?_
    · rw [idx_ok g0 (by simpa using g1), bs]
      exact Ok.ret ⟨g2.mono (by omega), List.getElem_mem ..⟩
    · have : r9.2 = 1 ∨ r9.2 = 2 ∨ r9.2 = 4 ∨ r9.2 = 5 ∨ r9.2 = 8 ∨ r9.2 = 10 ∨ r9.2 = 20 ∨ r9.2 = 40 := by simpa using g2
      rw [pdiv_ok (by omega) (by omega), bs]
      refine Ok.ret ⟨g1.mono (by omega), by dsimp only; omega, ?_, ?_⟩ <;> dsimp only <;> rcases this with z | z | z | z | z | z | z | z <;> rw [z] <;> decide
  · rw [idx_ok (by omega) (by simp; omega), bs]
    have hm : ([3, 6, 12, 40, 7] : List Int)[(r.1 - 1).toNat]'(by simp; omega) ∈ ([3, 6, 12, 40, 7] : List Int) := List.getElem_mem ..
    generalize ([3, 6, 12, 40, 7] : List Int)[(r.1 - 1).toNat]'(by simp; omega) = v at *
    have hv : v = 3 ∨ v = 6 ∨ v = 12 ∨ v = 40 ∨ v = 7 := by simpa using hm
    refine (take_ok h2 (by omega) (by omega) (by omega)).bind fun r17 ⟨a0, a1, a2⟩ => ?_
    have p1 : 0 < 40 / (1 + r17.1) := by
      have : 1 ≤ 40 / (1 + r17.1) := (Int.le_ediv_iff_mul_le (by omega)).mpr (by omega)
      omega
    have p2 : 40 / (1 + r17.1) ≤ 40 := Int.ediv_le_self _ (by decide)
    have p3 : (1 + r17.1) * (40 / (1 + r17.1)) ≤ 40 := Int.mul_ediv_self_le (by omega)
    rw [pdiv_ok (by omega) (by omega), bs]
    generalize 40 / (1 + r17.1) = w at *
    refine (take_ok a2 (by omega) p1 (by omega)).bind fun r22 ⟨b0, b1, b2⟩ => ?_
    have p4 : (1 + r17.1) * (1 + r22.1) ≤ 40 := Int.le_trans (Int.mul_le_mul_of_nonneg_left (by omega) (by omega)) p3
    refine Ok.bind (Q := fun j => Bx (n + 4) j.1 ∧ 1 ≤ j.2.1 ∧ 1 ≤ j.2.2 ∧ j.2.1 * j.2.2 ≤ 40) ((take_ok b2 (by omega) (by decide) (by decide)).bind fun r24 ⟨c0, c1, c2⟩ => Ok.ite (fun _ => ?_) fun _ => ?_) fun j hj => Ok.ret hj
    · rw [lt_eq]
      exact Ok.ret ⟨c2.mono (by omega), by dsimp only; omega, by dsimp only; omega, by dsimp only; rw [Int.mul_comm]; exact p4⟩
    · exact Ok.ret ⟨c2.mono (by omega), by dsimp only; omega, by dsimp only; omega, p4⟩
end Td

namespace Td
open Ty
theorem rgt_stp {r c : Nat} (hc : 0 < c) : Stp (r * c) ((List.range (r * c)).map fun q => ((rgt c q : Nat) : Int)) (rgtI c) := by
  refine ⟨by simp, fun q h => (rgt_lt hc h).2.1, fun q h => ?_, fun p h => ⟨rgt c p, (rgt_lt hc h).1, ?_, (rgt_lt hc h).2.2.2⟩⟩
  · rw [List.getElem?_map, List.getElem?_range (rgt_lt hc h).2.1, Option.map_some, (rgt_lt hc h).2.2.1]
  · rw [List.getElem?_map, List.getElem?_range h]; rfl
theorem upp_stp {r c s : Nat} (hr : 0 < r) (hs : s < c) : Stp (r * c) ((List.range (r * c)).map fun q => ((upp r c s q : Nat) : Int)) (uppI r c s) := by
  refine ⟨by simp, fun q h => (upp_lt hr hs h).2.1, fun q h => ?_, fun p h => ⟨upp r c s p, (upp_lt hr hs h).1, ?_, (upp_lt hr hs h).2.2.2⟩⟩
  · rw [List.getElem?_map, List.getElem?_range (upp_lt hr hs h).2.1, Option.map_some, (upp_lt hr hs h).2.2.1]
  · rw [List.getElem?_map, List.getElem?_range h]; rfl
theorem imod {a b : Nat} (hb : 0 < b) {x : Int} (h : x + (b : Int) = (a : Int)) : x % (b : Int) = ((a % b : Nat) : Int) := by
  rw [← Int.add_emod_right, h]; rfl
end Td

namespace Td
open Ty
theorem nx_least {n : Nat} {rows : List (List Int)} (h : Dr n rows) : Dr n (rows.map least) ∧ ∀ x, In n x → nx (rows.map least) x = nx rows x := by
  have d : Dr n (rows.map least) := (least_flat rows).trans h
  refine ⟨d, fun x hx => ?_⟩
  obtain ⟨r, hr, xr⟩ := List.mem_flatten.mp (h.in.mpr hx)
  have := nx_rot (f := id) h d hr (List.mem_map.mpr ⟨r, hr, rfl⟩) (a := r.idxOf (r.min?.getD 0)) List.idxOf_le_length (by rw [List.map_id]; rfl) xr
  exact this
theorem beg_least (xs : List Int) : beg xs = least xs := by
  unfold beg least
  cases h : xs.min? with
  | none => rw [List.min?_eq_none_iff.mp h]; rfl
  | some m => rfl
theorem kr_rows {z N st : Nat} {E : Nat → Nat → Int} (hz : 0 < z) (hst : st < z)
    (all : ∀ e, In (z * N) e → ∃ q d, q < N ∧ d < z ∧ E q d = e)
    {rows : List (List Int)} (hr : rows = (List.range N).map fun q => least ((List.range z).map fun i => E q ((st + i) % z))) :
    Dr (z * N) rows ∧ ∀ q < N, ∀ d < z, nx rows (E q d) = E q ((d + 1) % z) := by
  have lenf : ∀ M, ((List.range M).map fun q => (List.range z).map fun i => E q ((st + i) % z)).flatten.length = z * M := fun M => by
    induction M with
    | zero => simp
    | succ M ih => rw [List.range_succ, List.map_append, List.flatten_append, List.length_append, ih]; simp; rw [Nat.mul_succ]
  have d0 : Dr (z * N) ((List.range N).map fun q => (List.range z).map fun i => E q ((st + i) % z)) := by
    refine (perm_cov (span_nodup _ _) (fun x hx => ?_) (by rw [lenf, span_length]; omega)).symm
    obtain ⟨q, d, hq, hd, rfl⟩ := all x (mem_span.mp hx)
    refine List.mem_flatten.mpr ⟨_, List.mem_map.mpr ⟨q, List.mem_range.mpr hq, rfl⟩, List.mem_map.mpr ⟨(d + z - st) % z, List.mem_range.mpr (Nat.mod_lt _ hz), ?_⟩⟩
    rw [Nat.add_mod_mod, show st + (d + z - st) = d + z by omega, Nat.add_mod_right, Nat.mod_eq_of_lt hd]
  have e : rows = ((List.range N).map fun q => (List.range z).map fun i => E q ((st + i) % z)).map least := by rw [hr, List.map_map]; rfl
  rw [e]
  obtain ⟨d1, n1⟩ := nx_least d0
  refine ⟨d1, fun q hq d hd => ?_⟩
  have rm : ((List.range z).map fun i => E q ((st + i) % z)) ∈ ((List.range N).map fun q => (List.range z).map fun i => E q ((st + i) % z)) := List.mem_map.mpr ⟨q, List.mem_range.mpr hq, rfl⟩
  have hi : (d + z - st) % z < ((List.range z).map fun i => E q ((st + i) % z)).length := by simp; exact Nat.mod_lt _ hz
  have gi : (st + (d + z - st) % z) % z = d := by rw [Nat.add_mod_mod, show st + (d + z - st) = d + z by omega, Nat.add_mod_right, Nat.mod_eq_of_lt hd]
  have q1 := nx_row d0 rm hi
  rw [List.getElem_map, List.getElem_map, List.getElem_range, List.getElem_range, gi] at q1
  have hE : In (z * N) (E q d) := d0.in.mp (List.mem_flatten.mpr ⟨_, rm, by
    have := List.getElem_mem hi
    rw [List.getElem_map, List.getElem_range, gi] at this
    exact this⟩)
  rw [n1 _ hE, q1, List.length_map, List.length_range]
  congr 1
  rw [Nat.add_mod_mod, show st + ((d + z - st) % z + 1) = st + (d + z - st) % z + 1 by omega, ← Nat.mod_add_mod, gi]

def plc (r c s : Nat) (x y : Int) : Nat := (y % r).toNat * c + ((x + s * (y / r)) % c).toNat
theorem toNat_mod {a : Int} {c b : Nat} (hc : 0 < c) : ((a % (c : Int)).toNat + b) % c = ((a + b) % (c : Int)).toNat := by
  have h0 : 0 ≤ a % (c : Int) := Int.emod_nonneg _ (by omega)
  have h1 : 0 ≤ (a + b) % (c : Int) := Int.emod_nonneg _ (by omega)
  have : ((((a % (c : Int)).toNat + b) % c : Nat) : Int) = (((a + b) % (c : Int)).toNat : Int) := by
    rw [Int.natCast_emod, Int.natCast_add, Int.toNat_of_nonneg h0, Int.toNat_of_nonneg h1, Int.emod_add_emod]
  exact Int.ofNat.inj this
theorem toNat_lt {a : Int} {c : Nat} (hc : 0 < c) : (a % (c : Int)).toNat < c := by
  have h0 : 0 ≤ a % (c : Int) := Int.emod_nonneg _ (by omega)
  have h1 : a % (c : Int) < c := Int.emod_lt_of_pos _ (by omega)
  omega
variable {r c s : Nat}
theorem plc_lt (hr : 0 < r) (hc : 0 < c) (x y : Int) : plc r c s x y < r * c := by
  unfold plc
  have h1 := toNat_lt (a := y) hr
  have h2 := toNat_lt (a := x + s * (y / r)) hc
  have := Nat.mul_le_mul_right c (show (y % (r : Int)).toNat + 1 ≤ r by omega)
  rw [Nat.add_mul, Nat.one_mul] at this
  omega
theorem plc_onto (hr : 0 < r) (hc : 0 < c) : ∀ q < r * c, ∃ x y, plc r c s x y = q := fun q hq => by
  obtain ⟨i, j, e, hj, _, _⟩ := dmE (q := q) hc
  have hi : i < r := by
    refine Nat.lt_of_mul_lt_mul_right (a := c) ?_
    omega
  refine ⟨j, i, ?_⟩
  unfold plc
  rw [Int.emod_eq_of_lt (by omega) (by omega), Int.ediv_eq_zero_of_lt (by omega) (by omega), Int.mul_zero, Int.add_zero, Int.emod_eq_of_lt (by omega) (by omega), Int.toNat_natCast, Int.toNat_natCast, e]
theorem plc_zero : plc r c s 0 0 = 0 := by unfold plc; simp
theorem plc_rgt (hc : 0 < c) (x y : Int) : rgt c (plc r c s x y) = plc r c s (x + 1) y := by
  unfold rgt plc
  have h2 := toNat_lt (a := x + s * (y / r)) hc
  rw [(dm h2).1, (dm h2).2, toNat_mod hc]
  congr 3; omega
theorem plc_upp (hr : 0 < r) (hc : 0 < c) (x y : Int) : upp r c s (plc r c s x y) = plc r c s x (y + 1) := by
  unfold upp plc
  have h1 := toNat_lt (a := y) hr
  have h2 := toNat_lt (a := x + s * (y / r)) hc
  have h0 : 0 ≤ y % (r : Int) := Int.emod_nonneg _ (by omega)
  have ey := Int.mul_ediv_add_emod y r
  generalize hk : y / (r : Int) = k at *
  generalize ht : y % (r : Int) = t at *
  by_cases z : t.toNat < r - 1
  · have a1 : (y + 1) / (r : Int) = k ∧ (y + 1) % (r : Int) = t + 1 := (Int.ediv_emod_unique (by omega)).mpr ⟨by omega, by omega, by omega⟩
    have := Nat.mul_le_mul_right c (show t.toNat + 1 ≤ r - 1 by omega)
    rw [Nat.add_mul, Nat.one_mul] at this
    rw [if_pos (by omega), a1.1, a1.2, show (t + 1).toNat = t.toNat + 1 by omega, Nat.add_mul, Nat.one_mul]
    omega
  · have a1 : (y + 1) / (r : Int) = k + 1 ∧ (y + 1) % (r : Int) = 0 := (Int.ediv_emod_unique (by omega)).mpr ⟨by rw [Int.mul_add, Int.mul_one]; omega, by omega, by omega⟩
    have e : t.toNat = r - 1 := by omega
    rw [e, if_neg (by omega), a1.1, a1.2, Nat.add_sub_cancel_left, toNat_mod hc, Int.toNat_zero, Nat.zero_mul, Nat.zero_add, Int.mul_add, Int.mul_one, Int.add_assoc]
theorem plc_lft (hr : 0 < r) (hc : 0 < c) (x y : Int) : rgtI c (plc r c s x y) = plc r c s (x - 1) y := by
  have := plc_rgt (r := r) (s := s) hc (x - 1) y
  rw [Int.sub_add_cancel] at this
  rw [← this, (rgt_lt hc (plc_lt hr hc (x - 1) y)).2.2.2]
theorem plc_dwn (hr : 0 < r) (hs : s < c) (x y : Int) : uppI r c s (plc r c s x y) = plc r c s x (y - 1) := by
  have := plc_upp (s := s) hr (by omega : 0 < c) x (y - 1)
  rw [Int.sub_add_cancel] at this
  rw [← this, (upp_lt hr hs (plc_lt hr (by omega) x (y - 1))).2.2.2]

def cl4 (d : Nat) : Nat := match d with | 0 => 0 | 1 => 3 | 2 => 1 | _ => 2
def A4 (r c s d q : Nat) : Nat := match d with | 1 => uppI r c s q | 2 => rgtI c q | _ => q
def B4 (r c s d q : Nat) : Nat := match d with | 1 => upp r c s q | 2 => rgt c q | _ => q
def E4 (r c s q d : Nat) : Int := ((4 * A4 r c s d q + cl4 d : Nat) : Int)
theorem four_d {d : Nat} (h : d < 4) : d = 0 ∨ d = 1 ∨ d = 2 ∨ d = 3 := by omega
theorem six_d {d : Nat} (h : d < 6) : d = 0 ∨ d = 1 ∨ d = 2 ∨ d = 3 ∨ d = 4 ∨ d = 5 := by omega
theorem kr4 (hr : 0 < r) (hs : s < c) {rows : List (List Int)} (e : rows = (List.range (r * c)).map fun q => beg [((4 * q + 2 : Nat) : Int), ((4 * q : Nat) : Int), ((4 * uppI r c s q + 3 : Nat) : Int), ((4 * rgtI c q + 1 : Nat) : Int)]) : KR G4 rows (r * c) (E4 r c s) (plc r c s) := by
  have hc : 0 < c := by omega
  have A : ∀ q < r * c, ∀ d < 4, A4 r c s d q < r * c ∧ B4 r c s d q < r * c ∧ A4 r c s d (B4 r c s d q) = q ∧ B4 r c s d (A4 r c s d q) = q := fun q hq d hd => by
    obtain ⟨a1, a2, a3, a4⟩ := upp_lt hr hs hq
    obtain ⟨b1, b2, b3, b4⟩ := rgt_lt (r := r) hc hq
    rcases four_d hd with z | z | z | z <;> subst z
    · exact ⟨hq, hq, rfl, rfl⟩
    · exact ⟨a2, a1, a4, a3⟩
    · exact ⟨b2, b1, b4, b3⟩
    · exact ⟨hq, hq, rfl, rfl⟩
  have cl : ∀ d, d < 4 → cl4 d < 4 := by decide
  have ein : ∀ q < r * c, ∀ d < 4, In (4 * (r * c)) (E4 r c s q d) := fun q hq d hd => by
    have := (A q hq d hd).1
    have := cl d hd
    unfold E4
    exact ⟨by omega, by omega⟩
  have all : ∀ x, In (4 * (r * c)) x → ∃ q d, q < r * c ∧ d < 4 ∧ E4 r c s q d = x := fun x hx => by
    have h0 := hx.1; have h1 := hx.2
    obtain ⟨n, rfl⟩ := Int.eq_ofNat_of_zero_le h0
    have ck : ∀ k, k < 4 → ∃ d, d < 4 ∧ cl4 d = k := by decide
    obtain ⟨d, hd, ed⟩ := ck (n % 4) (Nat.mod_lt _ (by decide))
    have hq : n / 4 < r * c := by omega
    refine ⟨B4 r c s d (n / 4), d, (A _ hq d hd).2.1, hd, ?_⟩
    unfold E4
    rw [(A _ hq d hd).2.2.1, ed, Nat.div_add_mod]
  obtain ⟨k1, k2⟩ := kr_rows (z := 4) (st := 3) (N := r * c) (E := E4 r c s) (by decide) (by decide) all (rows := rows) (by
    rw [e]
    apply List.map_congr_left
    intro q _
    rw [beg_least]
    congr 1)
  refine ⟨Nat.mul_pos hr hc, k1, plc_lt hr hc, plc_onto hr hc, ein, all, fun q hq d hd p hp f hf h => ?_, k2, fun x y d hd => ?_, plc_zero, rfl⟩
  · have a := cl d hd
    have b := cl f hf
    have h : 4 * A4 r c s d q + cl4 d = 4 * A4 r c s f p + cl4 f := by unfold E4 at h; omega
    have e1 : cl4 d = cl4 f := by omega
    have inj : ∀ d, d < 4 → ∀ f, f < 4 → cl4 d = cl4 f → d = f := by decide
    have e2 := inj d hd f hf e1
    subst e2
    refine ⟨?_, rfl⟩
    have : A4 r c s d q = A4 r c s d p := by omega
    have := congrArg (B4 r c s d) this
    rwa [(A q hq d hd).2.2.2, (A p hp d hd).2.2.2] at this
  · have hp := plc_lt (s := s) hr hc
    rcases four_d hd with z | z | z | z <;> subst z
    · show mate (((4 * plc r c s x y + 0 : Nat)) : Int) = ((4 * rgtI c (plc r c s (x + 1) (y + 0)) + 1 : Nat) : Int)
      rw [plc_lft hr hc, show x + 1 - 1 = x by omega, Int.add_zero]
      unfold mate; omega
    · show mate (((4 * uppI r c s (plc r c s x y) + 3 : Nat)) : Int) = ((4 * plc r c s (x + 0) (y + -1) + 2 : Nat) : Int)
      rw [plc_dwn hr hs, Int.add_zero, Int.add_neg_eq_sub]
      unfold mate; omega
    · show mate (((4 * rgtI c (plc r c s x y) + 1 : Nat)) : Int) = ((4 * plc r c s (x + -1) (y + 0) + 0 : Nat) : Int)
      rw [plc_lft hr hc, Int.add_zero, Int.add_neg_eq_sub]
      unfold mate; omega
    · show mate (((4 * plc r c s x y + 2 : Nat)) : Int) = ((4 * uppI r c s (plc r c s (x + 0) (y + 1)) + 3 : Nat) : Int)
      rw [plc_dwn hr hs, show y + 1 - 1 = y by omega, Int.add_zero]
      unfold mate; omega

def cl6 (d : Nat) : Nat := match d with | 0 => 0 | 1 => 3 | 2 => 5 | 3 => 1 | 4 => 2 | _ => 4
def A6 (r c s d q : Nat) : Nat := match d with | 1 => uppI r c s q | 2 => uppI r c s (rgtI c q) | 3 => rgtI c q | _ => q
def B6 (r c s d q : Nat) : Nat := match d with | 1 => upp r c s q | 2 => rgt c (upp r c s q) | 3 => rgt c q | _ => q
def E6 (r c s q d : Nat) : Int := ((6 * A6 r c s d q + cl6 d : Nat) : Int)
theorem kr6 (hr : 0 < r) (hs : s < c) {rows : List (List Int)} (e : rows = (List.range (r * c)).map fun q => beg [((6 * q + 2 : Nat) : Int), ((6 * q + 4 : Nat) : Int), ((6 * q : Nat) : Int), ((6 * uppI r c s q + 3 : Nat) : Int), ((6 * uppI r c s (rgtI c q) + 5 : Nat) : Int), ((6 * rgtI c q + 1 : Nat) : Int)]) : KR G6 rows (r * c) (E6 r c s) (plc r c s) := by
  have hc : 0 < c := by omega
  have A : ∀ q < r * c, ∀ d < 6, A6 r c s d q < r * c ∧ B6 r c s d q < r * c ∧ A6 r c s d (B6 r c s d q) = q ∧ B6 r c s d (A6 r c s d q) = q := fun q hq d hd => by
    obtain ⟨a1, a2, a3, a4⟩ := upp_lt hr hs hq
    obtain ⟨b1, b2, b3, b4⟩ := rgt_lt (r := r) hc hq
    obtain ⟨c1, c2, c3, c4⟩ := rgt_lt (r := r) hc a1
    obtain ⟨d1, d2, d3, d4⟩ := upp_lt hr hs b2
    rcases six_d hd with z | z | z | z | z | z <;> subst z
    · exact ⟨hq, hq, rfl, rfl⟩
    · exact ⟨a2, a1, a4, a3⟩
    · refine ⟨d2, c1, ?_, ?_⟩
      · show uppI r c s (rgtI c (rgt c (upp r c s q))) = q
        rw [c4, a4]
      · show rgt c (upp r c s (uppI r c s (rgtI c q))) = q
        rw [d3, b3]
    · exact ⟨b2, b1, b4, b3⟩
    · exact ⟨hq, hq, rfl, rfl⟩
    · exact ⟨hq, hq, rfl, rfl⟩
  have cl : ∀ d, d < 6 → cl6 d < 6 := by decide
  have ein : ∀ q < r * c, ∀ d < 6, In (6 * (r * c)) (E6 r c s q d) := fun q hq d hd => by
    have := (A q hq d hd).1
    have := cl d hd
    unfold E6
    exact ⟨by omega, by omega⟩
  have all : ∀ x, In (6 * (r * c)) x → ∃ q d, q < r * c ∧ d < 6 ∧ E6 r c s q d = x := fun x hx => by
    have h0 := hx.1; have h1 := hx.2
    obtain ⟨n, rfl⟩ := Int.eq_ofNat_of_zero_le h0
    have ck : ∀ k, k < 6 → ∃ d, d < 6 ∧ cl6 d = k := by decide
    obtain ⟨d, hd, ed⟩ := ck (n % 6) (Nat.mod_lt _ (by decide))
    have hq : n / 6 < r * c := by omega
    refine ⟨B6 r c s d (n / 6), d, (A _ hq d hd).2.1, hd, ?_⟩
    unfold E6
    rw [(A _ hq d hd).2.2.1, ed, Nat.div_add_mod]
  obtain ⟨k1, k2⟩ := kr_rows (z := 6) (st := 4) (N := r * c) (E := E6 r c s) (by decide) (by decide) all (rows := rows) (by
    rw [e]
    apply List.map_congr_left
    intro q _
    rw [beg_least]
    congr 1)
  refine ⟨Nat.mul_pos hr hc, k1, plc_lt hr hc, plc_onto hr hc, ein, all, fun q hq d hd p hp f hf h => ?_, k2, fun x y d hd => ?_, plc_zero, rfl⟩
  · have a := cl d hd
    have b := cl f hf
    have h : 6 * A6 r c s d q + cl6 d = 6 * A6 r c s f p + cl6 f := by unfold E6 at h; omega
    have e1 : cl6 d = cl6 f := by omega
    have inj : ∀ d, d < 6 → ∀ f, f < 6 → cl6 d = cl6 f → d = f := by decide
    have e2 := inj d hd f hf e1
    subst e2
    refine ⟨?_, rfl⟩
    have : A6 r c s d q = A6 r c s d p := by omega
    have := congrArg (B6 r c s d) this
    rwa [(A q hq d hd).2.2.2, (A p hp d hd).2.2.2] at this
  · rcases six_d hd with z | z | z | z | z | z <;> subst z
    · show mate (((6 * plc r c s x y + 0 : Nat)) : Int) = ((6 * rgtI c (plc r c s (x + 1) (y + 0)) + 1 : Nat) : Int)
      rw [plc_lft hr hc, show x + 1 - 1 = x by omega, Int.add_zero]
      unfold mate; omega
    · show mate (((6 * uppI r c s (plc r c s x y) + 3 : Nat)) : Int) = ((6 * plc r c s (x + 0) (y + -1) + 2 : Nat) : Int)
      rw [plc_dwn hr hs, Int.add_zero, Int.add_neg_eq_sub]
      unfold mate; omega
    · show mate (((6 * uppI r c s (rgtI c (plc r c s x y)) + 5 : Nat)) : Int) = ((6 * plc r c s (x + -1) (y + -1) + 4 : Nat) : Int)
      rw [plc_lft hr hc, plc_dwn hr hs, Int.add_neg_eq_sub, Int.add_neg_eq_sub]
      unfold mate; omega
    · show mate (((6 * rgtI c (plc r c s x y) + 1 : Nat)) : Int) = ((6 * plc r c s (x + -1) (y + 0) + 0 : Nat) : Int)
      rw [plc_lft hr hc, Int.add_zero, Int.add_neg_eq_sub]
      unfold mate; omega
    · show mate (((6 * plc r c s x y + 2 : Nat)) : Int) = ((6 * uppI r c s (plc r c s (x + 0) (y + 1)) + 3 : Nat) : Int)
      rw [plc_dwn hr hs, show y + 1 - 1 = y by omega, Int.add_zero]
      unfold mate; omega
    · show mate (((6 * plc r c s x y + 4 : Nat)) : Int) = ((6 * uppI r c s (rgtI c (plc r c s (x + 1) (y + 1))) + 5 : Nat) : Int)
      rw [plc_lft hr hc, plc_dwn hr hs, show y + 1 - 1 = y by omega, show x + 1 - 1 = x by omega]
      unfold mate; omega
end Td

namespace Td
open Ty
def p_part_holes (drawing : (List (List Int))) (part : (List Int)) (lands : (List Int)) : Option Int :=
 (lcp part (fun x3 : Int => some true) fun x3 => (idx drawing x3).bind fun v6 =>
 some (v6.length : Int)).bind fun ys7 =>
 lt (ys7.sum / 2 : Int) fun ties =>
 (lcp part (fun x8 : Int => some true) fun x8 => (idx lands x8).bind fun v11 =>
 some v11).bind fun ys12 =>
 some ((((2 - (part.length : Int)) + ties) - ys12.sum) / 2)
end Td

namespace Td
open Ty
def p_holes_of (drawing : (List (List Int))) : Option (List Int) :=
 (Td.p_homes_of drawing).bind fun homes =>
 (lcm drawing fun x8 : (List Int) => if ¬(x8 ≠ []) then 1 else 0).bind fun lands =>
 (Td.p_lands_of drawing).bind fun r14 =>
 (forO r14 (lands : ((List Int))) fun s16 x15 =>
 (if x15 ≠ [] then (idx x15 0).bind fun v19 =>
 (idx homes v19).bind fun v20 =>
 (idx s16 v20).bind fun z21 =>
 lt (setI s16 v20 (z21 + 1)) fun lands =>
 some lands
 else some s16 : Option ((List Int))).bind fun j24 =>
 some j24).bind fun s27 =>
 (Td.p_parts_of drawing).bind fun r32 =>
 lcp r32 (fun x33 : (List Int) => some true) fun x33 => (Td.p_part_holes drawing x33 s27).bind fun r38 =>
 some r38
end Td

namespace Td
open Ty
theorem parts_one {m : Nat} {rows : List (List Int)} (h : Dr (2 * m) rows) (hm' : m ≤ 5000) (hl : rows.length ≤ 10000) (o : OP (2 * m) rows) : p_parts_of rows = some [span 0 (rows.length : Int)] := by
  unfold p_parts_of
  rw [orders_eq h hm' hl, bs, rng_ok (by omega) (by omega) (by omega) (by omega), bs]
  have hnl : (ord rows).length = rows.length := by simp [ord]
  have hin : ∀ y, ∀ z ∈ nr (ord rows) y, In rows.length z := fun y z hz => by
    unfold nr at hz
    cases e : (ord rows)[y.toNat]? with
    | none => rw [e] at hz; simp at hz
    | some r =>
      rw [e] at hz
      obtain ⟨r', hr', rfl⟩ := List.mem_map.mp (List.mem_of_getElem? e)
      obtain ⟨x, hx, rfl⟩ := List.mem_map.mp hz
      have := h.in.mp (List.mem_flatten.mpr ⟨r', hr', hx⟩)
      exact hm_rg h (mate_in this)
  have hnr : ∀ y, (nr (ord rows) y).length ≤ 100000 := fun y => by
    unfold nr
    cases e : (ord rows)[y.toNat]? with
    | none => simp
    | some r =>
      obtain ⟨r', hr', rfl⟩ := List.mem_map.mp (List.mem_of_getElem? e)
      have := h.len
      have := (List.sublist_flatten_of_mem hr').length_le
      simp; omega
  obtain ⟨W, w1, w2⟩ := dc_all (span 0 (rows.length : Int)) [] (span_nodup _ _) (by simp)
  have w1' : dcp (span 0 (rows.length : Int)) (fun _ => some true) (fun x : Int => some (x, true)) = some W := by unfold dcp; rw [if_pos (by simp; omega)]; exact w1
  have w2' : W.map (·.1) = span 0 (rows.length : Int) := by simpa using w2
  have hW : ∀ y, dhas W y = true ↔ In rows.length y := fun y => by rw [dhas_iff, w2', mem_span]; exact Iff.rfl
  have ndW : (W.map (·.1)).Nodup := by rw [w2']; exact span_nodup _ _
  have lW : W.length = rows.length := by have := congrArg List.length w2'; simpa using this
  have h0 := o.1
  unfold p_groups
  rw [w1', bs, lt_eq]
  obtain ⟨⟨g1, W1⟩, e1, d1, d2⟩ := drain_ok hnl hl hin hnr ndW (by omega) (start := 0) ⟨by decide, by omega⟩ ((hW 0).mpr ⟨by decide, by omega⟩)
  dsimp only at d1 d2
  have all := o.2 (fun y => y ∈ g1) (fun x ix hx => by
    have iy := hm_rg h (mate_in ix)
    rcases d1.cov _ ((hW _).mpr iy) with q | q
    · have := d2 _ hx _ ((ord_nr h (hm_rg h ix)).mpr ⟨x, ix, rfl, rfl⟩)
      rw [this] at q; exact absurd q (by decide)
    · exact q) d1.st
  have W0 : W1 = [] := by
    cases W1 with
    | nil => rfl
    | cons p t =>
      have q : dhas (p :: t) p.1 = true := by unfold dhas; simp
      have := (d1.out _ (all p.1 ((hW _).mp (d1.sub _ q)))).2
      rw [q] at this; exact absurd this (by decide)
  subst W0
  have gl := d1.len
  have gp : (span 0 (rows.length : Int)).Perm g1 := perm_cov (span_nodup _ _) (fun y hy => all y (mem_span.mp hy)) (by simp at gl ⊢; omega)
  rw [show span 0 (rows.length : Int) = 0 :: span (0 + 1) rows.length from span_cons (by omega), forO, if_pos ((hW 0).mpr ⟨by decide, by omega⟩), e1, bs, app_ok (by simp), bs, bs, bs]
  dsimp only
  have rest : ∀ xs : List Int, (forO xs (([], [] ++ [srt g1]) : List (Int × Bool) × List (List Int)) fun s12 x11 =>
 (if dhas s12.1 x11 = true then (Td.p_drain (ord rows) s12.1 x11).bind fun r15 => (app s12.2 (srt r15.1)).bind fun found =>
 some (r15.2, found)
 else some (s12.1, s12.2) : Option ((List (Int × Bool)) × (List (List Int)))).bind fun j19 =>
 some (j19.1, j19.2)) = some ([], [] ++ [srt g1]) := fun xs => by
    induction xs with
    | nil => rfl
    | cons x xs ih => rw [forO, if_neg (by simp), bs, bs]; exact ih
  rw [rest, bs, List.nil_append]
  show some [srt g1] = _
  rw [← srt_eq gp (span_up _ _), show span 0 (rows.length : Int) = 0 :: span (0 + 1) rows.length from span_cons (by omega)]

variable {G : Gd} {rows : List (List Int)} {N : Nat} {E : Nat → Nat → Int} {pl : Int → Int → Nat}
theorem KR.half (ok : G.Ok) (k : KR G rows N E pl) : ∃ m, G.z * N = 2 * m := by
  obtain ⟨hh, z1, z2, z3⟩ := ok.even
  exact ⟨hh * N, by rw [z1, Nat.mul_assoc]⟩
theorem KR.stp (ok : G.Ok) (k : KR G rows N E pl) (x y : Int) {d : Nat} (hd : d < G.z) : stp rows (E (pl x y) d) = E (pl (x + G.X d) (y + G.Y d)) ((d + G.z / 2 + 1) % G.z) := by
  obtain ⟨hh, z1, z2, z3⟩ := ok.even
  unfold Ty.stp
  rw [k.mat x y d hd, k.nxt _ (k.pll _ _) _ (Nat.mod_lt _ (by omega)), Nat.mod_add_mod]
def Gd.sx (G : Gd) (d : Nat) : Nat → Int
  | 0 => 0
  | j + 1 => G.sx d j + G.X ((d + j * (G.z / 2 + 1)) % G.z)
def Gd.sy (G : Gd) (d : Nat) : Nat → Int
  | 0 => 0
  | j + 1 => G.sy d j + G.Y ((d + j * (G.z / 2 + 1)) % G.z)
theorem KR.it (ok : G.Ok) (k : KR G rows N E pl) (x y : Int) {d : Nat} (hd : d < G.z) (j : Nat) : Ty.it (Ty.stp rows) j (E (pl x y) d) = E (pl (x + G.sx d j) (y + G.sy d j)) ((d + j * (G.z / 2 + 1)) % G.z) := by
  obtain ⟨hh, z1, z2, z3⟩ := ok.even
  induction j with
  | zero => unfold Ty.it Gd.sx Gd.sy; rw [Int.add_zero, Int.add_zero, Nat.zero_mul, Nat.add_zero, Nat.mod_eq_of_lt hd]
  | succ j ih =>
    rw [Ty.it, ih, k.stp ok _ _ (Nat.mod_lt _ (by omega)), Gd.sx, Gd.sy, Int.add_assoc, Int.add_assoc, Nat.succ_mul, show (d + j * (G.z / 2 + 1)) % G.z + G.z / 2 + 1 = (d + j * (G.z / 2 + 1)) % G.z + (G.z / 2 + 1) by omega, Nat.mod_add_mod, Nat.add_assoc]
theorem KR.ring (ok : G.Ok) (k : KR G rows N E pl) {p : Nat} (hp : 0 < p) (h1 : ∀ d < G.z, G.sx d p = 0 ∧ G.sy d p = 0 ∧ (d + p * (G.z / 2 + 1)) % G.z = d) (h2 : ∀ d < G.z, ∀ j < p, 0 < j → (d + j * (G.z / 2 + 1)) % G.z ≠ d) {e : Int} (he : In (G.z * N) e) : (Ty.ring (Ty.stp rows) (G.z * N) e).length = p := by
  obtain ⟨hh, z1, z2, z3⟩ := ok.even
  obtain ⟨m, em⟩ := k.half ok
  have dr := k.dr
  rw [em] at dr
  have P := dr.stp
  rw [← em] at P
  obtain ⟨q, d, hq, hd, rfl⟩ := k.all e he
  obtain ⟨x, y, rfl⟩ := k.onto q hq
  obtain ⟨kk, k1, k2, k3, k4, er⟩ := P.ring he
  rw [er, List.length_map, List.length_range]
  have a := k.it ok x y hd p
  obtain ⟨b1, b2, b3⟩ := h1 d hd
  rw [b1, b2, b3, Int.add_zero, Int.add_zero] at a
  rcases Nat.lt_trichotomy kk p with c | c | c
  · exfalso
    have := k.it ok x y hd kk
    rw [k3] at this
    have := (k.inj _ (k.pll _ _) _ hd _ (k.pll _ _) _ (Nat.mod_lt _ (by omega)) this).2
    exact h2 d hd kk c k1 this.symm
  · exact c
  · exact absurd a (k4 p hp c)
theorem flat_const {p : Nat} : ∀ ls : List (List Int), (∀ l ∈ ls, l.length = p) → ls.flatten.length = p * ls.length
  | [], _ => by simp
  | l :: ls, h => by
    rw [List.flatten_cons, List.length_append, List.length_cons, h l (List.mem_cons_self ..), flat_const ls fun x hx => h x (List.mem_cons_of_mem _ hx), Nat.mul_add, Nat.mul_one, Nat.add_comm]
theorem KR.lands (ok : G.Ok) (k : KR G rows N E pl) (full : ∀ r ∈ rows, r ≠ []) {p : Nat} (hp : 0 < p) (h1 : ∀ d < G.z, G.sx d p = 0 ∧ G.sy d p = 0 ∧ (d + p * (G.z / 2 + 1)) % G.z = d) (h2 : ∀ d < G.z, ∀ j < p, 0 < j → (d + j * (G.z / 2 + 1)) % G.z ≠ d) : (∀ l ∈ Ty.lands rows, l.length = p) ∧ p * (Ty.lands rows).length = G.z * N := by
  obtain ⟨m, em⟩ := k.half ok
  have dr := k.dr
  rw [em] at dr
  have lf := lands_full dr full
  have a : ∀ l ∈ Ty.lands rows, l.length = p := fun l hl => by
    have hn := lf l hl
    unfold Ty.lands at hl
    rw [dr.len] at hl
    rcases List.mem_append.mp hl with q | q
    · obtain ⟨x, ix, rfl⟩ := (rings_all dr.stp).1 l q
      rw [← em] at ix ⊢
      exact k.ring ok hp h1 h2 ix
    · obtain ⟨b, _, rfl⟩ := List.mem_map.mp q
      exact absurd rfl hn
  refine ⟨a, ?_⟩
  rw [← flat_const _ a, (lands_dr dr).len, em]
end Td

namespace Td
open Ty
def fr4 (r c s q : Nat) : List Int := beg [((4 * q + 2 : Nat) : Int), ((4 * q : Nat) : Int), ((4 * uppI r c s q + 3 : Nat) : Int), ((4 * rgtI c q + 1 : Nat) : Int)]
def tr6 (r c s q : Nat) : List Int := beg [((6 * q + 2 : Nat) : Int), ((6 * q + 4 : Nat) : Int), ((6 * q : Nat) : Int), ((6 * uppI r c s q + 3 : Nat) : Int), ((6 * uppI r c s (rgtI c q) + 5 : Nat) : Int), ((6 * rgtI c q + 1 : Nat) : Int)]
def K4 (r c s : Nat) : List (List Int) := (List.range (r * c)).map (fr4 r c s)
def K6 (r c s : Nat) : List (List Int) := (List.range (r * c)).map (tr6 r c s)
variable {r c s : Nat}
theorem K4.kr (hr : 0 < r) (hs : s < c) : KR G4 (K4 r c s) (r * c) (E4 r c s) (plc r c s) := kr4 hr hs rfl
theorem K6.kr (hr : 0 < r) (hs : s < c) : KR G6 (K6 r c s) (r * c) (E6 r c s) (plc r c s) := kr6 hr hs rfl
theorem K4.full : ∀ x ∈ K4 r c s, x.length = 4 := fun x hx => by
  obtain ⟨q, _, rfl⟩ := List.mem_map.mp hx
  unfold fr4; rw [beg_len]; rfl
theorem K6.full : ∀ x ∈ K6 r c s, x.length = 6 := fun x hx => by
  obtain ⟨q, _, rfl⟩ := List.mem_map.mp hx
  unfold tr6; rw [beg_len]; rfl
theorem K4.len : (K4 r c s).length = r * c := by simp [K4]
theorem K6.len : (K6 r c s).length = r * c := by simp [K6]
theorem fours_by_ok (hr : 0 < r) (hs : s < c) (hl : r * c ≤ 1000) : p_fours_by (r : Int) (c : Int) (s : Int) = some (K4 r c s) := by
  have h1 : r ≤ 1000 := Nat.le_trans (Nat.le_mul_of_pos_right r (by omega)) hl
  have h2 : c ≤ 1000 := Nat.le_trans (Nat.le_mul_of_pos_left c hr) hl
  unfold p_fours_by
  rw [rights_ok (by omega) (by omega) (by omega) (by omega), bs, uppers_ok hr (by omega) (by omega) (by omega) (by omega) hs, bs]
  have e : ([0, 3, 1, 2] : List Int) = ([0, 3, 1, 2] : List Nat).map fun k : Nat => (k : Int) := rfl
  rw [e, laid_ok (n := r * c) (size := 4) (S := 2) (inv := fun t => if t = 0 then rgtI c else uppI r c s) (by omega) rfl rfl (by decide) (by decide) rfl (by decide) (fun t ht => by
    match t, ht with
    | 0, _ => exact rgt_stp (by omega)
    | 1, _ => exact upp_stp hr hs)]
  congr 1
  apply List.map_congr_left
  intro q _
  have e2 : ([0, 3, 1, 2] : List Nat).map (sv 4 (fun t => if t = 0 then rgtI c else uppI r c s) 2 q) = [((4 * q : Nat) : Int), ((4 * uppI r c s q + 3 : Nat) : Int), ((4 * rgtI c q + 1 : Nat) : Int), ((4 * q + 2 : Nat) : Int)] := by
    simp [sv]
  rw [e2]
  unfold fr4
  exact (beg_rot (x := ((4 * q + 2 : Nat) : Int)) (xs := [((4 * q : Nat) : Int), ((4 * uppI r c s q + 3 : Nat) : Int), ((4 * rgtI c q + 1 : Nat) : Int)]) (by simp only [List.nodup_cons, List.mem_cons, List.not_mem_nil, or_false, not_or, List.nodup_nil, and_true, not_false_eq_true]; omega)).symm
theorem slant_stp' (hr : 0 < r) (hs : s < c) : Stp (r * c) ((List.range (r * c)).map fun q => ((rgt c (upp r c s q) : Nat) : Int)) (fun q => uppI r c s (rgtI c q)) := by
  have hc : 0 < c := by omega
  refine ⟨by simp, fun q h => (upp_lt hr hs (rgt_lt hc h).2.1).2.1, fun q h => ?_, fun p h => ⟨rgt c (upp r c s p), (rgt_lt hc (upp_lt hr hs h).1).1, ?_, ?_⟩⟩
  · have h1 := (rgt_lt hc h).2.1
    rw [List.getElem?_map, List.getElem?_range (upp_lt hr hs h1).2.1, Option.map_some, (upp_lt hr hs h1).2.2.1, (rgt_lt hc h).2.2.1]
  · rw [List.getElem?_map, List.getElem?_range h]; rfl
  · show uppI r c s (rgtI c (rgt c (upp r c s p))) = p
    rw [(rgt_lt hc (upp_lt hr hs h).1).2.2.2, (upp_lt hr hs h).2.2.2]
theorem threes_by_ok (hr : 0 < r) (hs : s < c) (hl : r * c ≤ 1000) : p_threes_by_3 (r : Int) (c : Int) (s : Int) = some (K6 r c s) := by
  have h1 : r ≤ 1000 := Nat.le_trans (Nat.le_mul_of_pos_right r (by omega)) hl
  have h2 : c ≤ 1000 := Nat.le_trans (Nat.le_mul_of_pos_left c hr) hl
  unfold p_threes_by_3
  rw [rights_ok (by omega) (by omega) (by omega) (by omega), bs, uppers_ok hr (by omega) (by omega) (by omega) (by omega) hs, bs]
  rw [lcp_all (fun x => ((rgt c x.toNat : Nat) : Int)) (by simp; omega) (fun _ _ => rfl) (fun x hx => by
    obtain ⟨q, hq, rfl⟩ := List.mem_map.mp hx
    have h := (upp_lt hr hs (List.mem_range.mp hq)).1
    rw [idx_at (x := ((rgt c (upp r c s q) : Nat) : Int)) (by omega) (by rw [Int.toNat_natCast, List.getElem?_map, List.getElem?_range h]; rfl), bs, Int.toNat_natCast]), bs, List.map_map, bs]
  have e0 : (List.range (r * c)).map ((fun x : Int => ((rgt c x.toNat : Nat) : Int)) ∘ fun q => ((upp r c s q : Nat) : Int)) = (List.range (r * c)).map fun q => ((rgt c (upp r c s q) : Nat) : Int) := by
    apply List.map_congr_left
    intro q _
    show ((rgt c ((upp r c s q : Nat) : Int).toNat : Nat) : Int) = _
    rw [Int.toNat_natCast]
  have e : ([0, 3, 5, 1, 2, 4] : List Int) = ([0, 3, 5, 1, 2, 4] : List Nat).map fun k : Nat => (k : Int) := rfl
  rw [e0, e, laid_ok (n := r * c) (size := 6) (S := 3) (inv := fun t => if t = 0 then rgtI c else if t = 1 then uppI r c s else fun q => uppI r c s (rgtI c q)) (by omega) rfl rfl (by decide) (by decide) rfl (by decide) (fun t ht => by
    match t, ht with
    | 0, _ => exact rgt_stp (by omega)
    | 1, _ => exact upp_stp hr hs
    | 2, _ => exact slant_stp' hr hs), bs, bs]
  congr 1
  apply List.map_congr_left
  intro q _
  have e2 : ([0, 3, 5, 1, 2, 4] : List Nat).map (sv 6 (fun t => if t = 0 then rgtI c else if t = 1 then uppI r c s else fun q => uppI r c s (rgtI c q)) 3 q) = [((6 * q : Nat) : Int), ((6 * uppI r c s q + 3 : Nat) : Int), ((6 * uppI r c s (rgtI c q) + 5 : Nat) : Int), ((6 * rgtI c q + 1 : Nat) : Int), ((6 * q + 2 : Nat) : Int), ((6 * q + 4 : Nat) : Int)] := by
    simp [sv]
  rw [e2]
  unfold tr6
  generalize uppI r c s (rgtI c q) = x
  generalize uppI r c s q = y
  generalize rgtI c q = z
  rw [beg_rot (x := ((6 * q + 2 : Nat) : Int)) (xs := [((6 * q + 4 : Nat) : Int), ((6 * q : Nat) : Int), ((6 * y + 3 : Nat) : Int), ((6 * x + 5 : Nat) : Int), ((6 * z + 1 : Nat) : Int)]) (by simp only [List.nodup_cons, List.mem_cons, List.not_mem_nil, or_false, not_or, List.nodup_nil, and_true, not_false_eq_true]; omega)]
  exact (beg_rot (x := ((6 * q + 4 : Nat) : Int)) (xs := [((6 * q : Nat) : Int), ((6 * y + 3 : Nat) : Int), ((6 * x + 5 : Nat) : Int), ((6 * z + 1 : Nat) : Int), ((6 * q + 2 : Nat) : Int)]) (by simp only [List.nodup_cons, List.mem_cons, List.not_mem_nil, or_false, not_or, List.nodup_nil, and_true, not_false_eq_true, List.cons_append]; omega)).symm
end Td

namespace Td
open Ty
def l_ends (rows : (List (List Int))) (many : Int) : Option Bool :=
 lt (([] : (List Int)) : (List Int)) fun ends =>
 aft (forR rows (ends : ((List Int))) fun s4 x3 =>
 if ((x3.length : Int) ≠ many) then some (.rt (false))
 else (cat s4 x3).bind fun ends =>
 some (.go ends)) (fun s10 =>
 aft (forR s10 (() : Unit) fun s16 x15 =>
 (Td.l_whole x15).bind fun r21 =>
 if ¬(r21 = true) then some (.rt (false))
 else some (.go ())) (fun s22 =>
 (rng 0 (s10.length : Int)).bind fun xs25 =>
 some (decide ((srt s10) = xs25))) fun r_ => some r_) fun r_ => some r_
end Td

namespace Td
open Ty
def law_k37 (script : (List Int)) : Option Bool :=
 lt ((script, 0, 0, 0) : ((List Int) × Int × Int × Int)) fun box =>
 (Td.l_take box 2).bind fun r5 =>
 (Td.l_numbers r5.2).bind fun r7 =>
 (Td.p_fours_2 r7.1.1 r7.1.2.1 r7.1.2.2).bind fun r15 =>
 (Td.p_threes_4 r7.1.1 r7.1.2.1 r7.1.2.2).bind fun r18 =>
 (idx [r15, r18] r5.1).bind fun z21 =>
 (idx [4, 6] r5.1).bind fun many =>
 (pmul r7.1.1 r7.1.2.1).bind fun v25 =>
 (if ((z21.length : Int) ≠ v25) then some true else (Td.l_ends z21 many).bind fun r28 =>
 some (decide (¬(r28 = true)))).bind fun b29 =>
 if b29 = true then some (false)
 else (Td.l_lands_3 z21).bind fun lands =>
 aft (forR lands (() : Unit) fun s38 x37 =>
 (idx [4, 3] r5.1).bind fun v41 =>
 if ((x37.length : Int) ≠ v41) then some (.rt (false))
 else some (.go ())) (fun s42 =>
 (Td.l_part_count z21).bind fun r47 =>
 (if (r47 ≠ 1) then some true else (pmul r7.1.1 r7.1.2.1).bind fun v48 =>
 (pmul r7.1.1 r7.1.2.1).bind fun v49 =>
 (pmul v49 many).bind fun v50 =>
 some (decide ((((v48 - (v50 / 2)) + (lands.length : Int)) ≠ 0)))).bind fun b51 =>
 if b51 = true then some (false)
 else (lcm z21 fun x54 : (List Int) => x54).bind fun kept =>
 (Td.p_lands_of z21).bind fun r60 =>
 (Td.l_rows_2 r60 lands).bind fun r63 =>
 (if ¬(r63 = true) then some true else (Td.p_holes_of z21).bind fun r66 =>
 (Td.l_row r66 [1]).bind fun r69 =>
 some (decide (¬(r69 = true)))).bind fun b70 =>
 if b70 = true then some (false)
 else (Td.p_parts_of z21).bind fun r73 =>
 (pmul r7.1.1 r7.1.2.1).bind fun v74 =>
 (rng 0 v74).bind fun xs75 =>
 (Td.l_rows_2 r73 [xs75]).bind fun r78 =>
 some (decide (r78 = true ∧ (z21 = kept)))) fun r_ => some r_
end Td

namespace Td
open Ty
theorem check2_ok {r c s : Nat} (hr : 0 < r) (hs : s < c) (hl : r * c ≤ 40) : p_check_numbers_2 (r : Int) (c : Int) (s : Int) = some () := by
  have h1 : r ≤ 40 := Nat.le_trans (Nat.le_mul_of_pos_right r (by omega)) hl
  have h2 : c ≤ 40 := Nat.le_trans (Nat.le_mul_of_pos_left c hr) hl
  unfold p_check_numbers_2 p_are_numbers
  rw [bs, if_neg (by simp; omega), pmul_ok (by omega) (by omega), bs, show (r : Int) * (c : Int) = ((r * c : Nat) : Int) from rfl, if_neg (by omega)]
end Td

namespace Td
open Ty
variable {n m : Nat} {one two tre : List (List Int)} {L M : List Int}
noncomputable def autL (n : Nat) (rows : List (List Int)) (e : Int) : List Int := (span 0 (n : Int)).filter fun g => @decide (∃ L, LG n rows rows e g L) (Classical.propDecidable _)
end Td

namespace Td
open Ty
def Lat (r c s : Nat) (x y : Int) : Prop := y % (r : Int) = 0 ∧ (x + s * (y / (r : Int))) % (c : Int) = 0
variable {r c s : Nat}
theorem lat_iff (hr : 0 < r) {x y : Int} : Lat r c s x y ↔ ∃ k l : Int, y = r * k ∧ x + s * k = c * l := by
  constructor
  · rintro ⟨h1, h2⟩
    obtain ⟨k, rfl⟩ := Int.dvd_of_emod_eq_zero h1
    rw [Int.mul_ediv_cancel_left _ (by omega)] at h2
    obtain ⟨l, e⟩ := Int.dvd_of_emod_eq_zero h2
    exact ⟨k, l, rfl, e⟩
  · rintro ⟨k, l, rfl, e⟩
    refine ⟨Int.mul_emod_right _ _, ?_⟩
    rw [Int.mul_ediv_cancel_left _ (by omega), e]
    exact Int.mul_emod_right _ _
theorem plc_iff (hr : 0 < r) (hc : 0 < c) {x y x' y' : Int} : plc r c s x y = plc r c s x' y' ↔ Lat r c s (x - x') (y - y') := by
  have a0 : 0 ≤ y % (r : Int) := Int.emod_nonneg _ (by omega)
  have a1 : 0 ≤ y' % (r : Int) := Int.emod_nonneg _ (by omega)
  have b0 : 0 ≤ (x + s * (y / r)) % (c : Int) := Int.emod_nonneg _ (by omega)
  have b1 : 0 ≤ (x' + s * (y' / r)) % (c : Int) := Int.emod_nonneg _ (by omega)
  have l1 := toNat_lt (a := x + s * (y / r)) hc
  have l2 := toNat_lt (a := x' + s * (y' / r)) hc
  have key : plc r c s x y = plc r c s x' y' ↔ y % (r : Int) = y' % (r : Int) ∧ (x + s * (y / r)) % (c : Int) = (x' + s * (y' / r)) % (c : Int) := by
    constructor
    · intro h
      have h1 := congrArg (· / c) h
      have h2 := congrArg (· % c) h
      unfold plc at h1 h2
      rw [(dm l1).1, (dm l2).1] at h1
      rw [(dm l1).2, (dm l2).2] at h2
      exact ⟨by omega, by omega⟩
    · rintro ⟨h1, h2⟩
      unfold plc
      rw [h1, h2]
  rw [key, lat_iff hr]
  have ey := Int.mul_ediv_add_emod y r
  have ey' := Int.mul_ediv_add_emod y' r
  constructor
  · rintro ⟨h1, h2⟩
    have := Int.emod_emod_of_dvd
    have h3 := Int.emod_eq_emod_iff_emod_sub_eq_zero.mp h2
    obtain ⟨l, e⟩ := Int.dvd_of_emod_eq_zero h3
    refine ⟨y / r - y' / r, l, ?_, ?_⟩
    · rw [Int.mul_sub]; omega
    · rw [← e, Int.mul_sub]; omega
  · rintro ⟨k, l, e1, e2⟩
    have h1 : y % (r : Int) = y' % (r : Int) := Int.emod_eq_emod_iff_emod_sub_eq_zero.mpr (by rw [e1]; exact Int.mul_emod_right _ _)
    refine ⟨h1, Int.emod_eq_emod_iff_emod_sub_eq_zero.mpr ?_⟩
    have : y / (r : Int) - y' / r = k := by
      have : (r : Int) * (y / r - y' / r) = r * k := by rw [Int.mul_sub]; omega
      exact Int.eq_of_mul_eq_mul_left (by omega) this
    have e3 : x + s * (y / r) - (x' + s * (y' / r)) = c * l := by
      rw [← e2, ← this, Int.mul_sub]; omega
    rw [e3]; exact Int.mul_emod_right _ _

variable {G : Gd}
theorem turn_turn (ok : G.Ok) {ρ σ : Nat} (hρ : ρ < G.z) (hσ : σ < G.z) (x y : Int) : G.ax ρ (G.ax σ x y) (G.ay σ x y) = G.ax ((σ + ρ) % G.z) x y ∧ G.ay ρ (G.ax σ x y) (G.ay σ x y) = G.ay ((σ + ρ) % G.z) x y := by
  have z0 : 0 < G.z := by omega
  have a := ok.turn σ hσ ρ hρ
  have b := ok.turn ((G.up + σ) % G.z) (Nat.mod_lt _ z0) ρ hρ
  have e : ((G.up + σ) % G.z + ρ) % G.z = (G.up + (σ + ρ) % G.z) % G.z := by rw [Nat.mod_add_mod, Nat.add_mod_mod, Nat.add_assoc]
  rw [e] at b
  have lin : ∀ (u v p q : Int), G.ax ρ (x * u + y * v) (x * p + y * q) = x * G.ax ρ u p + y * G.ax ρ v q ∧ G.ay ρ (x * u + y * v) (x * p + y * q) = x * G.ay ρ u p + y * G.ay ρ v q := fun u v p q => by
    unfold Gd.ax Gd.ay
    constructor <;> simp only [Int.add_mul, Int.mul_add, Int.mul_assoc] <;> omega
  obtain ⟨l1, l2⟩ := lin (G.X σ) (G.X ((G.up + σ) % G.z)) (G.Y σ) (G.Y ((G.up + σ) % G.z))
  constructor
  · show G.ax ρ (x * G.X σ + y * G.X ((G.up + σ) % G.z)) (x * G.Y σ + y * G.Y ((G.up + σ) % G.z)) = x * G.X ((σ + ρ) % G.z) + y * G.X ((G.up + (σ + ρ) % G.z) % G.z)
    rw [l1, a.1, b.1]
  · show G.ay ρ (x * G.X σ + y * G.X ((G.up + σ) % G.z)) (x * G.Y σ + y * G.Y ((G.up + σ) % G.z)) = x * G.Y ((σ + ρ) % G.z) + y * G.Y ((G.up + (σ + ρ) % G.z) % G.z)
    rw [l2, a.2, b.2]
theorem turn_zero (ok : G.Ok) (x y : Int) : G.ax 0 x y = x ∧ G.ay 0 x y = y := by
  unfold Gd.ax Gd.ay
  rw [Nat.add_zero, Nat.mod_eq_of_lt ok.ul, ok.r0.1, ok.r0.2, ok.ru.1, ok.ru.2]
  constructor <;> omega
def Tk (G : Gd) (r' c' s' r c s ρ : Nat) : Prop := ∀ x y, Lat r' c' s' x y → Lat r c s (G.ax ρ x y) (G.ay ρ x y)
variable {rows rows' : List (List Int)} {N : Nat} {E E' : Nat → Nat → Int} {r' c' s' : Nat}
end Td

namespace Td
open Ty
def l_in (r : Int) (c : Int) (s : Int) (x : Int) (y : Int) : Option Bool :=
 (pmod y r).bind fun v1 =>
 if (v1 = 0) then (pdiv y r).bind fun v2 =>
 (pmul s v2).bind fun v3 =>
 (pmod (x + v3) c).bind fun v4 =>
 some (decide (v4 = 0)) else some false
end Td

namespace Td
open Ty
def l_ways_2 (sort : Txt) (q : Int) : Option ((Int × Int) × (Int × Int)) :=
 (if (sort = (tx [102, 111, 117, 114, 115])) then lt ([(1, 0), (-1, 0), (0, 1), (0, -1)] : (List (Int × Int))) fun ways =>
 lt ([(0, 1), (0, -1), (-1, 0), (1, 0)] : (List (Int × Int))) fun ups =>
 some (ways, ups)
 else lt ([(1, 0), (-1, 0), (0, 1), (0, -1), (1, 1), (-1, -1)] : (List (Int × Int))) fun ways =>
 lt ([(0, 1), (0, -1), (-1, -1), (1, 1), (-1, 0), (1, 0)] : (List (Int × Int))) fun ups =>
 some (ways, ups) : Option ((List (Int × Int)) × (List (Int × Int)))).bind fun j9 =>
 (idx j9.1 q).bind fun v12 =>
 (idx j9.2 q).bind fun v13 =>
 some ((v12, v13))
end Td

namespace Td
open Ty
def l_read_2 (sort : Txt) (r : Int) (c : Int) (s : Int) (q : Int) : Option (Int × Int × Int) :=
 (Td.l_ways_2 sort q).bind fun y4 =>
 lt (1 : Int) fun columns =>
 (whO 100000 (columns : (Int)) (fun s9 => (pmul s9 y4.1.1).bind fun v12 =>
 (pmul s9 y4.1.2).bind fun v13 =>
 (Td.l_in r c s v12 v13).bind fun r16 =>
 some (decide (¬(r16 = true)))) fun s9 =>
 lt (s9 + 1 : Int) fun columns =>
 some columns).bind fun s19 =>
 (pmul r c).bind fun v22 =>
 (rng 1 (v22 + 1)).bind fun xs23 =>
 aft (forR xs23 (() : Unit) fun s25 x24 =>
 (rng 0 s19).bind fun xs28 =>
 aft (forR xs28 (() : Unit) fun s30 x29 =>
 (pmul x24 y4.2.1).bind fun v35 =>
 (pmul x29 y4.1.1).bind fun v36 =>
 lt (v35 - v36 : Int) fun x =>
 (pmul x24 y4.2.2).bind fun v37 =>
 (pmul x29 y4.1.2).bind fun v38 =>
 (Td.l_in r c s x (v37 - v38)).bind fun r41 =>
 if r41 = true then some (.rt ((x24, s19, x29)))
 else some (.go ())) (fun s42 =>
 some (.go ())) fun r_ => some (Lp.rt r_)) (fun s45 =>
 some ((0, 0, 0))) fun r_ => some r_
end Td

namespace Td
open Ty
variable {G : Gd} {rows : List (List Int)} {N r c s : Nat} {E : Nat → Nat → Int}
noncomputable def dT (p : Prop) : Bool := @decide p (Classical.propDecidable p)

end Td

namespace Td
open Ty
def l_fours_2 (r : Int) (c : Int) (s : Int) : Option (List (List Int)) :=
 lt (([] : (List (List Int))) : (List (List Int))) fun told =>
 (rng 0 r).bind fun xs3 =>
 (forO xs3 (told : ((List (List Int)))) fun s5 x4 =>
 (rng 0 c).bind fun xs8 =>
 (forO xs8 (s5 : ((List (List Int)))) fun s10 x9 =>
 (pmul x4 c).bind fun v15 =>
 lt (v15 + x9 : Int) fun p =>
 (pmul x4 c).bind fun v18 =>
 (pmod (x9 - 1) c).bind fun v19 =>
 lt (v18 + v19 : Int) fun left =>
 lt (p - c : Int) fun down =>
 (if (x4 = 0) then (pmul (r - 1) c).bind fun v24 =>
 (pmod (x9 - s) c).bind fun v25 =>
 lt (v24 + v25 : Int) fun down =>
 some down
 else some down : Option (Int)).bind fun j26 =>
 (pmul 4 p).bind fun v29 =>
 (pmul 4 p).bind fun v30 =>
 (pmul 4 j26).bind fun v31 =>
 (pmul 4 left).bind fun v32 =>
 (Td.l_least_2 [v29 + 2, v30, v31 + 3, v32 + 1]).bind fun r35 =>
 (app s10 r35).bind fun told =>
 some told).bind fun s39 =>
 some s39).bind fun s42 =>
 some (s42)
end Td

namespace Td
open Ty
def l_kind_2 (sort : Txt) (r : Int) (c : Int) (s : Int) : Option (List (List Int)) :=
 if (sort = (tx [102, 111, 117, 114, 115])) then Td.l_fours_2 r c s
 else Td.l_threes r c s
end Td

namespace Td
open Ty
theorem lK4 {r c s : Nat} (hr : 0 < r) (hs : s < c) (hl : r * c ≤ 40) : l_fours_2 (r : Int) (c : Int) (s : Int) = some (K4 r c s) := by
  have h1 : r ≤ 40 := Nat.le_trans (Nat.le_mul_of_pos_right r (by omega)) hl
  have h2 : c ≤ 40 := Nat.le_trans (Nat.le_mul_of_pos_left c hr) hl
  unfold l_fours_2
  rw [lt_eq, rng_ok (by omega) (by omega) (by omega) (by omega), bs]
  refine Ok.eqs ?_
  refine Ok.bind (forO_span (fun i t => ∃ k : Nat, i = (k : Int) ∧ t = (List.range (k * c)).map (fr4 r c s)) (by omega) ⟨0, rfl, by simp⟩ fun x t hx0 hx1 ⟨i, hi, ht⟩ => ?_) fun t ⟨k, hk, ht⟩ => Ok.ret (by rw [ht, show k = r by omega]; rfl)
  subst hi ht
  have hi : i < r := by omega
  have hm : (i + 1) * c ≤ r * c := Nat.mul_le_mul_right c hi
  rw [Nat.add_mul, Nat.one_mul] at hm
  rw [rng_ok (by omega) (by omega) (by omega) (by omega), bs]
  refine Ok.bind (forO_span (fun y t => ∃ k : Nat, y = (k : Int) ∧ t = (List.range (i * c + k)).map (fr4 r c s)) (by omega) ⟨0, rfl, by simp⟩ fun y t hy0 hy1 ⟨j, hj, ht⟩ => ?_) fun t ⟨k, hk, ht⟩ => Ok.ret ⟨i + 1, by omega, by rw [ht, show k = c by omega, Nat.add_mul, Nat.one_mul]⟩
  subst hj ht
  have hj : j < c := by omega
  have m1 : (i : Int) * (c : Int) = ((i * c : Nat) : Int) := rfl
  have l1 : ((j : Int) - 1) % (c : Int) = (((j + (c - 1)) % c : Nat) : Int) := imod (by omega) (by omega)
  rw [pmul_ok (by omega) (by omega), bs, lt_eq, bs, pmod_ok (by omega), bs, lt_eq, lt_eq, m1, l1]
  have dn : (if (i : Int) = 0 then (pmul ((r : Int) - 1) (c : Int)).bind fun v24 => (pmod ((j : Int) - (s : Int)) (c : Int)).bind fun v25 => Ty.lt (v24 + v25 : Int) fun down => some down else some (((i * c : Nat) : Int) + (j : Int) - (c : Int)) : Option Int) = some ((uppI r c s (i * c + j) : Nat) : Int) := by
    unfold uppI
    by_cases z : i = 0
    · subst z
      rw [if_pos (show ((0 : Nat) : Int) = 0 from rfl), Nat.zero_mul, Nat.zero_add, if_pos hj, pmul_ok (by omega) (by omega), bs, pmod_ok (by omega), bs, lt_eq, imod (a := j + (c - s)) (by omega) (by omega)]
      congr 1
      rw [Int.natCast_add, Int.natCast_mul, Int.natCast_sub (by omega)]; rfl
    · have : 1 * c ≤ i * c := Nat.mul_le_mul_right c (by omega)
      rw [if_neg (by omega), if_neg (by omega)]
      congr 1
      omega
  rw [dn, bs]
  have u := (upp_lt hr hs (show i * c + j < r * c by omega)).2.1
  have w : (j + (c - 1)) % c < c := Nat.mod_lt _ (by omega)
  rw [pmul_ok (by decide) (by omega), bs, bs, pmul_ok (by decide) (by omega), bs, pmul_ok (by decide) (by omega), bs, least2_ok (by simp), bs, app_ok (by simp; omega), bs]
  refine Ok.ret ⟨j + 1, by omega, ?_⟩
  rw [show i * c + (j + 1) = i * c + j + 1 by omega, List.range_succ, List.map_append]
  congr 1
  show [beg _] = [fr4 r c s (i * c + j)]
  unfold fr4 rgtI
  rw [(dm hj).1, (dm hj).2]
  congr 2
theorem l_downK {r c s q : Nat} (hr : 0 < r) (hs : s < c) (hl : r ≤ 40) (hc : c ≤ 40) : l_down (r : Int) (c : Int) (s : Int) (q : Int) = some ((uppI r c s q : Nat) : Int) := by
  unfold l_down uppI
  by_cases h : q < c
  · rw [if_neg (by omega), if_pos h, pmul_ok (by omega) (by omega), bs, pmod_ok (by omega), bs, imod (a := q + (c - s)) (by omega) (by omega)]
    congr 1
    rw [Int.natCast_add, Int.natCast_mul, Int.natCast_sub (by omega)]; rfl
  · rw [if_pos (by omega), if_neg h]
    congr 1
    omega
theorem lK6 {r c s : Nat} (hr : 0 < r) (hs : s < c) (hl : r * c ≤ 40) : l_threes (r : Int) (c : Int) (s : Int) = some (K6 r c s) := by
  have h1 : r ≤ 40 := Nat.le_trans (Nat.le_mul_of_pos_right r (by omega)) hl
  have h2 : c ≤ 40 := Nat.le_trans (Nat.le_mul_of_pos_left c hr) hl
  unfold l_threes
  rw [lt_eq, pmul_ok (by omega) (by omega), bs, show (r : Int) * (c : Int) = ((r * c : Nat) : Int) from rfl, rng_ok (by omega) (by omega) (by omega) (by omega), bs]
  refine Ok.eqs ?_
  refine Ok.bind (forO_span (fun i t => ∃ k : Nat, i = (k : Int) ∧ t = (List.range k).map (tr6 r c s)) (by omega) ⟨0, rfl, by simp⟩ fun x t hx0 hx1 ⟨q, hq, ht⟩ => ?_) fun t ⟨k, hk, ht⟩ => Ok.ret (by rw [ht, show k = r * c by omega]; rfl)
  subst hq ht
  have hq : q < r * c := by omega
  have hc : 0 < c := by omega
  obtain ⟨i, j, e, hj, g1, g2⟩ := dmE (q := q) hc
  have f1 : ((q : Int) % (c : Int)) = (j : Int) := by rw [cmod, g2]
  have l1 : ((j : Int) - 1) % (c : Int) = (((j + (c - 1)) % c : Nat) : Int) := imod (by omega) (by omega)
  have w : (j + (c - 1)) % c < c := Nat.mod_lt _ hc
  have l2 : (q : Int) - (j : Int) + (((j + (c - 1)) % c : Nat) : Int) = ((rgtI c q : Nat) : Int) := by
    unfold rgtI
    rw [g1, g2]
    omega
  have u0 := (rgt_lt hc hq).2.1
  have u := (upp_lt hr hs hq).2.1
  have u2 := (upp_lt hr hs u0).2.1
  rw [pmod_ok (by omega), f1, bs, bs, pmod_ok (by omega), l1, bs, lt_eq, l2, l_downK hr hs h1 h2, bs, l_downK hr hs h1 h2, bs, pmul_ok (by decide) (by omega), bs, bs, bs, pmul_ok (by decide) (by omega), bs, pmul_ok (by decide) (by omega), bs, pmul_ok (by decide) (by omega), bs, lt_eq, least2_ok (by simp), bs, app_ok (by simp; omega), bs]
  refine Ok.ret ⟨q + 1, by omega, ?_⟩
  rw [List.range_succ, List.map_append]
  congr 1

def w4 : Txt := tx [102, 111, 117, 114, 115]
def w6 : Txt := tx [116, 104, 114, 101, 101, 115]
theorem w46 : w6 ≠ w4 := by decide
theorem kind4 {r c s : Nat} (hr : 0 < r) (hs : s < c) (hl : r * c ≤ 40) : l_kind_2 w4 (r : Int) (c : Int) (s : Int) = some (K4 r c s) := by
  unfold l_kind_2
  rw [if_pos (show w4 = tx [102, 111, 117, 114, 115] from rfl), lK4 hr hs hl]
theorem kind6 {r c s : Nat} (hr : 0 < r) (hs : s < c) (hl : r * c ≤ 40) : l_kind_2 w6 (r : Int) (c : Int) (s : Int) = some (K6 r c s) := by
  unfold l_kind_2
  rw [if_neg (show ¬w6 = tx [102, 111, 117, 114, 115] from w46), lK6 hr hs hl]
def dir4 (q : Nat) : Nat := match q with | 0 => 0 | 1 => 2 | 2 => 3 | _ => 1
def dir6 (q : Nat) : Nat := match q with | 0 => 0 | 1 => 3 | 2 => 4 | 3 => 1 | 4 => 5 | _ => 2
theorem dir4_lt : ∀ q < 4, dir4 q < 4 := by decide
theorem dir6_lt : ∀ q < 6, dir6 q < 6 := by decide
end Td

namespace Td
open Ty
variable {G : Gd} {r c s : Nat}
end Td

namespace Td
open Ty

structure KV (G : Gd) (rows : List (List Int)) (N : Nat) (E : Nat → Nat → Int) (pl : Int → Int → Nat) : Prop where
  pos : 0 < N
  dr : Dr (G.z * N) rows
  pll : ∀ x y, pl x y < N
  onto : ∀ q < N, ∃ x y, pl x y = q
  ein : ∀ q < N, ∀ d < G.z, In (G.z * N) (E q d)
  all : ∀ e, In (G.z * N) e → ∃ q d, q < N ∧ d < G.z ∧ E q d = e
  inj : ∀ q < N, ∀ d < G.z, ∀ p < N, ∀ f < G.z, E q d = E p f → q = p ∧ d = f
  nxt : ∀ q < N, ∀ d < G.z, nx rows (E q d) = E q ((d + 1) % G.z)
  mat : ∀ x y, ∀ d < G.z, mate (E (pl x y) d) = E (pl (x + G.X d) (y + G.Y d)) ((d + G.z / 2) % G.z)
variable {G : Gd} {rows rows' : List (List Int)} {N : Nat} {E : Nat → Nat → Int} {pl : Int → Int → Nat}
theorem KR.kv (k : KR G rows N E pl) : KV G rows N E pl := ⟨k.pos, k.dr, k.pll, k.onto, k.ein, k.all, k.inj, k.nxt, k.mat⟩
theorem KV.turn (ok : G.Ok) (k : KV G rows N E pl) (x0 y0 : Int) {ρ : Nat} (hρ : ρ < G.z) : KV G rows N (fun q d => E q ((d + ρ) % G.z)) fun x y => pl (x0 + G.ax ρ x y) (y0 + G.ay ρ x y) := by
  have z0 : 0 < G.z := by omega
  have inv : ∀ x y : Int, G.ax ρ (G.ax ((G.z - ρ) % G.z) x y) (G.ay ((G.z - ρ) % G.z) x y) = x ∧ G.ay ρ (G.ax ((G.z - ρ) % G.z) x y) (G.ay ((G.z - ρ) % G.z) x y) = y := fun x y => by
    have t := turn_turn ok hρ (Nat.mod_lt (G.z - ρ) z0) x y
    have e : ((G.z - ρ) % G.z + ρ) % G.z = 0 := by rw [Nat.mod_add_mod, show G.z - ρ + ρ = G.z by omega, Nat.mod_self]
    rw [e, (turn_zero ok _ _).1, (turn_zero ok _ _).2] at t
    exact t
  refine ⟨k.pos, k.dr, fun x y => k.pll _ _, fun q hq => ?_, fun q hq d hd => k.ein q hq _ (Nat.mod_lt _ z0), fun e he => ?_, fun q hq d hd p hp f hf h => ?_, fun q hq d hd => ?_, fun x y d hd => ?_⟩
  · obtain ⟨x, y, e⟩ := k.onto q hq
    refine ⟨G.ax ((G.z - ρ) % G.z) (x - x0) (y - y0), G.ay ((G.z - ρ) % G.z) (x - x0) (y - y0), ?_⟩
    rw [(inv _ _).1, (inv _ _).2, show x0 + (x - x0) = x by omega, show y0 + (y - y0) = y by omega, e]
  · obtain ⟨q, d, hq, hd, h⟩ := k.all e he
    refine ⟨q, (d + (G.z - ρ)) % G.z, hq, Nat.mod_lt _ z0, ?_⟩
    rw [← h, Nat.mod_add_mod, show d + (G.z - ρ) + ρ = d + G.z by omega, Nat.add_mod_right, Nat.mod_eq_of_lt hd]
  · obtain ⟨h1, h2⟩ := k.inj q hq _ (Nat.mod_lt _ z0) p hp _ (Nat.mod_lt _ z0) h
    refine ⟨h1, ?_⟩
    have a : (d + ρ) % G.z = (f + ρ) % G.z := h2
    have b : ((d + ρ) % G.z + (G.z - ρ)) % G.z = ((f + ρ) % G.z + (G.z - ρ)) % G.z := by rw [a]
    rw [Nat.mod_add_mod, Nat.mod_add_mod, show d + ρ + (G.z - ρ) = d + G.z by omega, show f + ρ + (G.z - ρ) = f + G.z by omega, Nat.add_mod_right, Nat.add_mod_right, Nat.mod_eq_of_lt hd, Nat.mod_eq_of_lt hf] at b
    exact b
  · show nx rows (E q ((d + ρ) % G.z)) = E q (((d + 1) % G.z + ρ) % G.z)
    rw [k.nxt q hq _ (Nat.mod_lt _ z0), Nat.mod_add_mod, Nat.mod_add_mod]
    congr 2; omega
  · show mate (E (pl _ _) ((d + ρ) % G.z)) = E (pl _ _) (((d + G.z / 2) % G.z + ρ) % G.z)
    obtain ⟨t1, t2⟩ := ok.turn d hd ρ hρ
    obtain ⟨a1, a2⟩ := Gd.ax_add (G := G) x y (G.X d) (G.Y d) ρ
    rw [k.mat _ _ _ (Nat.mod_lt _ z0), a1, a2, t1, t2, Int.add_assoc, Int.add_assoc, Nat.mod_add_mod, Nat.mod_add_mod]
    congr 2; omega
theorem ring_from_ok {n : Nat} {rows : List (List Int)} (h : Dr n rows) (u : Nat → Int) {L : Nat} (hL : 0 < L) (hL2 : L ≤ 10000) (hu : ∀ i, In n (u i)) (hs : ∀ i, nx rows (u i) = u (i + 1)) (h1 : u L = u 0) (h2 : ∀ i, 0 < i → i < L → u i ≠ u 0) : p_ring_from (behindL rows) (u 0) = some ((List.range L).map u) := by
  unfold p_ring_from
  rw [lt_eq]
  have go : ∀ (k j : Nat), 0 < j → j + k = L → ∀ f : Nat, k < f → whO f ((List.range j).map u) (fun s3 => (idx s3 (-1)).bind fun v6 => (idx (behindL rows) v6).bind fun v7 => some (decide ((v7 ≠ u 0)))) (fun s3 => (idx s3 (-1)).bind fun v8 => (idx (behindL rows) v8).bind fun v9 => (app s3 v9).bind fun ring => some ring) = some ((List.range L).map u) := fun k => by
    induction k with
    | zero =>
      intro j j0 e f hf
      obtain ⟨f, rfl⟩ : ∃ g, f = g + 1 := ⟨f - 1, by omega⟩
      have ej : j = L := by omega
      subst ej
      rw [whO, idx_neg (by decide) (by simp; omega), bs]
      have el : ((List.range j).map u)[(-1 + (((List.range j).map u).length : Int)).toNat]'(by simp; omega) = u (j - 1) := by
        rw [List.getElem_map, List.getElem_range]; congr 1; simp; omega
      rw [el, h.idx (hu _), bs, bs, hs, show j - 1 + 1 = j by omega, h1, if_neg (by simp)]
    | succ k ih =>
      intro j j0 e f hf
      obtain ⟨f, rfl⟩ : ∃ g, f = g + 1 := ⟨f - 1, by omega⟩
      rw [whO, idx_neg (by decide) (by simp; omega), bs]
      have el : ((List.range j).map u)[(-1 + (((List.range j).map u).length : Int)).toNat]'(by simp; omega) = u (j - 1) := by
        rw [List.getElem_map, List.getElem_range]; congr 1; simp; omega
      rw [el, h.idx (hu _), bs, bs, hs, show j - 1 + 1 = j by omega, if_pos (by simpa using h2 j j0 (by omega)), bs, h.idx (hu _), bs, hs, show j - 1 + 1 = j by omega, app_ok (by simp; omega), bs, bs]
      have := ih (j + 1) (by omega) (by omega) f (by omega)
      rw [List.range_succ, List.map_append] at this
      exact this
  have e1 : [u 0] = (List.range 1).map u := rfl
  rw [e1, go (L - 1) 1 (by decide) (by omega) 100000 (by omega), bs]
theorem KV.ring (ok : G.Ok) (k : KV G rows N E pl) (hN : G.z * N ≤ 10000) {q d : Nat} (hq : q < N) (hd : d < G.z) : p_ring_from (behindL rows) (E q d) = some ((List.range G.z).map fun i => E q ((d + i) % G.z)) := by
  have z0 : 0 < G.z := by omega
  have n0 := k.pos
  have zz : G.z ≤ G.z * N := Nat.le_mul_of_pos_right _ n0
  have := ring_from_ok k.dr (fun i => E q ((d + i) % G.z)) (L := G.z) z0 (by omega) (fun i => k.ein q hq _ (Nat.mod_lt _ z0)) (fun i => by rw [k.nxt q hq _ (Nat.mod_lt _ z0), Nat.mod_add_mod, Nat.add_assoc]) (by rw [Nat.add_mod_right, Nat.add_zero]) (fun i i0 i1 e => by
    have := (k.inj q hq _ (Nat.mod_lt _ z0) q hq _ (Nat.mod_lt _ z0) e).2
    rw [Nat.add_zero, Nat.mod_eq_of_lt hd] at this
    by_cases c : d + i < G.z
    · rw [Nat.mod_eq_of_lt c] at this; omega
    · rw [Nat.mod_eq_sub_mod (by omega), Nat.mod_eq_of_lt (by omega)] at this; omega)
  rw [Nat.add_zero, Nat.mod_eq_of_lt hd] at this
  exact this
theorem range_idx {z : Nat} {g : Nat → Int} {i : Nat} (h : i < z) : idx ((List.range z).map g) (i : Int) = some (g i) := row_idx h
theorem KV.ahead (ok : G.Ok) (k : KV G rows N E pl) (hN : G.z * N ≤ 10000) (x y : Int) : ((p_mate_of (E (pl x y) 0)).bind fun r22 => (p_ring_from (behindL rows) r22).bind fun r25 => idx r25 ((G.z : Int) / 2)) = some (E (pl (x + 1) y) 0) := by
  obtain ⟨hh, z1, z2, z3⟩ := ok.even
  have z0 : 0 < G.z := by omega
  rw [p_mate_eq, bs, k.mat x y 0 z0, ok.r0.1, ok.r0.2, Int.add_zero, Nat.zero_add, Nat.mod_eq_of_lt (by omega), k.ring ok hN (k.pll _ _) (by omega), bs, show ((G.z : Int) / 2) = ((G.z / 2 : Nat) : Int) by omega, range_idx (by omega)]
  congr 2
  rw [show G.z / 2 + G.z / 2 = G.z by omega, Nat.mod_self]
theorem KV.straight (ok : G.Ok) (k : KV G rows N E pl) (hN : G.z * N ≤ 10000) (x y : Int) {K : Nat} (hK : 0 < K) (hK2 : K ≤ 10000) (h1 : pl (x + (K : Int)) y = pl x y) (h2 : ∀ i : Nat, 0 < i → i < K → pl (x + (i : Int)) y ≠ pl x y) : p_straight_line (behindL rows) (E (pl x y) 0) (G.z : Int) = some ((List.range K).map fun i => E (pl (x + (i : Nat)) y) 0) := by
  have z0 : 0 < G.z := by obtain ⟨hh, z1, z2, z3⟩ := ok.even; omega
  have st := k.ahead ok hN
  let v : Nat → Int := fun i => E (pl (x + (i : Int)) y) 0
  have v0 : v 0 = E (pl x y) 0 := by show E (pl (x + ((0 : Nat) : Int)) y) 0 = _; rw [show x + ((0 : Nat) : Int) = x by omega]
  have step : ∀ (i : Nat) {β : Type} (f : Int → Option β), ((p_mate_of (v i)).bind fun r22 => (p_ring_from (behindL rows) r22).bind fun r25 => (idx r25 ((G.z : Int) / 2)).bind f) = f (v (i + 1)) := fun i β f => by
    have e := st (x + (i : Int)) y
    have e2 : v (i + 1) = E (pl (x + (i : Int) + 1) y) 0 := by show E (pl (x + ((i + 1 : Nat) : Int)) y) 0 = _; rw [show x + ((i + 1 : Nat) : Int) = x + (i : Int) + 1 by omega]
    rw [p_mate_eq, bs] at e ⊢
    show (p_ring_from (behindL rows) (mate (E (pl (x + (i : Int)) y) 0))).bind _ = _
    cases h : p_ring_from (behindL rows) (mate (E (pl (x + (i : Int)) y) 0)) with
    | none => rw [h] at e; cases e
    | some r =>
      rw [h, bs] at e
      rw [bs, e, bs, e2]
  unfold p_straight_line
  rw [lt_eq, ← v0, step 0]
  have go : ∀ (m j : Nat), 0 < j → j + m = K → ∀ f : Nat, m < f → whO f (((List.range j).map v, v j) : List Int × Int) (fun s12 => some (decide ((s12.2 ≠ v 0)))) (fun s12 => (app s12.1 s12.2).bind fun line => (p_mate_of s12.2).bind fun r22 => (p_ring_from (behindL rows) r22).bind fun r25 => (idx r25 ((G.z : Int) / 2)).bind fun end_ => some (line, end_)) = some ((List.range K).map v, v K) := fun m => by
    induction m with
    | zero =>
      intro j j0 e f hf
      obtain ⟨f, rfl⟩ : ∃ g, f = g + 1 := ⟨f - 1, by omega⟩
      have ej : j = K := by omega
      subst ej
      have : v j = v 0 := by rw [v0]; show E (pl (x + (j : Int)) y) 0 = _; rw [h1]
      rw [whO, bs, if_neg (by simpa using this)]
    | succ m ih =>
      intro j j0 e f hf
      obtain ⟨f, rfl⟩ : ∃ g, f = g + 1 := ⟨f - 1, by omega⟩
      have ne : v j ≠ v 0 := fun q => h2 j j0 (by omega) (by
        rw [v0] at q
        exact (k.inj _ (k.pll _ _) 0 z0 _ (k.pll _ _) 0 z0 q).1)
      rw [whO, bs, if_pos (by simpa using ne)]
      dsimp only
      rw [app_ok (by simp; omega), bs, step j, bs]
      have := ih (j + 1) (by omega) (by omega) f (by omega)
      rw [List.range_succ, List.map_append] at this
      exact this
  have e1 : [v 0] = (List.range 1).map v := rfl
  rw [e1, go (K - 1) 1 (by decide) (by omega) 100000 (by omega), bs]
theorem KV.upper (ok : G.Ok) (k : KV G rows N E pl) (hN : G.z * N ≤ 10000) (x y : Int) {clock : List Int} (hc : ixOf clock 2 = some (G.up : Int)) (hd : (G.up + G.z / 2) % G.z = 1) : p_upper_right (behindL rows) (E (pl x y) 0) clock = some (E (pl x (y + 1)) 0) := by
  obtain ⟨hh, z1, z2, z3⟩ := ok.even
  have z0 : 0 < G.z := by omega
  have ul := ok.ul
  unfold p_upper_right
  rw [k.ring ok hN (k.pll _ _) z0, bs, hc, bs, range_idx ul, bs, Nat.zero_add, Nat.mod_eq_of_lt ul, p_mate_eq, bs, k.mat _ _ _ ul, ok.ru.1, ok.ru.2, Int.add_zero, hd, k.ring ok hN (k.pll _ _) (by omega), bs, idx_neg (by decide) (by simp; omega)]
  rw [List.getElem_map, List.getElem_range]
  congr 2
  rw [show 1 + (-1 + (((List.range G.z).map fun i => E (pl x (y + 1)) ((1 + i) % G.z)).length : Int)).toNat = G.z by simp; omega, Nat.mod_self]
def layT (z : Nat) (dir : Nat → Nat) (E : Nat → Nat → Int) (pq : Nat → Nat) (e : Nat) : Int := if e % z % 2 = 0 then E (pq (e / z)) (dir (e % z)) else mate (E (pq (e / z)) (dir (e % z - 1)))
end Td

namespace Td
open Ty
variable {G : Gd} {rows rows' : List (List Int)} {N : Nat} {E : Nat → Nat → Int} {pl : Int → Int → Nat}
def layStep (z : Int) (n : Int) (s12 : List Int) (x11 : Int × Int) : Option (List Int) :=
 (if ((x11.1 % 2) = 0) then (pmul z n).bind fun v17 =>
 lt (v17 + x11.1 : Int) fun even =>
 (putI s12 even x11.2).bind fun lay =>
 (Td.p_mate_of x11.2).bind fun r23 =>
 (putI lay (even + 1) r23).bind fun lay =>
 some lay
 else some s12 : Option ((List Int))).bind fun j27 =>
 some j27
theorem layStep_odd {z n : Int} {s : List Int} {x : Int × Int} (h : x.1 % 2 ≠ 0) : layStep z n s x = some s := by
  unfold layStep
  rw [if_neg h, bs]
theorem layStep_even {M : Nat} {g : Nat → Int} {z n : Nat} {q : Nat} {v : Int} (h : q % 2 = 0) (hz : z ≤ 10) (hn : n ≤ 10000) (hM : z * n + q + 1 < M) : layStep (z : Int) (n : Int) ((List.range M).map g) ((q : Int), v) = some ((List.range M).map fun e => if e = z * n + q + 1 then mate v else if e = z * n + q then v else g e) := by
  unfold layStep
  rw [if_pos (by dsimp only; omega), pmul_ok (by omega) (by omega), bs, lt_eq]
  dsimp only
  rw [show (z : Int) * (n : Int) + (q : Int) = ((z * n + q : Nat) : Int) by omega, row_put (by omega), bs, p_mate_eq, bs, show ((z * n + q : Nat) : Int) + 1 = ((z * n + q + 1 : Nat) : Int) by omega, row_put (by omega), bs, bs]
theorem lay_in4 {M n : Nat} {g u : Nat → Int} (hn : n ≤ 10000) (hM : 4 * n + 3 < M) : forO (List.zip [0, 3, 1, 2] ((List.range 4).map u)) ((List.range M).map g) (layStep ((4 : Nat) : Int) (n : Int)) = some ((List.range M).map fun e => if e / 4 = n then (if e % 4 % 2 = 0 then u (dir4 (e % 4)) else mate (u (dir4 (e % 4 - 1)))) else g e) := by
  have e0 : List.zip [0, 3, 1, 2] ((List.range 4).map u) = [(((0 : Nat) : Int), u 0), (3, u 1), (1, u 2), (((2 : Nat) : Int), u 3)] := rfl
  rw [e0, forO, layStep_even (by decide) (by decide) hn (by omega), bs, forO, layStep_odd (by simp), bs, forO, layStep_odd (by simp), bs, forO, layStep_even (by decide) (by decide) hn (by omega), bs, forO]
  congr 1
  apply List.map_congr_left
  intro e he
  by_cases c : e / 4 = n
  · rw [if_pos c]
    have : e % 4 = 0 ∨ e % 4 = 1 ∨ e % 4 = 2 ∨ e % 4 = 3 := by omega
    rcases this with q | q | q | q
    · rw [if_neg (by omega), if_neg (by omega), if_neg (by omega), if_pos (by omega), q]; rfl
    · rw [if_neg (by omega), if_neg (by omega), if_pos (by omega), q]; rfl
    · rw [if_neg (by omega), if_pos (by omega), q]; rfl
    · rw [if_pos (by omega), q]; rfl
  · rw [if_neg c, if_neg (by omega), if_neg (by omega), if_neg (by omega), if_neg (by omega)]
theorem lay_in6 {M n : Nat} {g u : Nat → Int} (hn : n ≤ 10000) (hM : 6 * n + 5 < M) : forO (List.zip [0, 3, 5, 1, 2, 4] ((List.range 6).map u)) ((List.range M).map g) (layStep ((6 : Nat) : Int) (n : Int)) = some ((List.range M).map fun e => if e / 6 = n then (if e % 6 % 2 = 0 then u (dir6 (e % 6)) else mate (u (dir6 (e % 6 - 1)))) else g e) := by
  have e0 : List.zip [0, 3, 5, 1, 2, 4] ((List.range 6).map u) = [(((0 : Nat) : Int), u 0), (3, u 1), (5, u 2), (1, u 3), (((2 : Nat) : Int), u 4), (((4 : Nat) : Int), u 5)] := rfl
  rw [e0, forO, layStep_even (by decide) (by decide) hn (by omega), bs, forO, layStep_odd (by simp), bs, forO, layStep_odd (by simp), bs, forO, layStep_odd (by simp), bs, forO, layStep_even (by decide) (by decide) hn (by omega), bs, forO, layStep_even (by decide) (by decide) hn (by omega), bs, forO]
  congr 1
  apply List.map_congr_left
  intro e he
  by_cases c : e / 6 = n
  · rw [if_pos c]
    have : e % 6 = 0 ∨ e % 6 = 1 ∨ e % 6 = 2 ∨ e % 6 = 3 ∨ e % 6 = 4 ∨ e % 6 = 5 := by omega
    rcases this with q | q | q | q | q | q
    · rw [if_neg (by omega), if_neg (by omega), if_neg (by omega), if_neg (by omega), if_neg (by omega), if_pos (by omega), q]; rfl
    · rw [if_neg (by omega), if_neg (by omega), if_neg (by omega), if_neg (by omega), if_pos (by omega), q]; rfl
    · rw [if_neg (by omega), if_neg (by omega), if_neg (by omega), if_pos (by omega), q]; rfl
    · rw [if_neg (by omega), if_neg (by omega), if_pos (by omega), q]; rfl
    · rw [if_neg (by omega), if_pos (by omega), q]; rfl
    · rw [if_pos (by omega), q]; rfl
  · rw [if_neg c, if_neg (by omega), if_neg (by omega), if_neg (by omega), if_neg (by omega), if_neg (by omega), if_neg (by omega)]
structure Ck (G : Gd) (clock : List Int) (dir : Nat → Nat) : Prop where
  len : clock.length = G.z
  up : ixOf clock 2 = some (G.up : Int)
  dn : (G.up + G.z / 2) % G.z = 1
  dl : ∀ q < G.z, dir q < G.z
  lay : ∀ {M n : Nat} {g u : Nat → Int}, n ≤ 10000 → G.z * n + G.z ≤ M → forO (List.zip clock ((List.range G.z).map u)) ((List.range M).map g) (layStep (G.z : Int) (n : Int)) = some ((List.range M).map fun e => if e / G.z = n then (if e % G.z % 2 = 0 then u (dir (e % G.z)) else mate (u (dir (e % G.z - 1)))) else g e)
theorem ck4 : Ck G4 [0, 3, 1, 2] dir4 := ⟨rfl, ixOf_ok (by decide), rfl, dir4_lt, fun {M n g u} hn hM => lay_in4 hn (by have hM' : 4 * n + 4 ≤ M := hM; omega)⟩
theorem ck6 : Ck G6 [0, 3, 5, 1, 2, 4] dir6 := ⟨rfl, ixOf_ok (by decide), rfl, dir6_lt, fun {M n g u} hn hM => lay_in6 hn (by have hM' : 6 * n + 6 ≤ M := hM; omega)⟩
theorem KV.lay_by (ok : G.Ok) (k : KV G rows N E pl) (hN : G.z * N ≤ 10000) {clock : List Int} {dir : Nat → Nat} (ck : Ck G clock dir) (pq : Nat → Nat) (hp : ∀ p < N, pq p < N) : p_lay_by (behindL rows) ((List.range N).map fun p => E (pq p) 0) clock = some ((List.range (G.z * N)).map (layT G.z dir E pq)) := by
  have z0 : 0 < G.z := by obtain ⟨hh, z1, z2, z3⟩ := ok.even; omega
  have nz : N ≤ G.z * N := Nat.le_mul_of_pos_left _ z0
  unfold p_lay_by
  rw [behind_length, k.dr.len, rep_one (by omega) (by omega), bs]
  have e0 : List.replicate ((G.z * N : Nat) : Int).toNat (0 : Int) = (List.range (G.z * N)).map fun e => if e / G.z < 0 then layT G.z dir E pq e else 0 := by
    rw [Int.toNat_natCast]
    apply List.ext_getElem
    · simp
    · intro i h1 h2
      simp
  rw [e0]
  apply Ok.eqs
  refine (forO_at (fun n s => s = (List.range (G.z * N)).map fun e => if e / G.z < n then layT G.z dir E pq e else 0) rfl fun n s hn hs => ?_).bind fun s hs => Ok.ret ?_
  · have hn' : n < N := by simpa using hn
    rw [enu_getE hn, show ((0 + n : Nat) : Int) = (n : Int) by omega, List.getElem_map, List.getElem_range]
    dsimp only
    rw [k.ring ok hN (hp n hn') z0, bs, hs, ck.len]
    have m1 : G.z * n + G.z ≤ G.z * N := by rw [← Nat.mul_succ]; exact Nat.mul_le_mul_left _ hn'
    have e1 : (List.range G.z).map (fun i => E (pq n) ((0 + i) % G.z)) = (List.range G.z).map fun i => E (pq n) i := List.map_congr_left fun i hi => by rw [Nat.zero_add, Nat.mod_eq_of_lt (List.mem_range.mp hi)]
    rw [e1]
    refine Ok.bindE (ck.lay (by omega) m1) (Ok.ret ?_)
    apply List.map_congr_left
    intro e he
    by_cases c : e / G.z = n
    · rw [if_pos c, if_pos (show e / G.z < n + 1 by omega)]
      unfold layT
      rw [c]
    · rw [if_neg c]
      by_cases c2 : e / G.z < n
      · rw [if_pos c2, if_pos (show e / G.z < n + 1 by omega)]
      · rw [if_neg c2, if_neg (show ¬e / G.z < n + 1 by omega)]
  · rw [hs]
    apply List.map_congr_left
    intro e he
    have := List.mem_range.mp he
    rw [if_pos (by
      rw [enu_length, List.length_map, List.length_range]
      exact Nat.div_lt_of_lt_mul this)]
theorem KV.kr (ok : G.Ok) (k : KV G rows N E pl) : ∃ E' pl', KR G rows N E' pl' := by
  have z0 : 0 < G.z := by obtain ⟨hh, z1, z2, z3⟩ := ok.even; omega
  have n0 := k.pos
  have zn := Nat.mul_pos z0 n0
  obtain ⟨q0, d0, h1, h2, h3⟩ := k.all 0 ⟨by decide, by omega⟩
  obtain ⟨x0, y0, h4⟩ := k.onto q0 h1
  have t := k.turn ok x0 y0 h2
  let σ : Nat → Nat := fun q => if q = q0 then 0 else if q = 0 then q0 else q
  have sl : ∀ q < N, σ q < N := fun q hq => by show (if q = q0 then 0 else if q = 0 then q0 else q) < N; split <;> (try split) <;> omega
  have ss : ∀ q, σ (σ q) = q := fun q => by
    show (if (if q = q0 then 0 else if q = 0 then q0 else q) = q0 then 0 else if (if q = q0 then 0 else if q = 0 then q0 else q) = 0 then q0 else (if q = q0 then 0 else if q = 0 then q0 else q)) = q
    by_cases c : q = q0
    · subst c
      rw [if_pos rfl]
      by_cases c2 : 0 = q
      · rw [if_pos c2, c2]
      · rw [if_neg c2, if_pos rfl]
    · rw [if_neg c]
      by_cases c2 : q = 0
      · subst c2
        rw [if_pos rfl, if_pos rfl]
      · rw [if_neg c2, if_neg c, if_neg c2]
  refine ⟨fun q d => E (σ q) ((d + d0) % G.z), fun x y => σ (pl (x0 + G.ax d0 x y) (y0 + G.ay d0 x y)), t.pos, t.dr, fun x y => sl _ (t.pll x y), fun q hq => ?_, fun q hq d hd => t.ein _ (sl q hq) d hd, fun e he => ?_, fun q hq d hd p hp f hf h => ?_, fun q hq d hd => t.nxt _ (sl q hq) d hd, fun x y d hd => ?_, ?_⟩
  · obtain ⟨x, y, e⟩ := t.onto (σ q) (sl q hq)
    exact ⟨x, y, by show σ _ = q; rw [e, ss]⟩
  · obtain ⟨q, d, hq, hd, h⟩ := t.all e he
    exact ⟨σ q, d, sl q hq, hd, by show E (σ (σ q)) _ = e; rw [ss]; exact h⟩
  · obtain ⟨a, b⟩ := t.inj _ (sl q hq) d hd _ (sl p hp) f hf h
    refine ⟨?_, b⟩
    have := congrArg σ a
    rwa [ss, ss] at this
  · show mate (E (σ (σ _)) _) = E (σ (σ _)) _
    rw [ss, ss]
    exact t.mat x y d hd
  · have a : G.ax d0 0 0 = 0 := by unfold Gd.ax; simp
    have b : G.ay d0 0 0 = 0 := by unfold Gd.ay; simp
    rw [a, b, Int.add_zero, Int.add_zero, h4]
    have s0 : σ q0 = 0 := if_pos rfl
    refine ⟨s0, ?_⟩
    show E (σ 0) ((0 + d0) % G.z) = 0
    rw [show σ 0 = q0 by rw [← s0, ss], Nat.zero_add, Nat.mod_eq_of_lt h2, h3]
def ln (G : Gd) : Nat := if G.z = 4 then 4 else 3
theorem all_are_ok {xs : List Int} {w : Int} (h : xs.length ≤ 100000) : p_all_are xs w = some (xs.all fun x => decide (x = w)) := by
  unfold p_all_are
  rw [lcm_ok (by omega), bs]
  congr 1
  rw [List.all_map]; rfl
theorem sort_ok (ok : G.Ok) (k : KR G rows N E pl) (hN : G.z * N ≤ 10000) (hl : rows.length = N) (full : ∀ x ∈ rows, x.length = G.z) {p : Nat} (hp : 0 < p) (h1 : ∀ d < G.z, G.sx d p = 0 ∧ G.sy d p = 0 ∧ (d + p * (G.z / 2 + 1)) % G.z = d) (h2 : ∀ d < G.z, ∀ j < p, 0 < j → (d + j * (G.z / 2 + 1)) % G.z ≠ d) (hzp : G.z = 4 ∧ p = 4 ∨ G.z = 6 ∧ p = 3) : p_sort_of rows = some (if G.z = 4 then w4 else w6) := by
  obtain ⟨hh, z1, z2, z3⟩ := ok.even
  have em : G.z * N = 2 * (hh * N) := by rw [z1, Nat.mul_assoc]
  have dr := k.dr
  have n0 := k.pos
  have nz : N ≤ G.z * N := Nat.le_mul_of_pos_left _ (by omega)
  have f : ∀ r ∈ rows, r ≠ [] := fun r hr e => by have := full r hr; rw [e] at this; simp at this; omega
  have cn := k.cn ok
  have i0 : In (G.z * N) 0 := ⟨by decide, by omega⟩
  obtain ⟨l1, l2⟩ := k.lands ok f hp h1 h2
  rw [em] at dr cn i0
  have op := CnE.op dr cn i0 f
  have ll : (lands rows).length ≤ G.z * N := by
    have := Nat.le_mul_of_pos_left (lands rows).length hp
    omega
  unfold p_sort_of
  rw [parts_one dr (by omega) (by omega) op, bs, if_pos (by simp), lcm_ok (by omega), bs, p_lands_eq dr (by omega) (by omega), bs, lcm_ok (by omega), bs, all_are_ok (by rw [List.length_map]; omega), bs]
  have a1 : ∀ w : Int, w = G.z → ((rows.map fun x6 => (x6.length : Int)).all fun x => decide (x = w)) = true := fun w hw => by
    rw [List.all_map, List.all_eq_true]
    intro x hx
    have := full x hx
    simp; omega
  have a2 : ∀ w : Int, w = p → (((lands rows).map fun x6 => (x6.length : Int)).all fun x => decide (x = w)) = true := fun w hw => by
    rw [List.all_map, List.all_eq_true]
    intro x hx
    have := l1 x hx
    simp; omega
  have ne : rows ≠ [] := fun z => by rw [z] at hl; simp at hl; omega
  have a3 : ∀ w : Int, w ≠ G.z → ((rows.map fun x6 => (x6.length : Int)).all fun x => decide (x = w)) = false := fun w hw => by
    obtain ⟨r, rs, e⟩ := List.exists_cons_of_ne_nil ne
    have := full r (by rw [e]; simp)
    rw [e, List.map_cons, List.all_cons, decide_eq_false (by omega), Bool.false_and]
  rcases hzp with ⟨hz, hp'⟩ | ⟨hz, hp'⟩
  · rw [a1 4 (by omega), if_pos rfl, all_are_ok (by rw [List.length_map]; omega), bs, a2 4 (by omega), bs, if_pos (by decide), if_pos hz]
    rfl
  · rw [a3 4 (by omega), if_neg (by decide), bs, if_neg (by decide), all_are_ok (by rw [List.length_map]; omega), bs, a1 6 (by omega), if_pos rfl, all_are_ok (by rw [List.length_map]; omega), bs, a2 3 (by omega), bs, if_pos (by decide), if_neg (by omega)]
    rfl
end Td

namespace Td
open Ty
variable {G : Gd} {rows rows' : List (List Int)} {N : Nat} {E : Nat → Nat → Int} {pl : Int → Int → Nat}
structure KG (G : Gd) (w : Txt) (clock : List Int) (dir : Nat → Nat) : Prop where
  ok : G.Ok
  ck : Ck G clock dir
  sort : ∀ {rows : List (List Int)} {N : Nat} {E : Nat → Nat → Int} {pl : Int → Int → Nat}, KR G rows N E pl → G.z * N ≤ 10000 → rows.length = N → (∀ x ∈ rows, x.length = G.z) → p_sort_of rows = some w
  cl : (if (w = tx [102, 111, 117, 114, 115]) then ([0, 3, 1, 2] : List Int) else ([0, 3, 5, 1, 2, 4] : List Int)) = clock
theorem kg4 : KG G4 w4 [0, 3, 1, 2] dir4 := ⟨G4.ok, ck4, fun k h1 h2 h3 => sort_ok G4.ok k h1 h2 h3 (p := 4) (by decide) (by decide) (by decide) (.inl ⟨rfl, rfl⟩), if_pos rfl⟩
theorem kg6 : KG G6 w6 [0, 3, 5, 1, 2, 4] dir6 := ⟨G6.ok, ck6, fun k h1 h2 h3 => sort_ok G6.ok k h1 h2 h3 (p := 3) (by decide) (by decide) (by decide) (.inr ⟨rfl, rfl⟩), if_neg w46⟩
def pqK (pl : Int → Int → Nat) (K p : Nat) : Nat := pl ((p % K : Nat) : Int) ((p / K : Nat) : Int)
theorem lat_row {a K b : Nat} (ha : 0 < a) {i : Int} : Lat a K b i 0 ↔ i % (K : Int) = 0 := by
  unfold Lat
  rw [Int.zero_ediv, Int.mul_zero, Int.add_zero]
  exact ⟨fun h => h.2, fun h => ⟨Int.zero_emod _, h⟩⟩
theorem read_kind_ok {w : Txt} {clock : List Int} {dir : Nat → Nat} (g : KG G w clock dir) (k : KV G rows N E pl) (hN : G.z * N ≤ 10000) (hl : rows.length = N) (full : ∀ x ∈ rows, x.length = G.z) {a K b : Nat} (ha : 0 < a) (hb : b < K) (hc : a * K = N) (lat : ∀ x y x' y', pl x y = pl x' y' ↔ Lat a K b (x - x') (y - y')) :
    p_read_kind rows (E (pl 0 0) 0) = some (w, (a : Int), (K : Int), (b : Int), (List.range (G.z * N)).map (layT G.z dir E (pqK pl K))) := by
  have ok := g.ok
  have z0 : 0 < G.z := by obtain ⟨hh, z1, z2, z3⟩ := ok.even; omega
  have n0 := k.pos
  have nz : N ≤ G.z * N := Nat.le_mul_of_pos_left _ z0
  have K0 : 0 < K := by omega
  have KN : K ≤ N := by rw [← hc]; exact Nat.le_mul_of_pos_left _ ha
  have aN : a ≤ N := by rw [← hc]; exact Nat.le_mul_of_pos_right _ K0
  obtain ⟨E', pl', kr⟩ := k.kr ok
  have ie := k.ein _ (k.pll 0 0) 0 z0
  have per : ∀ x y : Int, pl (x + (K : Int)) y = pl x y := fun x y => by
    rw [lat, show x + (K : Int) - x = (K : Int) by omega, Int.sub_self, lat_row ha, Int.emod_self]
  have apart : ∀ (x y : Int) (i : Nat), 0 < i → i < K → pl (x + (i : Int)) y ≠ pl x y := fun x y i i0 i1 e => by
    rw [lat, show x + (i : Int) - x = (i : Int) by omega, Int.sub_self, lat_row ha, Int.emod_eq_of_lt (by omega) (by omega)] at e
    omega
  have line : ∀ n : Nat, p_straight_line (behindL rows) (E (pl 0 (n : Int)) 0) (G.z : Int) = some ((List.range K).map fun i : Nat => E (pl (i : Int) (n : Int)) 0) := fun n => by
    have := k.straight ok hN 0 (n : Int) K0 (by omega) (per 0 _) (apart 0 _)
    rw [this]
    congr 1
    apply List.map_congr_left
    intro i _
    rw [Int.zero_add]
  have line0 : p_straight_line (behindL rows) (E (pl 0 0) 0) (G.z : Int) = some ((List.range K).map fun i : Nat => E (pl (i : Int) 0) 0) := line 0
  unfold p_read_kind p_check_end
  rw [if_neg (by have := ie.1; omega), count_eq (by omega), bs, k.dr.len, bs, if_neg (by have := ie.2; simp; omega), bs, g.sort kr hN hl full, bs, p_behind_eq k.dr (by omega) (by omega), bs, g.cl, lt_eq, g.ck.len, line0, bs, lt_eq, lt_eq]
  have go : ∀ (m n : Nat), n + m = a → ∀ f : Nat, m < f → whO f (((List.range (n * K)).map fun p => E (pqK pl K p) 0, E (pl (0 : Int) (n : Int)) 0) : List Int × Int) (fun s27 => some (decide (((s27.1.length : Int) < (rows.length : Int))))) (fun s27 =>
 (Td.p_straight_line (behindL rows) s27.2 (G.z : Int)).bind fun r32 =>
 (extO s27.1 r32).bind fun rights =>
 (Td.p_upper_right (behindL rows) s27.2 clock).bind fun first =>
 some (rights, first)) = some ((List.range (a * K)).map fun p => E (pqK pl K p) 0, E (pl (0 : Int) (a : Int)) 0) := fun m => by
    induction m with
    | zero =>
      intro n e f hf
      obtain ⟨f, rfl⟩ : ∃ g, f = g + 1 := ⟨f - 1, by omega⟩
      have en : n = a := by omega
      subst en
      rw [whO, bs, if_neg (by simp; omega)]
    | succ m ih =>
      intro n e f hf
      obtain ⟨f, rfl⟩ : ∃ g, f = g + 1 := ⟨f - 1, by omega⟩
      have nK : n * K + K ≤ a * K := by rw [← Nat.succ_mul]; exact Nat.mul_le_mul_right _ (by omega)
      rw [whO, bs, if_pos (by simp; omega)]
      dsimp only
      rw [line n, bs, extO_ok (by simp; omega), bs, k.upper ok hN 0 (n : Int) g.ck.up g.ck.dn, bs, bs]
      have := ih (n + 1) (by omega) f (by omega)
      rw [Nat.succ_mul, List.range_add, List.map_append, List.map_map, show ((n + 1 : Nat) : Int) = (n : Int) + 1 by omega] at this
      have e2 : (List.range K).map ((fun p => E (pqK pl K p) 0) ∘ fun x => n * K + x) = (List.range K).map fun i : Nat => E (pl (i : Int) (n : Int)) 0 := by
        apply List.map_congr_left
        intro i hi
        have hi' := List.mem_range.mp hi
        show E (pqK pl K (n * K + i)) 0 = _
        unfold pqK
        rw [(dm hi').1, (dm hi').2]
      rw [e2] at this
      exact this
  have e0 : (([] : List Int), E (pl (0 : Int) (0 : Int)) 0) = (((List.range (0 * K)).map fun p => E (pqK pl K p) 0, E (pl (0 : Int) (0 : Int)) 0) : List Int × Int) := by rw [Nat.zero_mul]; rfl
  have g0 := go a 0 (by omega) 100000 (by omega)
  rw [Int.natCast_zero] at g0
  rw [e0, g0, bs]
  dsimp only
  have fb : E (pl (0 : Int) (a : Int)) 0 = E (pl (b : Int) (0 : Int)) 0 := by
    congr 1
    rw [lat]
    refine ⟨by rw [show (a : Int) - 0 = (a : Int) by omega, Int.emod_self], ?_⟩
    rw [show (a : Int) - 0 = (a : Int) by omega, Int.ediv_self (by omega), Int.mul_one, show (0 : Int) - (b : Int) + (b : Int) = 0 by omega, Int.zero_emod]
  have mem : E (pl (0 : Int) (a : Int)) 0 ∈ (List.range K).map fun i : Nat => E (pl (i : Int) (0 : Int)) 0 := by
    rw [fb]
    exact List.mem_map.mpr ⟨b, List.mem_range.mpr hb, rfl⟩
  have ix : ((List.range K).map fun i : Nat => E (pl (i : Int) (0 : Int)) 0).idxOf (E (pl (0 : Int) (a : Int)) 0) = b := by
    have hlt := List.idxOf_lt_length_of_mem mem
    have hg := List.getElem_idxOf hlt
    generalize hj : ((List.range K).map fun i : Nat => E (pl (i : Int) (0 : Int)) 0).idxOf (E (pl (0 : Int) (a : Int)) 0) = j at hlt hg
    rw [List.getElem_map, List.getElem_range, fb] at hg
    have e := (k.inj _ (k.pll _ _) 0 z0 _ (k.pll _ _) 0 z0 hg).1
    rw [lat, Int.sub_self, lat_row ha] at e
    have jK : j < K := by simpa using hlt
    obtain ⟨t, ht⟩ := Int.dvd_of_emod_eq_zero e
    rcases Int.lt_trichotomy t 0 with c | c | c
    · have := Int.mul_le_mul_of_nonneg_left (show t ≤ -1 by omega) (show (0 : Int) ≤ K by omega)
      omega
    · rw [c] at ht; omega
    · have := Int.mul_le_mul_of_nonneg_left (show 1 ≤ t by omega) (show (0 : Int) ≤ K by omega)
      omega
  rw [ixOf_ok mem, ix, bs, List.length_map, List.length_range, pdiv_ok (by omega) (by omega), bs, hc, k.lay_by ok hN g.ck (pqK pl K) (fun p _ => k.pll _ _), bs, hl]
  have dv : ((N : Int) / (K : Int)) = (a : Int) := by rw [← hc, Int.natCast_mul, Int.mul_ediv_cancel _ (by omega)]
  rw [dv]
end Td

namespace Td
open Ty
theorem kind3_eq (w : Txt) (r c s : Int) : l_kind_3 w r c s = l_kind_2 w r c s := rfl
theorem told3_ok {w : Txt} {r c s : Int} {l : List Int} : l_told_3 (w, r, c, s, l) w (r, c, s) = some true := by
  apply Ok.eqs
  unfold l_told_3
  rw [if_neg (by decide), if_neg (fun z => z rfl)]
  dsimp only
  refine aft_for (I := fun _ _ => True) (R := fun _ => False) trivial (fun pre x post s' e _ => ?_) (fun _ _ => Ok.ret rfl) fun v hv => hv.elim
  have hx : x ∈ enu 0 [r, c, s] := by rw [e]; simp
  have : x = (0, r) ∨ x = (1, c) ∨ x = (2, s) := by simpa [enu] using hx
  have wh : ∀ v, l_whole v = some true := fun v => rfl
  rcases this with rfl | rfl | rfl
  all_goals
    dsimp only
    rw [idx_at (by decide) rfl, bs, bs, wh, bs, if_neg (by decide), bs, bs, if_neg (by simp)]
    exact Ok.ret trivial
def lay0 (z r c s : Nat) (x0 y0 : Int) : List Int := (List.range (z * (r * c))).map fun e => ((z * plc r c s (x0 + ((e / z % c : Nat) : Int)) (y0 + ((e / z / c : Nat) : Int)) + e % z : Nat) : Int)
theorem layT_E4 {r c s : Nat} {pq : Nat → Nat} {e : Nat} : layT 4 dir4 (E4 r c s) pq e = ((4 * pq (e / 4) + e % 4 : Nat) : Int) := by
  unfold layT
  have : e % 4 = 0 ∨ e % 4 = 1 ∨ e % 4 = 2 ∨ e % 4 = 3 := by omega
  rcases this with q | q | q | q <;> rw [q]
  · rw [if_pos rfl]; rfl
  · rw [if_neg (by decide)]
    show mate ((4 * pq (e / 4) + 0 : Nat) : Int) = _
    unfold mate; omega
  · rw [if_pos rfl]; rfl
  · rw [if_neg (by decide)]
    show mate ((4 * pq (e / 4) + 2 : Nat) : Int) = _
    unfold mate; omega
theorem layT_E6 {r c s : Nat} {pq : Nat → Nat} {e : Nat} : layT 6 dir6 (E6 r c s) pq e = ((6 * pq (e / 6) + e % 6 : Nat) : Int) := by
  unfold layT
  have : e % 6 = 0 ∨ e % 6 = 1 ∨ e % 6 = 2 ∨ e % 6 = 3 ∨ e % 6 = 4 ∨ e % 6 = 5 := by omega
  rcases this with q | q | q | q | q | q <;> rw [q]
  · rw [if_pos rfl]; rfl
  · rw [if_neg (by decide)]
    show mate ((6 * pq (e / 6) + 0 : Nat) : Int) = _
    unfold mate; omega
  · rw [if_pos rfl]; rfl
  · rw [if_neg (by decide)]
    show mate ((6 * pq (e / 6) + 2 : Nat) : Int) = _
    unfold mate; omega
  · rw [if_pos rfl]; rfl
  · rw [if_neg (by decide)]
    show mate ((6 * pq (e / 6) + 4 : Nat) : Int) = _
    unfold mate; omega
theorem read_own {G : Gd} {w : Txt} {clock : List Int} {dir : Nat → Nat} (g : KG G w clock dir) {rows : List (List Int)} {r c s : Nat} {E : Nat → Nat → Int} (hr : 0 < r) (hs : s < c) (k : KR G rows (r * c) E (plc r c s)) (hN : G.z * (r * c) ≤ 10000) (hl : rows.length = r * c) (full : ∀ x ∈ rows, x.length = G.z)
    (hE : ∀ {pq : Nat → Nat} {e : Nat}, layT G.z dir E pq e = ((G.z * pq (e / G.z) + e % G.z : Nat) : Int)) (x0 y0 : Int) : p_read_kind rows (E (plc r c s x0 y0) 0) = some (w, (r : Int), (c : Int), (s : Int), lay0 G.z r c s x0 y0) := by
  have z0 : 0 < G.z := by obtain ⟨hh, z1, z2, z3⟩ := g.ok.even; omega
  have hc : 0 < c := by omega
  have t := k.kv.turn g.ok x0 y0 (ρ := 0) z0
  have tz : ∀ x y, G.ax 0 x y = x ∧ G.ay 0 x y = y := turn_zero g.ok
  have := read_kind_ok g t hN hl full hr hs rfl (fun x y x' y' => by
    rw [(tz x y).1, (tz x y).2, (tz x' y').1, (tz x' y').2, plc_iff hr hc, show x0 + x - (x0 + x') = x - x' by omega, show y0 + y - (y0 + y') = y - y' by omega])
  rw [(tz 0 0).1, (tz 0 0).2, Int.add_zero, Int.add_zero, Nat.add_zero, Nat.zero_mod] at this
  rw [this]
  congr 5
  unfold lay0
  apply List.map_congr_left
  intro e he
  have e1 : layT G.z dir (fun q d => E q ((d + 0) % G.z)) (pqK (fun x y => plc r c s (x0 + G.ax 0 x y) (y0 + G.ay 0 x y)) c) e = layT G.z dir E (pqK (fun x y => plc r c s (x0 + G.ax 0 x y) (y0 + G.ay 0 x y)) c) e := by
    unfold layT
    have dm : e % G.z < G.z := Nat.mod_lt _ z0
    split
    · dsimp only; rw [Nat.add_zero, Nat.mod_eq_of_lt (g.ck.dl _ dm)]
    · dsimp only; rw [Nat.add_zero, Nat.mod_eq_of_lt (g.ck.dl _ (by omega))]
  rw [e1, hE]
  unfold pqK
  dsimp only
  rw [(tz _ _).1, (tz _ _).2]
theorem read4 {r c s : Nat} (hr : 0 < r) (hs : s < c) (hN : r * c ≤ 2000) (x0 y0 : Int) : p_read_kind (K4 r c s) ((4 * plc r c s x0 y0 : Nat) : Int) = some (w4, (r : Int), (c : Int), (s : Int), lay0 4 r c s x0 y0) :=
  read_own kg4 hr hs (K4.kr hr hs) (by show 4 * (r * c) ≤ 10000; omega) K4.len K4.full (fun {pq e} => layT_E4) x0 y0
theorem read6 {r c s : Nat} (hr : 0 < r) (hs : s < c) (hN : r * c ≤ 1500) (x0 y0 : Int) : p_read_kind (K6 r c s) ((6 * plc r c s x0 y0 : Nat) : Int) = some (w6, (r : Int), (c : Int), (s : Int), lay0 6 r c s x0 y0) :=
  read_own kg6 hr hs (K6.kr hr hs) (by show 6 * (r * c) ≤ 10000; omega) K6.len K6.full (fun {pq e} => layT_E6) x0 y0
theorem lay_law {z r c s : Nat} (hr : 0 < r) (hs : s < c) (hz : z ≤ 10) (z0 : 0 < z) (hN : r * c ≤ 1000) {q : Nat} (hq : q < r * c) : l_lay (r : Int) (c : Int) (s : Int) (q : Int) (z : Int) = some (lay0 z r c s ((q % c : Nat) : Int) ((q / c : Nat) : Int)) := by
  have hc : 0 < c := by omega
  have h1 : r ≤ 1000 := Nat.le_trans (Nat.le_mul_of_pos_right r hc) hN
  have h2 : c ≤ 1000 := Nat.le_trans (Nat.le_mul_of_pos_left c hr) hN
  have qc : q % c < c := Nat.mod_lt _ hc
  have qr : q / c < r := Nat.div_lt_of_lt_mul (by rw [Nat.mul_comm]; exact hq)
  have zN : z * (r * c) ≤ 10000 := Nat.le_trans (Nat.mul_le_mul hz hN) (by decide)
  let F : Nat → Int := fun e => ((z * plc r c s (((q % c : Nat) : Int) + ((e / z % c : Nat) : Int)) (((q / c : Nat) : Int) + ((e / z / c : Nat) : Int)) + e % z : Nat) : Int)
  unfold l_lay
  rw [lt_eq, rng_ok (by omega) (by omega) (by omega) (by omega), bs]
  apply Ok.eqs
  refine Ok.bind (forO_span (fun i t => ∃ n : Nat, i = (n : Int) ∧ t = (List.range (z * (n * c))).map F) (by omega) ⟨0, rfl, by simp⟩ fun x t hx0 hx1 ⟨i, hi, ht⟩ => ?_) fun t ⟨n, hn, ht⟩ => Ok.ret (by rw [ht, show n = r by omega]; rfl)
  subst hi
  have hi : i < r := by omega
  have ic : i * c + c ≤ r * c := by rw [← Nat.succ_mul]; exact Nat.mul_le_mul_right _ hi
  have zi : z * (i * c) + z * c ≤ z * (r * c) := by rw [← Nat.mul_add]; exact Nat.mul_le_mul_left _ ic
  have eq := Nat.div_add_mod q c
  rw [Nat.mul_comm] at eq
  rw [pmul_ok (by omega) (by omega), bs, lt_eq, show (q : Int) + (i : Int) * (c : Int) = ((q + i * c : Nat) : Int) by rw [Int.natCast_add, Int.natCast_mul], pmod_ok (by omega), bs, pmul_ok (by omega) (by omega), bs, show (r : Int) * (c : Int) = ((r * c : Nat) : Int) from rfl]
  have row : ∃ A fst : Nat, (if ((r * c : Nat) : Int) ≤ ((q + i * c : Nat) : Int) then (some ((r * c : Nat) : Int)).bind fun v17 => Ty.lt (((q + i * c : Nat) : Int) - v17 : Int) fun at_ => (pmod at_ (c : Int)).bind fun v20 => Ty.lt (v20 + (s : Int) : Int) fun first => some (at_, first) else some (((q + i * c : Nat) : Int), ((q + i * c : Nat) : Int) % (c : Int)) : Option (Int × Int)) = some ((A : Int), (fst : Int)) ∧ A < r * c ∧ fst ≤ 3000 ∧ ∀ j : Nat, plc r c s (((q % c : Nat) : Int) + (j : Int)) (((q / c : Nat) : Int) + (i : Int)) = A / c * c + (fst + j) % c := by
    have pl : ∀ j : Nat, plc r c s (((q % c : Nat) : Int) + (j : Int)) (((q / c : Nat) : Int) + (i : Int)) = (if q / c + i < r then (q / c + i) * c + (q % c + j) % c else (q / c + i - r) * c + (q % c + s + j) % c) := fun j => by
      unfold plc
      rw [show ((q / c : Nat) : Int) + (i : Int) = ((q / c + i : Nat) : Int) by omega, show (((q / c + i : Nat) : Int) % (r : Int)) = (((q / c + i) % r : Nat) : Int) from rfl, show (((q / c + i : Nat) : Int) / (r : Int)) = (((q / c + i) / r : Nat) : Int) from rfl]
      by_cases w : q / c + i < r
      · rw [if_pos w, Nat.mod_eq_of_lt w, Nat.div_eq_of_lt w, Int.toNat_natCast]
        rw [show ((q % c : Nat) : Int) + (j : Int) + (s : Int) * ((0 : Nat) : Int) = ((q % c + j : Nat) : Int) by omega, show (((q % c + j : Nat) : Int) % (c : Int)) = (((q % c + j) % c : Nat) : Int) from rfl, Int.toNat_natCast]
      · have d1 : (q / c + i) / r = 1 := by
          rw [Nat.div_eq_iff (by omega)]; omega
        have d2 : (q / c + i) % r = q / c + i - r := by
          rw [Nat.mod_eq_sub_mod (by omega), Nat.mod_eq_of_lt (by omega)]
        rw [if_neg w, d1, d2, Int.toNat_natCast]
        rw [show ((q % c : Nat) : Int) + (j : Int) + (s : Int) * ((1 : Nat) : Int) = ((q % c + s + j : Nat) : Int) by omega, show (((q % c + s + j : Nat) : Int) % (c : Int)) = (((q % c + s + j) % c : Nat) : Int) from rfl, Int.toNat_natCast]
    have e1 : q + i * c = (q / c + i) * c + q % c := by rw [Nat.add_mul]; omega
    by_cases w : q / c + i < r
    · have lt1 : q + i * c < r * c := by
        have := Nat.mul_le_mul_right c (show q / c + i + 1 ≤ r by omega)
        rw [Nat.succ_mul] at this
        omega
      refine ⟨q + i * c, q % c, ?_, lt1, by omega, fun j => ?_⟩
      · rw [if_neg (by omega)]
        congr 2
        show (((q + i * c) % c : Nat) : Int) = _
        rw [Nat.add_mul_mod_self_right]
      · rw [pl, if_pos w, e1, (dm qc).1]
    · have ge1 : r * c ≤ q + i * c := by
        have := Nat.mul_le_mul_right c (show r ≤ q / c + i by omega)
        omega
      have e2 : q + i * c - r * c = (q / c + i - r) * c + q % c := by
        have := Nat.mul_le_mul_right c (show r ≤ q / c + i by omega)
        rw [e1, Nat.sub_mul]; omega
      refine ⟨q + i * c - r * c, q % c + s, ?_, by omega, by omega, fun j => ?_⟩
      · rw [if_pos (by omega), bs, lt_eq, show ((q + i * c : Nat) : Int) - ((r * c : Nat) : Int) = ((q + i * c - r * c : Nat) : Int) by omega, pmod_ok (by omega), bs, lt_eq]
        congr 2
        show (((q + i * c - r * c) % c : Nat) : Int) + (s : Int) = _
        rw [e2, (dm qc).2]; omega
      · rw [pl, if_neg w, e2, (dm qc).1]
  obtain ⟨A, fst, eA, A1, f1, hpl⟩ := row
  rw [eA, bs, rng_ok (by omega) (by omega) (by omega) (by omega), bs]
  dsimp only
  refine Ok.bind (forO_span (fun y t => ∃ k : Nat, y = (k : Int) ∧ t = (List.range (z * (i * c + k))).map F) (by omega) ⟨0, rfl, by rw [Nat.add_zero]; exact ht⟩ fun y t hy0 hy1 ⟨j, hj, ht⟩ => ?_) fun t ⟨k, hk, ht⟩ => Ok.ret ⟨i + 1, by omega, by rw [ht, show k = c by omega, Nat.add_mul, Nat.one_mul]⟩
  subst hj
  have hj : j < c := by omega
  have zj : z * (i * c + j) + z ≤ z * (r * c) := by rw [← Nat.mul_succ]; exact Nat.mul_le_mul_left _ (by omega)
  rw [pdiv_ok (by omega) (by omega), bs, show ((A : Int) / (c : Int)) = ((A / c : Nat) : Int) from rfl]
  have Ac : A / c ≤ A := Nat.div_le_self _ _
  generalize A / c = Q at hpl Ac ⊢
  rw [pmul_ok (by omega) (by omega), bs, show (fst : Int) + (j : Int) = ((fst + j : Nat) : Int) by omega, pmod_ok (by omega), bs, lt_eq, show (Q : Int) * (c : Int) + ((fst + j : Nat) : Int) % (c : Int) = ((Q * c + (fst + j) % c : Nat) : Int) from rfl, rng_ok (by omega) (by omega) (by omega) (by omega), bs]
  have plt : plc r c s (((q % c : Nat) : Int) + (j : Int)) (((q / c : Nat) : Int) + (i : Int)) < r * c := plc_lt hr hc _ _
  rw [← hpl j]
  generalize hp : plc r c s (((q % c : Nat) : Int) + (j : Int)) (((q / c : Nat) : Int) + (i : Int)) = P at plt
  have e3 : (lcp (span 0 (z : Int)) (fun x37 : Int => some true) fun x37 => (pmul (z : Int) (P : Int)).bind fun v40 => some (v40 + x37)) = some ((List.range z).map fun t : Nat => ((z * P + t : Nat) : Int)) := by
    rw [lcp_all (fun x37 => (z : Int) * (P : Int) + x37) (by simp; omega) (fun _ _ => rfl) (fun x _ => by rw [pmul_ok (by omega) (by omega), bs]), span_map]
    congr 1
  rw [e3, bs, ht, cat_ok (by simp; omega), bs]
  refine Ok.ret ⟨j + 1, by omega, ?_⟩
  rw [show i * c + (j + 1) = i * c + j + 1 by omega, Nat.mul_succ, List.range_add, List.map_append, List.map_map]
  congr 1
  apply List.map_congr_left
  intro t ht
  have ht' := List.mem_range.mp ht
  show _ = F (z * (i * c + j) + t)
  have d1 : (z * (i * c + j) + t) / z = i * c + j := by rw [Nat.mul_add_div z0, Nat.div_eq_of_lt ht']; omega
  have d2 : (z * (i * c + j) + t) % z = t := by rw [Nat.mul_add_mod, Nat.mod_eq_of_lt ht']
  show _ = ((z * plc r c s (((q % c : Nat) : Int) + (((z * (i * c + j) + t) / z % c : Nat) : Int)) (((q / c : Nat) : Int) + (((z * (i * c + j) + t) / z / c : Nat) : Int)) + (z * (i * c + j) + t) % z : Nat) : Int)
  rw [d1, d2, (dm hj).1, (dm hj).2, hp]
theorem plc_num {r c s p : Nat} (hr : 0 < r) (hc : 0 < c) (hp : p < r * c) : plc r c s ((p % c : Nat) : Int) ((p / c : Nat) : Int) = p := by
  have qc : p % c < c := Nat.mod_lt _ hc
  have qr : p / c < r := Nat.div_lt_of_lt_mul (by rw [Nat.mul_comm]; exact hp)
  have e := Nat.div_add_mod p c
  generalize p % c = i at *
  generalize p / c = j at *
  unfold plc
  rw [Int.emod_eq_of_lt (by omega) (by omega), Int.ediv_eq_zero_of_lt (by omega) (by omega), Int.mul_zero, Int.add_zero, Int.emod_eq_of_lt (by omega) (by omega), Int.toNat_natCast, Int.toNat_natCast, Nat.mul_comm, e]
theorem lay0_zero {z r c s : Nat} (hr : 0 < r) (hc : 0 < c) (z0 : 0 < z) : lay0 z r c s 0 0 = span 0 ((z * (r * c) : Nat) : Int) := by
  unfold lay0
  have e := span_map (n := z * (r * c)) (f := fun x : Int => x)
  rw [List.map_id'] at e
  rw [e]
  apply List.map_congr_left
  intro i hi
  have hi' := List.mem_range.mp hi
  have hp : i / z < r * c := Nat.div_lt_of_lt_mul hi'
  rw [Int.zero_add, Int.zero_add, plc_num hr hc hp, Nat.div_add_mod]
theorem law_k38_ok (ns : List Int) : law_k38_2 ns = some true := by
  apply Ok.eqs
  unfold law_k38_2
  rw [lt_eq]
  refine Ok.bind (Q := fun r7 : (Int × (List Int × Int × Int × Int)) × Txt => Bx 1 r7.1.2 ∧ (r7.2 = w4 ∨ r7.2 = w6)) ((take_ok (Bx.start (ns := ns)) (by decide) (by decide) (by decide)).bind fun r5 ⟨a0, a1, x1⟩ => ?_) fun r7 ⟨x1, hw⟩ => ?_
  · have : r5.1 = 0 ∨ r5.1 = 1 := by omega
    rcases this with q | q
    · rw [q, idx_at (x := w4) (by decide) rfl, bs]; exact Ok.ret ⟨x1, .inl rfl⟩
    · rw [q, idx_at (x := w6) (by decide) rfl, bs]; exact Ok.ret ⟨x1, .inr rfl⟩
  rw [lt_eq]
  have fin : ∀ (z : Nat) (w : Txt) (rows : List (List Int)) (r c s : Nat) (b : List Int × Int × Int × Int), Bx 6 b → 0 < r → s < c → r * c ≤ 40 → 0 < z → z ≤ 10 → (∀ x0 y0 : Int, p_read_kind rows ((z * plc r c s x0 y0 : Nat) : Int) = some (w, (r : Int), (c : Int), (s : Int), lay0 z r c s x0 y0)) → l_kind_3 w r c s = some rows → ∀ q : Nat, q < r * c →
      Ok ((Td.p_read_kind rows 0).bind fun told =>
 (Td.l_told_3 told w ((r : Int), (c : Int), (s : Int))).bind fun r45 =>
 (if ¬(r45 = true) then some true else (pmul (z : Int) (r : Int)).bind fun v46 =>
 (pmul v46 (c : Int)).bind fun v47 =>
 (rng 0 v47).bind fun xs48 =>
 (Td.l_row told.2.2.2.2 xs48).bind fun r51 =>
 some (decide (¬(r51 = true)))).bind fun b52 =>
 if b52 = true then some (false)
 else (Td.l_kind_3 w (r : Int) (c : Int) (s : Int)).bind fun r55 =>
 (Td.l_rows_2 rows r55).bind fun r58 =>
 if ¬(r58 = true) then some (false)
 else (pmul (z : Int) (q : Int)).bind fun v61 =>
 (Td.p_read_kind rows v61).bind fun told =>
 (Td.l_told_3 told w ((r : Int), (c : Int), (s : Int))).bind fun r67 =>
 if ¬(r67 = true) then some (false)
 else (Td.l_lay (r : Int) (c : Int) (s : Int) (q : Int) (z : Int)).bind fun r70 =>
 Td.l_row told.2.2.2.2 r70) fun b => b = true := fun z w rows r c s b xb hr hs hl z0 hz rd lk q hq => by
    have hc : 0 < c := by omega
    have h1 : r ≤ 40 := Nat.le_trans (Nat.le_mul_of_pos_right r hc) hl
    have h2 : c ≤ 40 := Nat.le_trans (Nat.le_mul_of_pos_left c hr) hl
    have zr : z * r ≤ 400 := Nat.le_trans (Nat.mul_le_mul hz h1) (by decide)
    have zN : z * (r * c) ≤ 400 := Nat.le_trans (Nat.mul_le_mul hz hl) (by decide)
    have e0 := rd 0 0
    rw [plc_zero, Nat.mul_zero] at e0
    have e0' : p_read_kind rows 0 = some (w, (r : Int), (c : Int), (s : Int), lay0 z r c s 0 0) := e0
    have eq := rd ((q % c : Nat) : Int) ((q / c : Nat) : Int)
    rw [plc_num hr hc hq] at eq
    rw [e0', bs, told3_ok, bs, if_neg (by simp), pmul_ok (by omega) (by omega), bs, show (z : Int) * (r : Int) = ((z * r : Nat) : Int) from rfl, pmul_ok (by omega) (by omega), bs, show ((z * r : Nat) : Int) * (c : Int) = ((z * (r * c) : Nat) : Int) by rw [← Nat.mul_assoc]; rfl, rng_ok (by omega) (by omega) (by omega) (by omega), bs]
    dsimp only
    rw [lay0_zero hr hc z0, l_row_ok, bs, bs, if_neg (by decide), lk, bs, l_rows_ok, bs, if_neg (by simp), pmul_ok (by omega) (by omega), bs, show (z : Int) * (q : Int) = ((z * q : Nat) : Int) from rfl, eq, bs, told3_ok, bs, if_neg (by simp), lay_law hr hs hz z0 (by omega) hq, bs, l_row_ok]
    exact Ok.ret rfl
  have num : ∀ (w : Txt) (f : List Int × Int × Int × Int → Nat → Nat → Nat → Nat → Prop), True := fun _ _ => trivial
  rcases hw with hw | hw
  · rw [hw, if_neg (show ¬w4 = tx [116, 104, 114, 101, 101, 115] from fun z => w46 z.symm), bs]
    refine (numbers_ok x1 (by decide)).bind fun r16 ⟨x2, r, c, s, e7, hr, hs, hl⟩ => ?_
    rw [e7]
    dsimp only
    have h1 : r ≤ 40 := Nat.le_trans (Nat.le_mul_of_pos_right r (by omega)) hl
    have h2 : c ≤ 40 := Nat.le_trans (Nat.le_mul_of_pos_left c hr) hl
    have n0 : 0 < r * c := Nat.mul_pos hr (by omega)
    rw [pmul_ok (by omega) (by omega), bs, show (r : Int) * (c : Int) = ((r * c : Nat) : Int) from rfl]
    refine (take_ok x2 (by decide) (by omega) (by omega)).bind fun r23 ⟨p0, p1, x3⟩ => ?_
    obtain ⟨q, hq⟩ := Int.eq_ofNat_of_zero_le p0
    have f4 : p_fours_2 (r : Int) (c : Int) (s : Int) = some (K4 r c s) := by unfold p_fours_2; rw [check2_ok hr hs hl, bs, fours_by_ok hr hs (by omega)]
    rw [f4, bs, if_neg (show ¬w4 = tx [116, 104, 114, 101, 101, 115] from fun z => w46 z.symm), bs, hq]
    exact fin 4 w4 (K4 r c s) r c s (ns, 0, 0, 0) (Bx.start.mono (by decide)) hr hs hl (by decide) (by decide) (fun x0 y0 => read4 hr hs (by omega) x0 y0) (by rw [kind3_eq]; exact kind4 hr hs hl) q (by omega)
  · rw [hw, if_pos (show w6 = tx [116, 104, 114, 101, 101, 115] from rfl), lt_eq, bs]
    refine (numbers_ok x1 (by decide)).bind fun r16 ⟨x2, r, c, s, e7, hr, hs, hl⟩ => ?_
    rw [e7]
    dsimp only
    have h1 : r ≤ 40 := Nat.le_trans (Nat.le_mul_of_pos_right r (by omega)) hl
    have h2 : c ≤ 40 := Nat.le_trans (Nat.le_mul_of_pos_left c hr) hl
    have n0 : 0 < r * c := Nat.mul_pos hr (by omega)
    rw [pmul_ok (by omega) (by omega), bs, show (r : Int) * (c : Int) = ((r * c : Nat) : Int) from rfl]
    refine (take_ok x2 (by decide) (by omega) (by omega)).bind fun r23 ⟨p0, p1, x3⟩ => ?_
    obtain ⟨q, hq⟩ := Int.eq_ofNat_of_zero_le p0
    have f4 : p_fours_2 (r : Int) (c : Int) (s : Int) = some (K4 r c s) := by unfold p_fours_2; rw [check2_ok hr hs hl, bs, fours_by_ok hr hs (by omega)]
    have f6 : p_threes_4 (r : Int) (c : Int) (s : Int) = some (K6 r c s) := by unfold p_threes_4; rw [check2_ok hr hs hl, bs, threes_by_ok hr hs (by omega)]
    rw [f4, bs, if_pos (show w6 = tx [116, 104, 114, 101, 101, 115] from rfl), f6, bs, bs, hq]
    exact fin 6 w6 (K6 r c s) r c s (ns, 0, 0, 0) (Bx.start.mono (by decide)) hr hs hl (by decide) (by decide) (fun x0 y0 => read6 hr hs (by omega) x0 y0) (by rw [kind3_eq]; exact kind6 hr hs hl) q (by omega)
end Td

set_option maxHeartbeats 8000000
namespace Lw
open PySem L2 Ow
theorem law_true (ns : List Int) (h : ns.length ≤ 63) (hb : ∀ z ∈ ns, PySem.Builtin.Int.intBits z ≤ 1048576) : ff_law [scriptD ns] = some (.s (.bl true)) := ty_law_0 ns true (Td.law_k38_ok ns)
end Lw

set_option maxHeartbeats 8000000
namespace Lw
open PySem L2 Ow
theorem all_mk {l : PySem.W.OpenLaw} {w : World} {K : PySem.W.Frag} {h : Heap} {mg : PySem.Str → Option Value} {fa a0 a1 a2 a3 a4 a5 a6 a7 a8 a9 a10 a11 a12 a13 a14 a15 a16 a17 a18 a19 a20 a21 a22 a23 a24 a25 a26 a27 a28 a29 a30 a31 a32 a33 a34 a35 a36 a37 a38 a39 a40 a41 : Addr} (X : K.In h) (G : h.Ns mainGlobals mg) (hfa : mg "law" = some (.ref fa))
    {od0 an0 od1 an1 od2 an2 od3 an3 od4 an4 od5 an5 od6 an6 od7 an7 od8 an8 od9 an9 od10 an10 od11 an11 od12 an12 od13 an13 od14 an14 od15 an15 od16 an16 od17 an17 od18 an18 od19 an19 od20 an20 od21 an21 od22 an22 od23 an23 od24 an24 od25 an25 od26 an26 od27 an27 od28 an28 od29 an29 od30 an30 od31 an31 od32 an32 od33 an33 od34 an34 od35 an35 od36 an36 od37 an37 od38 an38 od39 an39 od40 an40 od41 an41 : Option Addr} {sl0 sl1 sl2 sl3 sl4 sl5 sl6 sl7 sl8 sl9 sl10 sl11 sl12 sl13 sl14 sl15 sl16 sl17 sl18 sl19 sl20 sl21 sl22 sl23 sl24 sl25 sl26 sl27 sl28 sl29 sl30 sl31 sl32 sl33 sl34 sl35 sl36 sl37 sl38 sl39 sl40 sl41 : Array (Option Value)} {oc0 kV0 dc0 pm0 cd0 ct0 oc1 kV1 dc1 pm1 cd1 ct1 oc2 kV2 dc2 pm2 cd2 ct2 oc3 kV3 dc3 pm3 cd3 ct3 oc4 kV4 dc4 pm4 cd4 ct4 oc5 kV5 dc5 pm5 cd5 ct5 oc6 kV6 dc6 pm6 cd6 ct6 oc7 kV7 dc7 pm7 cd7 ct7 oc8 kV8 dc8 pm8 cd8 ct8 oc9 kV9 dc9 pm9 cd9 ct9 oc10 kV10 dc10 pm10 cd10 ct10 oc11 kV11 dc11 pm11 cd11 ct11 oc12 kV12 dc12 pm12 cd12 ct12 oc13 kV13 dc13 pm13 cd13 ct13 oc14 kV14 dc14 pm14 cd14 ct14 oc15 kV15 dc15 pm15 cd15 ct15 oc16 kV16 dc16 pm16 cd16 ct16 oc17 kV17 dc17 pm17 cd17 ct17 oc18 kV18 dc18 pm18 cd18 ct18 oc19 kV19 dc19 pm19 cd19 ct19 oc20 kV20 dc20 pm20 cd20 ct20 oc21 kV21 dc21 pm21 cd21 ct21 oc22 kV22 dc22 pm22 cd22 ct22 oc23 kV23 dc23 pm23 cd23 ct23 oc24 kV24 dc24 pm24 cd24 ct24 oc25 kV25 dc25 pm25 cd25 ct25 oc26 kV26 dc26 pm26 cd26 ct26 oc27 kV27 dc27 pm27 cd27 ct27 oc28 kV28 dc28 pm28 cd28 ct28 oc29 kV29 dc29 pm29 cd29 ct29 oc30 kV30 dc30 pm30 cd30 ct30 oc31 kV31 dc31 pm31 cd31 ct31 oc32 kV32 dc32 pm32 cd32 ct32 oc33 kV33 dc33 pm33 cd33 ct33 oc34 kV34 dc34 pm34 cd34 ct34 oc35 kV35 dc35 pm35 cd35 ct35 oc36 kV36 dc36 pm36 cd36 ct36 oc37 kV37 dc37 pm37 cd37 ct37 oc38 kV38 dc38 pm38 cd38 ct38 oc39 kV39 dc39 pm39 cd39 ct39 oc40 kV40 dc40 pm40 cd40 ct40 oc41 kV41 dc41 pm41 cd41 ct41 : Value}
    (q0 : PySem.W.nsIn K mainGlobals "orders_of" = some (some (.ref a0))) (l0 : K.lookup a0 = some ⟨oc0, od0, .func (PySem.W.fnOf "orders_of" "orders_of" (defArgs (topS 6)) (defBody (topS 6)) (defScope (topS 6)) .none kV0 dc0 pm0 an0 cd0 ct0), sl0⟩) (c0 : PySem.W.codeIn K cd0 "orders_of" = true) (k0 : PySem.W.keepIn K (.ref a0) = true)
    (q1 : PySem.W.nsIn K mainGlobals "mate_of" = some (some (.ref a1))) (l1 : K.lookup a1 = some ⟨oc1, od1, .func (PySem.W.fnOf "mate_of" "mate_of" (defArgs (topS 7)) (defBody (topS 7)) (defScope (topS 7)) .none kV1 dc1 pm1 an1 cd1 ct1), sl1⟩) (c1 : PySem.W.codeIn K cd1 "mate_of" = true) (k1 : PySem.W.keepIn K (.ref a1) = true)
    (q2 : PySem.W.nsIn K mainGlobals "check_end" = some (some (.ref a2))) (l2 : K.lookup a2 = some ⟨oc2, od2, .func (PySem.W.fnOf "check_end" "check_end" (defArgs (topS 8)) (defBody (topS 8)) (defScope (topS 8)) .none kV2 dc2 pm2 an2 cd2 ct2), sl2⟩) (c2 : PySem.W.codeIn K cd2 "check_end" = true) (k2 : PySem.W.keepIn K (.ref a2) = true)
    (q3 : PySem.W.nsIn K mainGlobals "count_ends" = some (some (.ref a3))) (l3 : K.lookup a3 = some ⟨oc3, od3, .func (PySem.W.fnOf "count_ends" "count_ends" (defArgs (topS 9)) (defBody (topS 9)) (defScope (topS 9)) .none kV3 dc3 pm3 an3 cd3 ct3), sl3⟩) (c3 : PySem.W.codeIn K cd3 "count_ends" = true) (k3 : PySem.W.keepIn K (.ref a3) = true)
    (q4 : PySem.W.nsIn K mainGlobals "homes_of" = some (some (.ref a4))) (l4 : K.lookup a4 = some ⟨oc4, od4, .func (PySem.W.fnOf "homes_of" "homes_of" (defArgs (topS 10)) (defBody (topS 10)) (defScope (topS 10)) .none kV4 dc4 pm4 an4 cd4 ct4), sl4⟩) (c4 : PySem.W.codeIn K cd4 "homes_of" = true) (k4 : PySem.W.keepIn K (.ref a4) = true)
    (q5 : PySem.W.nsIn K mainGlobals "behind_of" = some (some (.ref a5))) (l5 : K.lookup a5 = some ⟨oc5, od5, .func (PySem.W.fnOf "behind_of" "behind_of" (defArgs (topS 11)) (defBody (topS 11)) (defScope (topS 11)) .none kV5 dc5 pm5 an5 cd5 ct5), sl5⟩) (c5 : PySem.W.codeIn K cd5 "behind_of" = true) (k5 : PySem.W.keepIn K (.ref a5) = true)
    (q6 : PySem.W.nsIn K mainGlobals "ring_from" = some (some (.ref a6))) (l6 : K.lookup a6 = some ⟨oc6, od6, .func (PySem.W.fnOf "ring_from" "ring_from" (defArgs (topS 12)) (defBody (topS 12)) (defScope (topS 12)) .none kV6 dc6 pm6 an6 cd6 ct6), sl6⟩) (c6 : PySem.W.codeIn K cd6 "ring_from" = true) (k6 : PySem.W.keepIn K (.ref a6) = true)
    (q7 : PySem.W.nsIn K mainGlobals "begun_least" = some (some (.ref a7))) (l7 : K.lookup a7 = some ⟨oc7, od7, .func (PySem.W.fnOf "begun_least" "begun_least" (defArgs (topS 13)) (defBody (topS 13)) (defScope (topS 13)) .none kV7 dc7 pm7 an7 cd7 ct7), sl7⟩) (c7 : PySem.W.codeIn K cd7 "begun_least" = true) (k7 : PySem.W.keepIn K (.ref a7) = true)
    (q8 : PySem.W.nsIn K mainGlobals "fours" = some (some (.ref a8))) (l8 : K.lookup a8 = some ⟨oc8, od8, .func (PySem.W.fnOf "fours" "fours" (defArgs (topS 19)) (defBody (topS 19)) (defScope (topS 19)) .none kV8 dc8 pm8 an8 cd8 ct8), sl8⟩) (c8 : PySem.W.codeIn K cd8 "fours" = true) (k8 : PySem.W.keepIn K (.ref a8) = true)
    (q9 : PySem.W.nsIn K mainGlobals "threes" = some (some (.ref a9))) (l9 : K.lookup a9 = some ⟨oc9, od9, .func (PySem.W.fnOf "threes" "threes" (defArgs (topS 20)) (defBody (topS 20)) (defScope (topS 20)) .none kV9 dc9 pm9 an9 cd9 ct9), sl9⟩) (c9 : PySem.W.codeIn K cd9 "threes" = true) (k9 : PySem.W.keepIn K (.ref a9) = true)
    (q10 : PySem.W.nsIn K mainGlobals "fours_by" = some (some (.ref a10))) (l10 : K.lookup a10 = some ⟨oc10, od10, .func (PySem.W.fnOf "fours_by" "fours_by" (defArgs (topS 21)) (defBody (topS 21)) (defScope (topS 21)) .none kV10 dc10 pm10 an10 cd10 ct10), sl10⟩) (c10 : PySem.W.codeIn K cd10 "fours_by" = true) (k10 : PySem.W.keepIn K (.ref a10) = true)
    (q11 : PySem.W.nsIn K mainGlobals "threes_by" = some (some (.ref a11))) (l11 : K.lookup a11 = some ⟨oc11, od11, .func (PySem.W.fnOf "threes_by" "threes_by" (defArgs (topS 22)) (defBody (topS 22)) (defScope (topS 22)) .none kV11 dc11 pm11 an11 cd11 ct11), sl11⟩) (c11 : PySem.W.codeIn K cd11 "threes_by" = true) (k11 : PySem.W.keepIn K (.ref a11) = true)
    (q12 : PySem.W.nsIn K mainGlobals "check_numbers" = some (some (.ref a12))) (l12 : K.lookup a12 = some ⟨oc12, od12, .func (PySem.W.fnOf "check_numbers" "check_numbers" (defArgs (topS 23)) (defBody (topS 23)) (defScope (topS 23)) .none kV12 dc12 pm12 an12 cd12 ct12), sl12⟩) (c12 : PySem.W.codeIn K cd12 "check_numbers" = true) (k12 : PySem.W.keepIn K (.ref a12) = true)
    (q13 : PySem.W.nsIn K mainGlobals "are_numbers" = some (some (.ref a13))) (l13 : K.lookup a13 = some ⟨oc13, od13, .func (PySem.W.fnOf "are_numbers" "are_numbers" (defArgs (topS 24)) (defBody (topS 24)) (defScope (topS 24)) .none kV13 dc13 pm13 an13 cd13 ct13), sl13⟩) (c13 : PySem.W.codeIn K cd13 "are_numbers" = true) (k13 : PySem.W.keepIn K (.ref a13) = true)
    (q14 : PySem.W.nsIn K mainGlobals "rights_of" = some (some (.ref a14))) (l14 : K.lookup a14 = some ⟨oc14, od14, .func (PySem.W.fnOf "rights_of" "rights_of" (defArgs (topS 25)) (defBody (topS 25)) (defScope (topS 25)) .none kV14 dc14 pm14 an14 cd14 ct14), sl14⟩) (c14 : PySem.W.codeIn K cd14 "rights_of" = true) (k14 : PySem.W.keepIn K (.ref a14) = true)
    (q15 : PySem.W.nsIn K mainGlobals "uppers_of" = some (some (.ref a15))) (l15 : K.lookup a15 = some ⟨oc15, od15, .func (PySem.W.fnOf "uppers_of" "uppers_of" (defArgs (topS 26)) (defBody (topS 26)) (defScope (topS 26)) .none kV15 dc15 pm15 an15 cd15 ct15), sl15⟩) (c15 : PySem.W.codeIn K cd15 "uppers_of" = true) (k15 : PySem.W.keepIn K (.ref a15) = true)
    (q16 : PySem.W.nsIn K mainGlobals "laid_out" = some (some (.ref a16))) (l16 : K.lookup a16 = some ⟨oc16, od16, .func (PySem.W.fnOf "laid_out" "laid_out" (defArgs (topS 27)) (defBody (topS 27)) (defScope (topS 27)) .none kV16 dc16 pm16 an16 cd16 ct16), sl16⟩) (c16 : PySem.W.codeIn K cd16 "laid_out" = true) (k16 : PySem.W.keepIn K (.ref a16) = true)
    (q17 : PySem.W.nsIn K mainGlobals "groups" = some (some (.ref a17))) (l17 : K.lookup a17 = some ⟨oc17, od17, .func (PySem.W.fnOf "groups" "groups" (defArgs (topS 29)) (defBody (topS 29)) (defScope (topS 29)) .none kV17 dc17 pm17 an17 cd17 ct17), sl17⟩) (c17 : PySem.W.codeIn K cd17 "groups" = true) (k17 : PySem.W.keepIn K (.ref a17) = true)
    (q18 : PySem.W.nsIn K mainGlobals "drain" = some (some (.ref a18))) (l18 : K.lookup a18 = some ⟨oc18, od18, .func (PySem.W.fnOf "drain" "drain" (defArgs (topS 30)) (defBody (topS 30)) (defScope (topS 30)) .none kV18 dc18 pm18 an18 cd18 ct18), sl18⟩) (c18 : PySem.W.codeIn K cd18 "drain" = true) (k18 : PySem.W.keepIn K (.ref a18) = true)
    (q19 : PySem.W.nsIn K mainGlobals "lands_of" = some (some (.ref a19))) (l19 : K.lookup a19 = some ⟨oc19, od19, .func (PySem.W.fnOf "lands_of" "lands_of" (defArgs (topS 32)) (defBody (topS 32)) (defScope (topS 32)) .none kV19 dc19 pm19 an19 cd19 ct19), sl19⟩) (c19 : PySem.W.codeIn K cd19 "lands_of" = true) (k19 : PySem.W.keepIn K (.ref a19) = true)
    (q20 : PySem.W.nsIn K mainGlobals "land_from" = some (some (.ref a20))) (l20 : K.lookup a20 = some ⟨oc20, od20, .func (PySem.W.fnOf "land_from" "land_from" (defArgs (topS 33)) (defBody (topS 33)) (defScope (topS 33)) .none kV20 dc20 pm20 an20 cd20 ct20), sl20⟩) (c20 : PySem.W.codeIn K cd20 "land_from" = true) (k20 : PySem.W.keepIn K (.ref a20) = true)
    (q21 : PySem.W.nsIn K mainGlobals "parts_of" = some (some (.ref a21))) (l21 : K.lookup a21 = some ⟨oc21, od21, .func (PySem.W.fnOf "parts_of" "parts_of" (defArgs (topS 34)) (defBody (topS 34)) (defScope (topS 34)) .none kV21 dc21 pm21 an21 cd21 ct21), sl21⟩) (c21 : PySem.W.codeIn K cd21 "parts_of" = true) (k21 : PySem.W.keepIn K (.ref a21) = true)
    (q22 : PySem.W.nsIn K mainGlobals "read_kind" = some (some (.ref a22))) (l22 : K.lookup a22 = some ⟨oc22, od22, .func (PySem.W.fnOf "read_kind" "read_kind" (defArgs (topS 36)) (defBody (topS 36)) (defScope (topS 36)) .none kV22 dc22 pm22 an22 cd22 ct22), sl22⟩) (c22 : PySem.W.codeIn K cd22 "read_kind" = true) (k22 : PySem.W.keepIn K (.ref a22) = true)
    (q23 : PySem.W.nsIn K mainGlobals "sort_of" = some (some (.ref a23))) (l23 : K.lookup a23 = some ⟨oc23, od23, .func (PySem.W.fnOf "sort_of" "sort_of" (defArgs (topS 37)) (defBody (topS 37)) (defScope (topS 37)) .none kV23 dc23 pm23 an23 cd23 ct23), sl23⟩) (c23 : PySem.W.codeIn K cd23 "sort_of" = true) (k23 : PySem.W.keepIn K (.ref a23) = true)
    (q24 : PySem.W.nsIn K mainGlobals "all_are" = some (some (.ref a24))) (l24 : K.lookup a24 = some ⟨oc24, od24, .func (PySem.W.fnOf "all_are" "all_are" (defArgs (topS 38)) (defBody (topS 38)) (defScope (topS 38)) .none kV24 dc24 pm24 an24 cd24 ct24), sl24⟩) (c24 : PySem.W.codeIn K cd24 "all_are" = true) (k24 : PySem.W.keepIn K (.ref a24) = true)
    (q25 : PySem.W.nsIn K mainGlobals "straight_line" = some (some (.ref a25))) (l25 : K.lookup a25 = some ⟨oc25, od25, .func (PySem.W.fnOf "straight_line" "straight_line" (defArgs (topS 39)) (defBody (topS 39)) (defScope (topS 39)) .none kV25 dc25 pm25 an25 cd25 ct25), sl25⟩) (c25 : PySem.W.codeIn K cd25 "straight_line" = true) (k25 : PySem.W.keepIn K (.ref a25) = true)
    (q26 : PySem.W.nsIn K mainGlobals "upper_right" = some (some (.ref a26))) (l26 : K.lookup a26 = some ⟨oc26, od26, .func (PySem.W.fnOf "upper_right" "upper_right" (defArgs (topS 40)) (defBody (topS 40)) (defScope (topS 40)) .none kV26 dc26 pm26 an26 cd26 ct26), sl26⟩) (c26 : PySem.W.codeIn K cd26 "upper_right" = true) (k26 : PySem.W.keepIn K (.ref a26) = true)
    (q27 : PySem.W.nsIn K mainGlobals "lay_by" = some (some (.ref a27))) (l27 : K.lookup a27 = some ⟨oc27, od27, .func (PySem.W.fnOf "lay_by" "lay_by" (defArgs (topS 41)) (defBody (topS 41)) (defScope (topS 41)) .none kV27 dc27 pm27 an27 cd27 ct27), sl27⟩) (c27 : PySem.W.codeIn K cd27 "lay_by" = true) (k27 : PySem.W.keepIn K (.ref a27) = true)
    (q28 : PySem.W.nsIn K mainGlobals "_law_mixed" = some (some (.ref a28))) (l28 : K.lookup a28 = some ⟨oc28, od28, .func (PySem.W.fnOf "_law_mixed" "_law_mixed" (defArgs (topS 43)) (defBody (topS 43)) (defScope (topS 43)) .none kV28 dc28 pm28 an28 cd28 ct28), sl28⟩) (c28 : PySem.W.codeIn K cd28 "_law_mixed" = true) (k28 : PySem.W.keepIn K (.ref a28) = true)
    (q29 : PySem.W.nsIn K mainGlobals "_law_take" = some (some (.ref a29))) (l29 : K.lookup a29 = some ⟨oc29, od29, .func (PySem.W.fnOf "_law_take" "_law_take" (defArgs (topS 44)) (defBody (topS 44)) (defScope (topS 44)) .none kV29 dc29 pm29 an29 cd29 ct29), sl29⟩) (c29 : PySem.W.codeIn K cd29 "_law_take" = true) (k29 : PySem.W.keepIn K (.ref a29) = true)
    (q30 : PySem.W.nsIn K mainGlobals "_law_whole" = some (some (.ref a30))) (l30 : K.lookup a30 = some ⟨oc30, od30, .func (PySem.W.fnOf "_law_whole" "_law_whole" (defArgs (topS 45)) (defBody (topS 45)) (defScope (topS 45)) .none kV30 dc30 pm30 an30 cd30 ct30), sl30⟩) (c30 : PySem.W.codeIn K cd30 "_law_whole" = true) (k30 : PySem.W.keepIn K (.ref a30) = true)
    (q31 : PySem.W.nsIn K mainGlobals "_law_row" = some (some (.ref a31))) (l31 : K.lookup a31 = some ⟨oc31, od31, .func (PySem.W.fnOf "_law_row" "_law_row" (defArgs (topS 46)) (defBody (topS 46)) (defScope (topS 46)) .none kV31 dc31 pm31 an31 cd31 ct31), sl31⟩) (c31 : PySem.W.codeIn K cd31 "_law_row" = true) (k31 : PySem.W.keepIn K (.ref a31) = true)
    (q32 : PySem.W.nsIn K mainGlobals "_law_rows" = some (some (.ref a32))) (l32 : K.lookup a32 = some ⟨oc32, od32, .func (PySem.W.fnOf "_law_rows" "_law_rows" (defArgs (topS 47)) (defBody (topS 47)) (defScope (topS 47)) .none kV32 dc32 pm32 an32 cd32 ct32), sl32⟩) (c32 : PySem.W.codeIn K cd32 "_law_rows" = true) (k32 : PySem.W.keepIn K (.ref a32) = true)
    (q33 : PySem.W.nsIn K mainGlobals "_law_least" = some (some (.ref a33))) (l33 : K.lookup a33 = some ⟨oc33, od33, .func (PySem.W.fnOf "_law_least" "_law_least" (defArgs (topS 48)) (defBody (topS 48)) (defScope (topS 48)) .none kV33 dc33 pm33 an33 cd33 ct33), sl33⟩) (c33 : PySem.W.codeIn K cd33 "_law_least" = true) (k33 : PySem.W.keepIn K (.ref a33) = true)
    (q34 : PySem.W.nsIn K mainGlobals "_law_fours" = some (some (.ref a34))) (l34 : K.lookup a34 = some ⟨oc34, od34, .func (PySem.W.fnOf "_law_fours" "_law_fours" (defArgs (topS 49)) (defBody (topS 49)) (defScope (topS 49)) .none kV34 dc34 pm34 an34 cd34 ct34), sl34⟩) (c34 : PySem.W.codeIn K cd34 "_law_fours" = true) (k34 : PySem.W.keepIn K (.ref a34) = true)
    (q35 : PySem.W.nsIn K mainGlobals "_law_down" = some (some (.ref a35))) (l35 : K.lookup a35 = some ⟨oc35, od35, .func (PySem.W.fnOf "_law_down" "_law_down" (defArgs (topS 50)) (defBody (topS 50)) (defScope (topS 50)) .none kV35 dc35 pm35 an35 cd35 ct35), sl35⟩) (c35 : PySem.W.codeIn K cd35 "_law_down" = true) (k35 : PySem.W.keepIn K (.ref a35) = true)
    (q36 : PySem.W.nsIn K mainGlobals "_law_threes" = some (some (.ref a36))) (l36 : K.lookup a36 = some ⟨oc36, od36, .func (PySem.W.fnOf "_law_threes" "_law_threes" (defArgs (topS 51)) (defBody (topS 51)) (defScope (topS 51)) .none kV36 dc36 pm36 an36 cd36 ct36), sl36⟩) (c36 : PySem.W.codeIn K cd36 "_law_threes" = true) (k36 : PySem.W.keepIn K (.ref a36) = true)
    (q37 : PySem.W.nsIn K mainGlobals "_law_numbers" = some (some (.ref a37))) (l37 : K.lookup a37 = some ⟨oc37, od37, .func (PySem.W.fnOf "_law_numbers" "_law_numbers" (defArgs (topS 52)) (defBody (topS 52)) (defScope (topS 52)) .none kV37 dc37 pm37 an37 cd37 ct37), sl37⟩) (c37 : PySem.W.codeIn K cd37 "_law_numbers" = true) (k37 : PySem.W.keepIn K (.ref a37) = true)
    (q38 : PySem.W.nsIn K mainGlobals "_law_kind" = some (some (.ref a38))) (l38 : K.lookup a38 = some ⟨oc38, od38, .func (PySem.W.fnOf "_law_kind" "_law_kind" (defArgs (topS 53)) (defBody (topS 53)) (defScope (topS 53)) .none kV38 dc38 pm38 an38 cd38 ct38), sl38⟩) (c38 : PySem.W.codeIn K cd38 "_law_kind" = true) (k38 : PySem.W.keepIn K (.ref a38) = true)
    (q39 : PySem.W.nsIn K mainGlobals "_law_told" = some (some (.ref a39))) (l39 : K.lookup a39 = some ⟨oc39, od39, .func (PySem.W.fnOf "_law_told" "_law_told" (defArgs (topS 54)) (defBody (topS 54)) (defScope (topS 54)) .none kV39 dc39 pm39 an39 cd39 ct39), sl39⟩) (c39 : PySem.W.codeIn K cd39 "_law_told" = true) (k39 : PySem.W.keepIn K (.ref a39) = true)
    (q40 : PySem.W.nsIn K mainGlobals "_law_lay" = some (some (.ref a40))) (l40 : K.lookup a40 = some ⟨oc40, od40, .func (PySem.W.fnOf "_law_lay" "_law_lay" (defArgs (topS 55)) (defBody (topS 55)) (defScope (topS 55)) .none kV40 dc40 pm40 an40 cd40 ct40), sl40⟩) (c40 : PySem.W.codeIn K cd40 "_law_lay" = true) (k40 : PySem.W.keepIn K (.ref a40) = true)
    (q41 : PySem.W.nsIn K mainGlobals "law" = some (some (.ref a41))) (l41 : K.lookup a41 = some ⟨oc41, od41, .func (PySem.W.fnOf "law" "law" (defArgs (topS 56)) (defBody (topS 56)) (defScope (topS 56)) .none kV41 dc41 pm41 an41 cd41 ct41), sl41⟩) (c41 : PySem.W.codeIn K cd41 "law" = true) (k41 : PySem.W.keepIn K (.ref a41) = true)
    (z0 : PySem.W.nsIn K mainGlobals "all" = some none)
    (z1 : PySem.W.nsIn K mainGlobals "bool" = some none)
    (z2 : PySem.W.nsIn K mainGlobals "enumerate" = some none)
    (z3 : PySem.W.nsIn K mainGlobals "int" = some none)
    (z4 : PySem.W.nsIn K mainGlobals "isinstance" = some none)
    (z5 : PySem.W.nsIn K mainGlobals "len" = some none)
    (z6 : PySem.W.nsIn K mainGlobals "list" = some none)
    (z7 : PySem.W.nsIn K mainGlobals "min" = some none)
    (z8 : PySem.W.nsIn K mainGlobals "range" = some none)
    (z9 : PySem.W.nsIn K mainGlobals "sorted" = some none)
    (z10 : PySem.W.nsIn K mainGlobals "str" = some none)
    (z11 : PySem.W.nsIn K mainGlobals "sum" = some none)
    (z12 : PySem.W.nsIn K mainGlobals "tuple" = some none)
    (z13 : PySem.W.nsIn K mainGlobals "zip" = some none)
    {vd0 : Addr} {vn0 : Nat} {vs0 : Array (Option Value)} {vt0_0 vt0_1 vt0_2 vt0_3 : Tok} (v0 : PySem.W.nsIn K mainGlobals "FOURS_CLOCK" = some (some (.ref vd0)))
    (vl0 : K.lookup vd0 = some ⟨.type "tuple", none, .seq #[.int 0 vt0_0, .int 3 vt0_1, .int 1 vt0_2, .int 2 vt0_3] vn0, vs0⟩)
    {vt1 : Tok} (v1 : PySem.W.nsIn K mainGlobals "MOST_KIND_PLACES" = some (some (.int 40 vt1)))
    {vd2 : Addr} {vn2 : Nat} {vs2 : Array (Option Value)} {vt2_0 vt2_1 vt2_2 vt2_3 vt2_4 vt2_5 : Tok} (v2 : PySem.W.nsIn K mainGlobals "THREES_CLOCK" = some (some (.ref vd2)))
    (vl2 : K.lookup vd2 = some ⟨.type "tuple", none, .seq #[.int 0 vt2_0, .int 3 vt2_1, .int 5 vt2_2, .int 1 vt2_3, .int 2 vt2_4, .int 4 vt2_5] vn2, vs2⟩)
    {vt3 : Tok} (v3 : PySem.W.nsIn K mainGlobals "UP_SLOT" = some (some (.int 2 vt3))) :
    ∃ fd : FuncData, (∀ (s : Shared) (v : Value), BindsTo s fd ⟨[v], []⟩ [("_law_script", v)]) ∧ ∀ base : Heap, K.In base → base.Ns mainGlobals mg → FnOk l.prog w K mg base CX0 7 fa fd ["_law_script"] (spLaw K ff_law) := by
  have e := hfa.symm.trans (PySem.W.mg_of X G q41)
  cases e
  have T : Tx K mg ⟨a0, a1, a2, a3, a4, a5, a6, a7, a8, a9, a10, a11, a12, a13, a14, a15, a16, a17, a18, a19, a20, a21, a22, a23, a24, a25, a26, a27, a28, a29, a30, a31, a32, a33, a34, a35, a36, a37, a38, a39, a40, fa⟩ ⟨PySem.W.fnOf "orders_of" "orders_of" (defArgs (topS 6)) (defBody (topS 6)) (defScope (topS 6)) .none kV0 dc0 pm0 an0 cd0 ct0, PySem.W.fnOf "mate_of" "mate_of" (defArgs (topS 7)) (defBody (topS 7)) (defScope (topS 7)) .none kV1 dc1 pm1 an1 cd1 ct1, PySem.W.fnOf "check_end" "check_end" (defArgs (topS 8)) (defBody (topS 8)) (defScope (topS 8)) .none kV2 dc2 pm2 an2 cd2 ct2, PySem.W.fnOf "count_ends" "count_ends" (defArgs (topS 9)) (defBody (topS 9)) (defScope (topS 9)) .none kV3 dc3 pm3 an3 cd3 ct3, PySem.W.fnOf "homes_of" "homes_of" (defArgs (topS 10)) (defBody (topS 10)) (defScope (topS 10)) .none kV4 dc4 pm4 an4 cd4 ct4, PySem.W.fnOf "behind_of" "behind_of" (defArgs (topS 11)) (defBody (topS 11)) (defScope (topS 11)) .none kV5 dc5 pm5 an5 cd5 ct5, PySem.W.fnOf "ring_from" "ring_from" (defArgs (topS 12)) (defBody (topS 12)) (defScope (topS 12)) .none kV6 dc6 pm6 an6 cd6 ct6, PySem.W.fnOf "begun_least" "begun_least" (defArgs (topS 13)) (defBody (topS 13)) (defScope (topS 13)) .none kV7 dc7 pm7 an7 cd7 ct7, PySem.W.fnOf "fours" "fours" (defArgs (topS 19)) (defBody (topS 19)) (defScope (topS 19)) .none kV8 dc8 pm8 an8 cd8 ct8, PySem.W.fnOf "threes" "threes" (defArgs (topS 20)) (defBody (topS 20)) (defScope (topS 20)) .none kV9 dc9 pm9 an9 cd9 ct9, PySem.W.fnOf "fours_by" "fours_by" (defArgs (topS 21)) (defBody (topS 21)) (defScope (topS 21)) .none kV10 dc10 pm10 an10 cd10 ct10, PySem.W.fnOf "threes_by" "threes_by" (defArgs (topS 22)) (defBody (topS 22)) (defScope (topS 22)) .none kV11 dc11 pm11 an11 cd11 ct11, PySem.W.fnOf "check_numbers" "check_numbers" (defArgs (topS 23)) (defBody (topS 23)) (defScope (topS 23)) .none kV12 dc12 pm12 an12 cd12 ct12, PySem.W.fnOf "are_numbers" "are_numbers" (defArgs (topS 24)) (defBody (topS 24)) (defScope (topS 24)) .none kV13 dc13 pm13 an13 cd13 ct13, PySem.W.fnOf "rights_of" "rights_of" (defArgs (topS 25)) (defBody (topS 25)) (defScope (topS 25)) .none kV14 dc14 pm14 an14 cd14 ct14, PySem.W.fnOf "uppers_of" "uppers_of" (defArgs (topS 26)) (defBody (topS 26)) (defScope (topS 26)) .none kV15 dc15 pm15 an15 cd15 ct15, PySem.W.fnOf "laid_out" "laid_out" (defArgs (topS 27)) (defBody (topS 27)) (defScope (topS 27)) .none kV16 dc16 pm16 an16 cd16 ct16, PySem.W.fnOf "groups" "groups" (defArgs (topS 29)) (defBody (topS 29)) (defScope (topS 29)) .none kV17 dc17 pm17 an17 cd17 ct17, PySem.W.fnOf "drain" "drain" (defArgs (topS 30)) (defBody (topS 30)) (defScope (topS 30)) .none kV18 dc18 pm18 an18 cd18 ct18, PySem.W.fnOf "lands_of" "lands_of" (defArgs (topS 32)) (defBody (topS 32)) (defScope (topS 32)) .none kV19 dc19 pm19 an19 cd19 ct19, PySem.W.fnOf "land_from" "land_from" (defArgs (topS 33)) (defBody (topS 33)) (defScope (topS 33)) .none kV20 dc20 pm20 an20 cd20 ct20, PySem.W.fnOf "parts_of" "parts_of" (defArgs (topS 34)) (defBody (topS 34)) (defScope (topS 34)) .none kV21 dc21 pm21 an21 cd21 ct21, PySem.W.fnOf "read_kind" "read_kind" (defArgs (topS 36)) (defBody (topS 36)) (defScope (topS 36)) .none kV22 dc22 pm22 an22 cd22 ct22, PySem.W.fnOf "sort_of" "sort_of" (defArgs (topS 37)) (defBody (topS 37)) (defScope (topS 37)) .none kV23 dc23 pm23 an23 cd23 ct23, PySem.W.fnOf "all_are" "all_are" (defArgs (topS 38)) (defBody (topS 38)) (defScope (topS 38)) .none kV24 dc24 pm24 an24 cd24 ct24, PySem.W.fnOf "straight_line" "straight_line" (defArgs (topS 39)) (defBody (topS 39)) (defScope (topS 39)) .none kV25 dc25 pm25 an25 cd25 ct25, PySem.W.fnOf "upper_right" "upper_right" (defArgs (topS 40)) (defBody (topS 40)) (defScope (topS 40)) .none kV26 dc26 pm26 an26 cd26 ct26, PySem.W.fnOf "lay_by" "lay_by" (defArgs (topS 41)) (defBody (topS 41)) (defScope (topS 41)) .none kV27 dc27 pm27 an27 cd27 ct27, PySem.W.fnOf "_law_mixed" "_law_mixed" (defArgs (topS 43)) (defBody (topS 43)) (defScope (topS 43)) .none kV28 dc28 pm28 an28 cd28 ct28, PySem.W.fnOf "_law_take" "_law_take" (defArgs (topS 44)) (defBody (topS 44)) (defScope (topS 44)) .none kV29 dc29 pm29 an29 cd29 ct29, PySem.W.fnOf "_law_whole" "_law_whole" (defArgs (topS 45)) (defBody (topS 45)) (defScope (topS 45)) .none kV30 dc30 pm30 an30 cd30 ct30, PySem.W.fnOf "_law_row" "_law_row" (defArgs (topS 46)) (defBody (topS 46)) (defScope (topS 46)) .none kV31 dc31 pm31 an31 cd31 ct31, PySem.W.fnOf "_law_rows" "_law_rows" (defArgs (topS 47)) (defBody (topS 47)) (defScope (topS 47)) .none kV32 dc32 pm32 an32 cd32 ct32, PySem.W.fnOf "_law_least" "_law_least" (defArgs (topS 48)) (defBody (topS 48)) (defScope (topS 48)) .none kV33 dc33 pm33 an33 cd33 ct33, PySem.W.fnOf "_law_fours" "_law_fours" (defArgs (topS 49)) (defBody (topS 49)) (defScope (topS 49)) .none kV34 dc34 pm34 an34 cd34 ct34, PySem.W.fnOf "_law_down" "_law_down" (defArgs (topS 50)) (defBody (topS 50)) (defScope (topS 50)) .none kV35 dc35 pm35 an35 cd35 ct35, PySem.W.fnOf "_law_threes" "_law_threes" (defArgs (topS 51)) (defBody (topS 51)) (defScope (topS 51)) .none kV36 dc36 pm36 an36 cd36 ct36, PySem.W.fnOf "_law_numbers" "_law_numbers" (defArgs (topS 52)) (defBody (topS 52)) (defScope (topS 52)) .none kV37 dc37 pm37 an37 cd37 ct37, PySem.W.fnOf "_law_kind" "_law_kind" (defArgs (topS 53)) (defBody (topS 53)) (defScope (topS 53)) .none kV38 dc38 pm38 an38 cd38 ct38, PySem.W.fnOf "_law_told" "_law_told" (defArgs (topS 54)) (defBody (topS 54)) (defScope (topS 54)) .none kV39 dc39 pm39 an39 cd39 ct39, PySem.W.fnOf "_law_lay" "_law_lay" (defArgs (topS 55)) (defBody (topS 55)) (defScope (topS 55)) .none kV40 dc40 pm40 an40 cd40 ct40, PySem.W.fnOf "law" "law" (defArgs (topS 56)) (defBody (topS 56)) (defScope (topS 56)) .none kV41 dc41 pm41 an41 cd41 ct41⟩ := { F_orders_of := fun_mk (st := topS 6) l0 c0 k0, g_orders_of := PySem.W.mg_of X G q0, b_orders_of := (fun_mk (st := topS 6) l0 c0 k0).binds (ps := ["drawing"]) fun _ _ _ _ _ _ us hl => match us, hl with | [_], _ => rfl, F_mate_of := fun_mk (st := topS 7) l1 c1 k1, g_mate_of := PySem.W.mg_of X G q1, b_mate_of := (fun_mk (st := topS 7) l1 c1 k1).binds (ps := ["end"]) fun _ _ _ _ _ _ us hl => match us, hl with | [_], _ => rfl, F_check_end := fun_mk (st := topS 8) l2 c2 k2, g_check_end := PySem.W.mg_of X G q2, b_check_end := (fun_mk (st := topS 8) l2 c2 k2).binds (ps := ["drawing", "end"]) fun _ _ _ _ _ _ us hl => match us, hl with | [_, _], _ => rfl, F_count_ends := fun_mk (st := topS 9) l3 c3 k3, g_count_ends := PySem.W.mg_of X G q3, b_count_ends := (fun_mk (st := topS 9) l3 c3 k3).binds (ps := ["rows"]) fun _ _ _ _ _ _ us hl => match us, hl with | [_], _ => rfl, F_homes_of := fun_mk (st := topS 10) l4 c4 k4, g_homes_of := PySem.W.mg_of X G q4, b_homes_of := (fun_mk (st := topS 10) l4 c4 k4).binds (ps := ["drawing"]) fun _ _ _ _ _ _ us hl => match us, hl with | [_], _ => rfl, F_behind_of := fun_mk (st := topS 11) l5 c5 k5, g_behind_of := PySem.W.mg_of X G q5, b_behind_of := (fun_mk (st := topS 11) l5 c5 k5).binds (ps := ["drawing"]) fun _ _ _ _ _ _ us hl => match us, hl with | [_], _ => rfl, F_ring_from := fun_mk (st := topS 12) l6 c6 k6, g_ring_from := PySem.W.mg_of X G q6, b_ring_from := (fun_mk (st := topS 12) l6 c6 k6).binds (ps := ["behind", "end"]) fun _ _ _ _ _ _ us hl => match us, hl with | [_, _], _ => rfl, F_begun_least := fun_mk (st := topS 13) l7 c7 k7, g_begun_least := PySem.W.mg_of X G q7, b_begun_least := (fun_mk (st := topS 13) l7 c7 k7).binds (ps := ["row"]) fun _ _ _ _ _ _ us hl => match us, hl with | [_], _ => rfl, F_fours := fun_mk (st := topS 19) l8 c8 k8, g_fours := PySem.W.mg_of X G q8, b_fours := (fun_mk (st := topS 19) l8 c8 k8).binds (ps := ["rows", "columns", "shift"]) fun _ _ _ _ _ _ us hl => match us, hl with | [_, _, _], _ => rfl, F_threes := fun_mk (st := topS 20) l9 c9 k9, g_threes := PySem.W.mg_of X G q9, b_threes := (fun_mk (st := topS 20) l9 c9 k9).binds (ps := ["rows", "columns", "shift"]) fun _ _ _ _ _ _ us hl => match us, hl with | [_, _, _], _ => rfl, F_fours_by := fun_mk (st := topS 21) l10 c10 k10, g_fours_by := PySem.W.mg_of X G q10, b_fours_by := (fun_mk (st := topS 21) l10 c10 k10).binds (ps := ["rows", "columns", "shift"]) fun _ _ _ _ _ _ us hl => match us, hl with | [_, _, _], _ => rfl, F_threes_by := fun_mk (st := topS 22) l11 c11 k11, g_threes_by := PySem.W.mg_of X G q11, b_threes_by := (fun_mk (st := topS 22) l11 c11 k11).binds (ps := ["rows", "columns", "shift"]) fun _ _ _ _ _ _ us hl => match us, hl with | [_, _, _], _ => rfl, F_check_numbers := fun_mk (st := topS 23) l12 c12 k12, g_check_numbers := PySem.W.mg_of X G q12, b_check_numbers := (fun_mk (st := topS 23) l12 c12 k12).binds (ps := ["rows", "columns", "shift"]) fun _ _ _ _ _ _ us hl => match us, hl with | [_, _, _], _ => rfl, F_are_numbers := fun_mk (st := topS 24) l13 c13 k13, g_are_numbers := PySem.W.mg_of X G q13, b_are_numbers := (fun_mk (st := topS 24) l13 c13 k13).binds (ps := ["rows", "columns", "shift"]) fun _ _ _ _ _ _ us hl => match us, hl with | [_, _, _], _ => rfl, F_rights_of := fun_mk (st := topS 25) l14 c14 k14, g_rights_of := PySem.W.mg_of X G q14, b_rights_of := (fun_mk (st := topS 25) l14 c14 k14).binds (ps := ["rows", "columns"]) fun _ _ _ _ _ _ us hl => match us, hl with | [_, _], _ => rfl, F_uppers_of := fun_mk (st := topS 26) l15 c15 k15, g_uppers_of := PySem.W.mg_of X G q15, b_uppers_of := (fun_mk (st := topS 26) l15 c15 k15).binds (ps := ["rows", "columns", "shift"]) fun _ _ _ _ _ _ us hl => match us, hl with | [_, _, _], _ => rfl, F_laid_out := fun_mk (st := topS 27) l16 c16 k16, g_laid_out := PySem.W.mg_of X G q16, b_laid_out := (fun_mk (st := topS 27) l16 c16 k16).binds (ps := ["steps", "clock"]) fun _ _ _ _ _ _ us hl => match us, hl with | [_, _], _ => rfl, F_groups := fun_mk (st := topS 29) l17 c17 k17, g_groups := PySem.W.mg_of X G q17, b_groups := (fun_mk (st := topS 29) l17 c17 k17).binds (ps := ["near", "places"]) fun _ _ _ _ _ _ us hl => match us, hl with | [_, _], _ => rfl, F_drain := fun_mk (st := topS 30) l18 c18 k18, g_drain := PySem.W.mg_of X G q18, b_drain := (fun_mk (st := topS 30) l18 c18 k18).binds (ps := ["near", "waiting", "start"]) fun _ _ _ _ _ _ us hl => match us, hl with | [_, _, _], _ => rfl, F_lands_of := fun_mk (st := topS 32) l19 c19 k19, g_lands_of := PySem.W.mg_of X G q19, b_lands_of := (fun_mk (st := topS 32) l19 c19 k19).binds (ps := ["drawing"]) fun _ _ _ _ _ _ us hl => match us, hl with | [_], _ => rfl, F_land_from := fun_mk (st := topS 33) l20 c20 k20, g_land_from := PySem.W.mg_of X G q20, b_land_from := (fun_mk (st := topS 33) l20 c20 k20).binds (ps := ["behind", "first"]) fun _ _ _ _ _ _ us hl => match us, hl with | [_, _], _ => rfl, F_parts_of := fun_mk (st := topS 34) l21 c21 k21, g_parts_of := PySem.W.mg_of X G q21, b_parts_of := (fun_mk (st := topS 34) l21 c21 k21).binds (ps := ["drawing"]) fun _ _ _ _ _ _ us hl => match us, hl with | [_], _ => rfl, F_read_kind := fun_mk (st := topS 36) l22 c22 k22, g_read_kind := PySem.W.mg_of X G q22, b_read_kind := (fun_mk (st := topS 36) l22 c22 k22).binds (ps := ["drawing", "end"]) fun _ _ _ _ _ _ us hl => match us, hl with | [_, _], _ => rfl, F_sort_of := fun_mk (st := topS 37) l23 c23 k23, g_sort_of := PySem.W.mg_of X G q23, b_sort_of := (fun_mk (st := topS 37) l23 c23 k23).binds (ps := ["drawing"]) fun _ _ _ _ _ _ us hl => match us, hl with | [_], _ => rfl, F_all_are := fun_mk (st := topS 38) l24 c24 k24, g_all_are := PySem.W.mg_of X G q24, b_all_are := (fun_mk (st := topS 38) l24 c24 k24).binds (ps := ["numbers", "wanted"]) fun _ _ _ _ _ _ us hl => match us, hl with | [_, _], _ => rfl, F_straight_line := fun_mk (st := topS 39) l25 c25 k25, g_straight_line := PySem.W.mg_of X G q25, b_straight_line := (fun_mk (st := topS 39) l25 c25 k25).binds (ps := ["behind", "first", "size"]) fun _ _ _ _ _ _ us hl => match us, hl with | [_, _, _], _ => rfl, F_upper_right := fun_mk (st := topS 40) l26 c26 k26, g_upper_right := PySem.W.mg_of X G q26, b_upper_right := (fun_mk (st := topS 40) l26 c26 k26).binds (ps := ["behind", "right", "clock"]) fun _ _ _ _ _ _ us hl => match us, hl with | [_, _, _], _ => rfl, F_lay_by := fun_mk (st := topS 41) l27 c27 k27, g_lay_by := PySem.W.mg_of X G q27, b_lay_by := (fun_mk (st := topS 41) l27 c27 k27).binds (ps := ["behind", "rights", "clock"]) fun _ _ _ _ _ _ us hl => match us, hl with | [_, _, _], _ => rfl, F__law_mixed := fun_mk (st := topS 43) l28 c28 k28, g__law_mixed := PySem.W.mg_of X G q28, b__law_mixed := (fun_mk (st := topS 43) l28 c28 k28).binds (ps := ["_law_cell", "_law_k", "_law_many"]) fun _ _ _ _ _ _ us hl => match us, hl with | [_, _, _], _ => rfl, F__law_take := fun_mk (st := topS 44) l29 c29 k29, g__law_take := PySem.W.mg_of X G q29, b__law_take := (fun_mk (st := topS 44) l29 c29 k29).binds (ps := ["_law_box", "_law_many"]) fun _ _ _ _ _ _ us hl => match us, hl with | [_, _], _ => rfl, F__law_whole := fun_mk (st := topS 45) l30 c30 k30, g__law_whole := PySem.W.mg_of X G q30, b__law_whole := (fun_mk (st := topS 45) l30 c30 k30).binds (ps := ["_law_found"]) fun _ _ _ _ _ _ us hl => match us, hl with | [_], _ => rfl, F__law_row := fun_mk (st := topS 46) l31 c31 k31, g__law_row := PySem.W.mg_of X G q31, b__law_row := (fun_mk (st := topS 46) l31 c31 k31).binds (ps := ["_law_found", "_law_due"]) fun _ _ _ _ _ _ us hl => match us, hl with | [_, _], _ => rfl, F__law_rows := fun_mk (st := topS 47) l32 c32 k32, g__law_rows := PySem.W.mg_of X G q32, b__law_rows := (fun_mk (st := topS 47) l32 c32 k32).binds (ps := ["_law_found", "_law_due"]) fun _ _ _ _ _ _ us hl => match us, hl with | [_, _], _ => rfl, F__law_least := fun_mk (st := topS 48) l33 c33 k33, g__law_least := PySem.W.mg_of X G q33, b__law_least := (fun_mk (st := topS 48) l33 c33 k33).binds (ps := ["_law_row_here"]) fun _ _ _ _ _ _ us hl => match us, hl with | [_], _ => rfl, F__law_fours := fun_mk (st := topS 49) l34 c34 k34, g__law_fours := PySem.W.mg_of X G q34, b__law_fours := (fun_mk (st := topS 49) l34 c34 k34).binds (ps := ["_law_r", "_law_c", "_law_s"]) fun _ _ _ _ _ _ us hl => match us, hl with | [_, _, _], _ => rfl, F__law_down := fun_mk (st := topS 50) l35 c35 k35, g__law_down := PySem.W.mg_of X G q35, b__law_down := (fun_mk (st := topS 50) l35 c35 k35).binds (ps := ["_law_r", "_law_c", "_law_s", "_law_p"]) fun _ _ _ _ _ _ us hl => match us, hl with | [_, _, _, _], _ => rfl, F__law_threes := fun_mk (st := topS 51) l36 c36 k36, g__law_threes := PySem.W.mg_of X G q36, b__law_threes := (fun_mk (st := topS 51) l36 c36 k36).binds (ps := ["_law_r", "_law_c", "_law_s"]) fun _ _ _ _ _ _ us hl => match us, hl with | [_, _, _], _ => rfl, F__law_numbers := fun_mk (st := topS 52) l37 c37 k37, g__law_numbers := PySem.W.mg_of X G q37, b__law_numbers := (fun_mk (st := topS 52) l37 c37 k37).binds (ps := ["_law_box"]) fun _ _ _ _ _ _ us hl => match us, hl with | [_], _ => rfl, F__law_kind := fun_mk (st := topS 53) l38 c38 k38, g__law_kind := PySem.W.mg_of X G q38, b__law_kind := (fun_mk (st := topS 53) l38 c38 k38).binds (ps := ["_law_sort", "_law_r", "_law_c", "_law_s"]) fun _ _ _ _ _ _ us hl => match us, hl with | [_, _, _, _], _ => rfl, F__law_told := fun_mk (st := topS 54) l39 c39 k39, g__law_told := PySem.W.mg_of X G q39, b__law_told := (fun_mk (st := topS 54) l39 c39 k39).binds (ps := ["_law_told_here", "_law_sort", "_law_numbers_here"]) fun _ _ _ _ _ _ us hl => match us, hl with | [_, _, _], _ => rfl, F__law_lay := fun_mk (st := topS 55) l40 c40 k40, g__law_lay := PySem.W.mg_of X G q40, b__law_lay := (fun_mk (st := topS 55) l40 c40 k40).binds (ps := ["_law_r", "_law_c", "_law_s", "_law_place", "_law_many"]) fun _ _ _ _ _ _ us hl => match us, hl with | [_, _, _, _, _], _ => rfl, F_law := fun_mk (st := topS 56) l41 c41 k41, g_law := PySem.W.mg_of X G q41, b_law := (fun_mk (st := topS 56) l41 c41 k41).binds (ps := ["_law_script"]) fun _ _ _ _ _ _ us hl => match us, hl with | [_], _ => rfl, m_all := PySem.W.mg_none_of X G z0, m_bool := PySem.W.mg_none_of X G z1, m_enumerate := PySem.W.mg_none_of X G z2, m_int := PySem.W.mg_none_of X G z3, m_isinstance := PySem.W.mg_none_of X G z4, m_len := PySem.W.mg_none_of X G z5, m_list := PySem.W.mg_none_of X G z6, m_min := PySem.W.mg_none_of X G z7, m_range := PySem.W.mg_none_of X G z8, m_sorted := PySem.W.mg_none_of X G z9, m_str := PySem.W.mg_none_of X G z10, m_sum := PySem.W.mg_none_of X G z11, m_tuple := PySem.W.mg_none_of X G z12, m_zip := PySem.W.mg_none_of X G z13, c_FOURS_CLOCK := ⟨_, PySem.W.mg_of X G v0, .inr ⟨_, _, _, vl0, rfl, rfl, sizeLine_le (show 4 ≤ 16777216 by decide), .cons ⟨_, rfl⟩ (.cons ⟨_, rfl⟩ (.cons ⟨_, rfl⟩ (.cons ⟨_, rfl⟩ (.nil))))⟩, _, vl0, rfl, rfl⟩, c_MOST_KIND_PLACES := ⟨_, PySem.W.mg_of X G v1⟩, c_THREES_CLOCK := ⟨_, PySem.W.mg_of X G v2, .inr ⟨_, _, _, vl2, rfl, rfl, sizeLine_le (show 6 ≤ 16777216 by decide), .cons ⟨_, rfl⟩ (.cons ⟨_, rfl⟩ (.cons ⟨_, rfl⟩ (.cons ⟨_, rfl⟩ (.cons ⟨_, rfl⟩ (.cons ⟨_, rfl⟩ (.nil))))))⟩, _, vl2, rfl, rfl⟩, c_UP_SLOT := ⟨_, PySem.W.mg_of X G v3⟩ }
  exact ⟨_, fun s v => .of_eq rfl, fun base _ _ => law_end (ok_law T)⟩
end Lw
open PySem PySem.W PyProof.Rows
set_option maxHeartbeats 0 in
theorem PySem.Challenge.cw_ringfloor_k38_numbers_read_back_holds : PySem.Challenge.rw_ringfloor_k38_numbers_read_back.Holds := by
  w_on; o_law; k_head; (case hw => w_witness2)
  k_fill
  refine L2.walk_ofB (l := PySem.Challenge.rw_ringfloor_k38_numbers_read_back) (n := 63) (k := 7) (x := "_law_script") (CX := fun _ => L2.CX0) (sp := fun w => Ow.spLaw _ Lw.ff_law) rfl (by decide) rfl ⟨rfl, by decide, by decide⟩ (fun w h Y => PySem.W.kIn_of Y) ?F (fun w H a ns hl hb ho hS => ⟨a, ns, rfl, ho, hS, Lw.law_true ns hl hb, fun _ => rfl⟩) (fun _ _ _ _ _ h => h)
  case F =>
    intro w mg fa h KX G hmg
    refine' Lw.all_mk KX G hmg ?q0 ?l0 ?c0 ?k0 ?q1 ?l1 ?c1 ?k1 ?q2 ?l2 ?c2 ?k2 ?q3 ?l3 ?c3 ?k3 ?q4 ?l4 ?c4 ?k4 ?q5 ?l5 ?c5 ?k5 ?q6 ?l6 ?c6 ?k6 ?q7 ?l7 ?c7 ?k7 ?q8 ?l8 ?c8 ?k8 ?q9 ?l9 ?c9 ?k9 ?q10 ?l10 ?c10 ?k10 ?q11 ?l11 ?c11 ?k11 ?q12 ?l12 ?c12 ?k12 ?q13 ?l13 ?c13 ?k13 ?q14 ?l14 ?c14 ?k14 ?q15 ?l15 ?c15 ?k15 ?q16 ?l16 ?c16 ?k16 ?q17 ?l17 ?c17 ?k17 ?q18 ?l18 ?c18 ?k18 ?q19 ?l19 ?c19 ?k19 ?q20 ?l20 ?c20 ?k20 ?q21 ?l21 ?c21 ?k21 ?q22 ?l22 ?c22 ?k22 ?q23 ?l23 ?c23 ?k23 ?q24 ?l24 ?c24 ?k24 ?q25 ?l25 ?c25 ?k25 ?q26 ?l26 ?c26 ?k26 ?q27 ?l27 ?c27 ?k27 ?q28 ?l28 ?c28 ?k28 ?q29 ?l29 ?c29 ?k29 ?q30 ?l30 ?c30 ?k30 ?q31 ?l31 ?c31 ?k31 ?q32 ?l32 ?c32 ?k32 ?q33 ?l33 ?c33 ?k33 ?q34 ?l34 ?c34 ?k34 ?q35 ?l35 ?c35 ?k35 ?q36 ?l36 ?c36 ?k36 ?q37 ?l37 ?c37 ?k37 ?q38 ?l38 ?c38 ?k38 ?q39 ?l39 ?c39 ?k39 ?q40 ?l40 ?c40 ?k40 ?q41 ?l41 ?c41 ?k41 ?z0 ?z1 ?z2 ?z3 ?z4 ?z5 ?z6 ?z7 ?z8 ?z9 ?z10 ?z11 ?z12 ?z13 ?v0 ?vl0 ?v1 ?v2 ?vl2 ?v3
    (case q0 => k_is); (case l0 => k_is); (case c0 => k_is); (case k0 => k_is)
    (case q1 => k_is); (case l1 => k_is); (case c1 => k_is); (case k1 => k_is)
    (case q2 => k_is); (case l2 => k_is); (case c2 => k_is); (case k2 => k_is)
    (case q3 => k_is); (case l3 => k_is); (case c3 => k_is); (case k3 => k_is)
    (case q4 => k_is); (case l4 => k_is); (case c4 => k_is); (case k4 => k_is)
    (case q5 => k_is); (case l5 => k_is); (case c5 => k_is); (case k5 => k_is)
    (case q6 => k_is); (case l6 => k_is); (case c6 => k_is); (case k6 => k_is)
    (case q7 => k_is); (case l7 => k_is); (case c7 => k_is); (case k7 => k_is)
    (case q8 => k_is); (case l8 => k_is); (case c8 => k_is); (case k8 => k_is)
    (case q9 => k_is); (case l9 => k_is); (case c9 => k_is); (case k9 => k_is)
    (case q10 => k_is); (case l10 => k_is); (case c10 => k_is); (case k10 => k_is)
    (case q11 => k_is); (case l11 => k_is); (case c11 => k_is); (case k11 => k_is)
    (case q12 => k_is); (case l12 => k_is); (case c12 => k_is); (case k12 => k_is)
    (case q13 => k_is); (case l13 => k_is); (case c13 => k_is); (case k13 => k_is)
    (case q14 => k_is); (case l14 => k_is); (case c14 => k_is); (case k14 => k_is)
    (case q15 => k_is); (case l15 => k_is); (case c15 => k_is); (case k15 => k_is)
    (case q16 => k_is); (case l16 => k_is); (case c16 => k_is); (case k16 => k_is)
    (case q17 => k_is); (case l17 => k_is); (case c17 => k_is); (case k17 => k_is)
    (case q18 => k_is); (case l18 => k_is); (case c18 => k_is); (case k18 => k_is)
    (case q19 => k_is); (case l19 => k_is); (case c19 => k_is); (case k19 => k_is)
    (case q20 => k_is); (case l20 => k_is); (case c20 => k_is); (case k20 => k_is)
    (case q21 => k_is); (case l21 => k_is); (case c21 => k_is); (case k21 => k_is)
    (case q22 => k_is); (case l22 => k_is); (case c22 => k_is); (case k22 => k_is)
    (case q23 => k_is); (case l23 => k_is); (case c23 => k_is); (case k23 => k_is)
    (case q24 => k_is); (case l24 => k_is); (case c24 => k_is); (case k24 => k_is)
    (case q25 => k_is); (case l25 => k_is); (case c25 => k_is); (case k25 => k_is)
    (case q26 => k_is); (case l26 => k_is); (case c26 => k_is); (case k26 => k_is)
    (case q27 => k_is); (case l27 => k_is); (case c27 => k_is); (case k27 => k_is)
    (case q28 => k_is); (case l28 => k_is); (case c28 => k_is); (case k28 => k_is)
    (case q29 => k_is); (case l29 => k_is); (case c29 => k_is); (case k29 => k_is)
    (case q30 => k_is); (case l30 => k_is); (case c30 => k_is); (case k30 => k_is)
    (case q31 => k_is); (case l31 => k_is); (case c31 => k_is); (case k31 => k_is)
    (case q32 => k_is); (case l32 => k_is); (case c32 => k_is); (case k32 => k_is)
    (case q33 => k_is); (case l33 => k_is); (case c33 => k_is); (case k33 => k_is)
    (case q34 => k_is); (case l34 => k_is); (case c34 => k_is); (case k34 => k_is)
    (case q35 => k_is); (case l35 => k_is); (case c35 => k_is); (case k35 => k_is)
    (case q36 => k_is); (case l36 => k_is); (case c36 => k_is); (case k36 => k_is)
    (case q37 => k_is); (case l37 => k_is); (case c37 => k_is); (case k37 => k_is)
    (case q38 => k_is); (case l38 => k_is); (case c38 => k_is); (case k38 => k_is)
    (case q39 => k_is); (case l39 => k_is); (case c39 => k_is); (case k39 => k_is)
    (case q40 => k_is); (case l40 => k_is); (case c40 => k_is); (case k40 => k_is)
    (case q41 => k_is); (case l41 => k_is); (case c41 => k_is); (case k41 => k_is)
    (case z0 => k_is)
    (case z1 => k_is)
    (case z2 => k_is)
    (case z3 => k_is)
    (case z4 => k_is)
    (case z5 => k_is)
    (case z6 => k_is)
    (case z7 => k_is)
    (case z8 => k_is)
    (case z9 => k_is)
    (case z10 => k_is)
    (case z11 => k_is)
    (case z12 => k_is)
    (case z13 => k_is)
    (case v0 => k_is)
    (case vl0 => k_is)
    (case v1 => k_is)
    (case v2 => k_is)
    (case vl2 => k_is)
    (case v3 => k_is)

