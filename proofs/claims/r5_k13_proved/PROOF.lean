import PyProof.Rows.All
import HandS.ForMost
import HandS.Exc
import HandS.TryMany
import HandS.Wide
import HandS.Flow
import HandS.CallSlots
import HandS.AnyAll
import HandS.Lambda
import KE.SortData
import HandS.TupAny
import KE.KTupSum
import KE.DataMinMax
import PyProof.Claim2Refuses
import HandS.WideBits
import HandS.Codes
import HandS.IsInst
import HandS.Conv
import HandS.TryOnly
import HandS.ExcInit
import HandS.Small
import PyProof.ExcBaseAll.ValueError
import HandS.ExcField
import HandS.ExcIs
import KE.KExcIs
import KE.KSortKeySt
import KE.KLam
import PyProof.Draws
import HandS.Defaults
import HandS.ForExc
import HandS.HeadHook4
import HandS.HeadWalk
import HandS.Head0
import HandS.Head1
import HandS.Head2
import HandS.HeadEnd
import HandS.HeadHook1
import HandS.HeadHook2
import HandS.HeadHook3
import PySem.Challenge.RW_letpast_k13_gap_plans
set_option Elab.async false
set_option linter.all false
set_option maxRecDepth 100000
set_option maxHeartbeats 4000000
namespace VI
open PySem PySem.Spec PyProof.Rows L2

/-- a value as a tree -/
inductive D where
  | non | bl (b : Bool) | int (i : Int) | str (s : Str)
  | tup (xs : List D) | lst (xs : List D)
  | dct (ks : List Key) (vs : List D)
  | obj (cn : Nat) (fn : List Str) (vs : List D)
  | scr (xs : List D)
  | fnv (c : Nat)

section
variable (K : PySem.W.Frag) (CT : Nat → Option Addr) (F : Hp)
mutual
def Rep : D → V → Prop
  | .non, v => v = .non
  | .bl b, v => v = .bl b
  | .int i, v => v = .int i
  | .str s, v => v = .str s
  | .tup ds, v => ∃ a vs, v = .ref a ∧ SqT K F a vs ∧ Reps ds vs
  | .lst ds, v => ∃ a vs, v = .ref a ∧ F a = some (.lst vs) ∧ Reps ds vs
  | .scr ds, v => ∃ a vs, v = .ref a ∧ SqL K F a vs ∧ Reps ds vs
  | .fnv c, v => ∃ a, v = .ref a ∧ CT c = some a
  | .dct ks ds, v => ∃ a vs, v = .ref a ∧ F a = some (.dK (ks.zip vs)) ∧ ks.length = vs.length ∧ Reps ds vs
  | .obj cn fn ds, v => ∃ a C dx vs, v = .ref a ∧ CT cn = some C ∧ F a = some (.ins C dx (fn.zip vs)) ∧ fn.length = vs.length ∧ Reps ds vs
def Reps : List D → List V → Prop
  | [], vs => vs = []
  | d :: ds, vs => ∃ v ws, vs = v :: ws ∧ Rep d v ∧ Reps ds ws
end
end

section
variable {K : PySem.W.Frag} {CT : Nat → Option Addr} {F F' : Hp}
theorem same_sqT {a : Addr} {xs : List V} (e : Same F F') (h : SqT K F a xs) : SqT K F' a xs := by
  rcases h with (h | ⟨o, h⟩) | h
  · exact .inl (.inl (e _ _ h))
  · exact .inl (.inr ⟨o, e _ _ h⟩)
  · exact .inr h
mutual
theorem Rep.mono (e : Same F F') : ∀ (d : D) {v : V}, Rep K CT F d v → Rep K CT F' d v
  | .non, _, h => h
  | .bl _, _, h => h
  | .int _, _, h => h
  | .str _, _, h => h
  | .tup ds, _, h => by
    simp only [Rep] at h ⊢
    obtain ⟨a, vs, h1, h2, h3⟩ := h
    exact ⟨a, vs, h1, same_sqT e h2, Reps.mono e ds h3⟩
  | .lst ds, _, h => by
    simp only [Rep] at h ⊢
    obtain ⟨a, vs, h1, h2, h3⟩ := h
    exact ⟨a, vs, h1, e _ _ h2, Reps.mono e ds h3⟩
  | .fnv _, _, h => by simp only [Rep] at h ⊢; exact h
  | .scr ds, _, h => by
    simp only [Rep] at h ⊢
    obtain ⟨a, vs, h1, h2, h3⟩ := h
    exact ⟨a, vs, h1, e.seq h2, Reps.mono e ds h3⟩
  | .dct ks ds, _, h => by
    simp only [Rep] at h ⊢
    obtain ⟨a, vs, h1, h2, h3, h4⟩ := h
    exact ⟨a, vs, h1, e _ _ h2, h3, Reps.mono e ds h4⟩
  | .obj cn fn ds, _, h => by
    simp only [Rep] at h ⊢
    obtain ⟨a, C, dx, vs, h1, h2, h3, h4, h5⟩ := h
    exact ⟨a, C, dx, vs, h1, h2, e _ _ h3, h4, Reps.mono e ds h5⟩
theorem Reps.mono (e : Same F F') : ∀ (ds : List D) {vs : List V}, Reps K CT F ds vs → Reps K CT F' ds vs
  | [], _, h => h
  | d :: ds, _, h => by
    simp only [Reps] at h ⊢
    obtain ⟨v, ws, h1, h2, h3⟩ := h
    exact ⟨v, ws, h1, Rep.mono e d h2, Reps.mono e ds h3⟩
end
theorem Reps.length : ∀ {ds : List D} {vs : List V}, Reps K CT F ds vs → ds.length = vs.length
  | [], _, h => by simp only [Reps] at h; rw [h]; rfl
  | d :: ds, _, h => by
    simp only [Reps] at h
    obtain ⟨v, ws, rfl, _, h3⟩ := h
    simp [Reps.length h3]
theorem Reps.nil : Reps K CT F [] [] := by simp [Reps]
theorem Reps.cons {d : D} {v : V} {ds : List D} {vs : List V} (h : Rep K CT F d v) (t : Reps K CT F ds vs) : Reps K CT F (d :: ds) (v :: vs) := by
  simp only [Reps]; exact ⟨v, vs, rfl, h, t⟩
theorem Reps.append : ∀ {ds : List D} {vs : List V} {es : List D} {ws : List V}, Reps K CT F ds vs → Reps K CT F es ws → Reps K CT F (ds ++ es) (vs ++ ws)
  | [], _, _, _, h, t => by simp only [Reps] at h; subst h; exact t
  | d :: ds, _, _, _, h, t => by
    simp only [Reps] at h
    obtain ⟨v, ws, rfl, h2, h3⟩ := h
    exact Reps.cons h2 (Reps.append h3 t)
theorem Reps.get : ∀ {ds : List D} {vs : List V} {i : Nat} {d : D}, Reps K CT F ds vs → ds[i]? = some d → ∃ v, vs[i]? = some v ∧ Rep K CT F d v
  | [], _, _, _, _, e => by simp at e
  | d :: ds, _, 0, _, h, e => by
    simp only [Reps] at h
    obtain ⟨v, ws, rfl, h2, h3⟩ := h
    simp at e; subst e; exact ⟨v, rfl, h2⟩
  | d :: ds, _, i + 1, _, h, e => by
    simp only [Reps] at h
    obtain ⟨v, ws, rfl, h2, h3⟩ := h
    obtain ⟨u, h4, h5⟩ := Reps.get (i := i) h3 (by simpa using e)
    exact ⟨u, by simpa using h4, h5⟩
theorem Reps.getV : ∀ {ds : List D} {vs : List V} {i : Nat} {v : V}, Reps K CT F ds vs → vs[i]? = some v → ∃ d, ds[i]? = some d ∧ Rep K CT F d v
  | [], _, _, _, h, e => by simp only [Reps] at h; subst h; simp at e
  | d :: ds, _, 0, _, h, e => by
    simp only [Reps] at h
    obtain ⟨v, ws, rfl, h2, h3⟩ := h
    simp at e; subst e; exact ⟨d, rfl, h2⟩
  | d :: ds, _, i + 1, _, h, e => by
    simp only [Reps] at h
    obtain ⟨v, ws, rfl, h2, h3⟩ := h
    obtain ⟨u, h4, h5⟩ := Reps.getV (i := i) h3 (by simpa using e)
    exact ⟨u, by simpa using h4, h5⟩
theorem Reps.set : ∀ {ds : List D} {vs : List V} (i : Nat) {d : D} {v : V}, Reps K CT F ds vs → Rep K CT F d v → Reps K CT F (ds.set i d) (vs.set i v)
  | [], _, _, _, _, h, _ => by simp only [Reps] at h; subst h; exact Reps.nil
  | d :: ds, _, 0, _, _, h, r => by
    simp only [Reps] at h
    obtain ⟨v, ws, rfl, h2, h3⟩ := h
    exact Reps.cons r h3
  | d :: ds, _, i + 1, _, _, h, r => by
    simp only [Reps] at h
    obtain ⟨v, ws, rfl, h2, h3⟩ := h
    exact Reps.cons h2 (Reps.set i h3 r)
theorem Reps.take : ∀ {ds : List D} {vs : List V} (n : Nat), Reps K CT F ds vs → Reps K CT F (ds.take n) (vs.take n)
  | [], _, n, h => by simp only [Reps] at h; subst h; simp; exact Reps.nil
  | d :: ds, _, 0, h => by simp; exact Reps.nil
  | d :: ds, _, n + 1, h => by
    simp only [Reps] at h
    obtain ⟨v, ws, rfl, h2, h3⟩ := h
    exact Reps.cons h2 (Reps.take n h3)
theorem Reps.drop : ∀ {ds : List D} {vs : List V} (n : Nat), Reps K CT F ds vs → Reps K CT F (ds.drop n) (vs.drop n)
  | [], _, n, h => by simp only [Reps] at h; subst h; simp; exact Reps.nil
  | d :: ds, _, 0, h => h
  | d :: ds, _, n + 1, h => by
    simp only [Reps] at h
    obtain ⟨v, ws, rfl, h2, h3⟩ := h
    exact Reps.drop n h3
theorem Reps.eraseIdx : ∀ {ds : List D} {vs : List V} (n : Nat), Reps K CT F ds vs → Reps K CT F (ds.eraseIdx n) (vs.eraseIdx n)
  | [], _, n, h => by simp only [Reps] at h; subst h; simp; exact Reps.nil
  | d :: ds, _, 0, h => by
    simp only [Reps] at h
    obtain ⟨v, ws, rfl, h2, h3⟩ := h
    exact h3
  | d :: ds, _, n + 1, h => by
    simp only [Reps] at h
    obtain ⟨v, ws, rfl, h2, h3⟩ := h
    exact Reps.cons h2 (Reps.eraseIdx n h3)
end

/-- what an owned thing holds -/
inductive OC where
  | lst (xs : List D)
  | ins (cn : Nat) (fn : List Str) (vs : List D)
def OC.toD : OC → D
  | .lst xs => .lst xs
  | .ins cn fn vs => .obj cn fn vs
/-- what a slot holds: nothing known; a value; a thing that may be changed (fz: and may become a value) -/
inductive SD where
  | un | val (d : D) | own (fz : Bool) (o : OC)

inductive Res (α : Type) where
  | ok (a : α) (S : List SD)
  | exc (cn : Nat) (fn : List Str) (vs : List D) (S : List SD)
  | stuck

def Res.bind {α β : Type} (r : Res α) (k : α → List SD → Res β) : Res β :=
  match r with
  | .ok a S => k a S
  | .exc c fn vs S => .exc c fn vs S
  | .stuck => .stuck

/-- what a def hands back: a value and what its first argument, where it is changed, holds -/
inductive FRes where
  | ret (d : D) (o : Option OC)
  | retN (xs : List D)
  | exc (cn : Nat) (fn : List Str) (vs : List D) (o : Option OC)
  | stuck

section
variable (K : PySem.W.Frag) (CT : Nat → Option Addr)
def Own (F H : Hp) (a : Addr) (o : OC) : Prop := F a = none ∧ match o with
  | .lst xs => ∃ vs, H a = some (.lst vs) ∧ Reps K CT F xs vs
  | .ins cn fn ds => ∃ C dx vs, CT cn = some C ∧ H a = some (.ins C dx (fn.zip vs)) ∧ fn.length = vs.length ∧ Reps K CT F ds vs
/-- a table of code objects, each of them known -/
def TabV (H : Hp) (P : Addr) : Prop := ∃ ps : Array Value, H P = some (.tbl ps) ∧ TriplesOk ps.toList ∧ ∀ (pos : Pos) (cv : Value), codeAmong pos ps.toList = some cv → ∃ c q, cv = .ref c ∧ H c = some (LamX.CodeO c q)
/-- H' is H but for the table at P, and for new things -/
def TabbedV (P : Addr) (H H' : Hp) : Prop := TabV H' P ∧ ∀ b o, b ≠ P → H b = some o → H' b = some o
/-- the entry: the heap, what was settled, the argument that is changed -/
structure Gh where
  H0 : Hp
  F0 : Hp
  io : Option Addr
  T : List Addr
structure SR (G : Gh) (S : List SD) (F : Hp) (σ : L2.St) (H : Hp) : Prop where
  len : S.length = σ.length
  sub : Same F H
  val : ∀ (i : Nat) (d : D), S[i]? = some (SD.val d) → ∃ v, σ[i]? = some (some v) ∧ Rep K CT F d v
  own : ∀ (i : Nat) (fz : Bool) (o : OC), S[i]? = some (SD.own fz o) → ∃ a, σ[i]? = some (some (V.ref a)) ∧ Own K CT F H a o ∧ (fz = true → G.H0 a = none) ∧ (fz = false → G.io = some a)
  inj : ∀ (i j : Nat) (a : Addr) (fz : Bool) (o : OC) (fz' : Bool) (o' : OC), S[i]? = some (SD.own fz o) → S[j]? = some (SD.own fz' o') → σ[i]? = some (some (V.ref a)) → σ[j]? = some (some (V.ref a)) → i = j
  keep : ∀ b o, G.H0 b = some o → G.io ≠ some b → b ∉ G.T → H b = some o
  iot : ∀ a, G.io = some a → H a ≠ none
  tab : ∀ P ∈ G.T, TabV H P
  tabF : ∀ P ∈ G.T, F P = none
  frz : ∀ b, G.F0 b = none → G.H0 b ≠ none → F b = none
  F0 : Same G.F0 F
end
section
variable {K : PySem.W.Frag} {CT : Nat → Option Addr} {G : Gh} {S S' : List SD} {F F' H H' : Hp} {σ σ' : L2.St}
theorem SR.H0t (I : SR K CT G S F σ H) {b : Addr} (h : G.H0 b ≠ none) : H b ≠ none := by
  by_cases e : G.io = some b
  · exact I.iot b e
  · by_cases t : b ∈ G.T
    · obtain ⟨ps, h1, _⟩ := I.tab b t
      rw [h1]; simp
    · cases q : G.H0 b with
      | none => exact absurd q h
      | some o => rw [I.keep b o q e t]; simp
theorem SR.fresh (I : SR K CT G S F σ H) {b : Addr} (h : H b = none) : G.H0 b = none := by
  cases q : G.H0 b with
  | none => rfl
  | some o => exact absurd h (I.H0t (by rw [q]; simp))
theorem SR.freshF (I : SR K CT G S F σ H) {b : Addr} (h : H b = none) : F b = none := I.sub.free h
theorem Own.mono {a : Addr} {o : OC} (e : Same F F') (k : F' a = none) (h : Own K CT F H a o) (q : H' a = H a) : Own K CT F' H' a o := by
  refine ⟨k, ?_⟩
  cases o with
  | lst xs => obtain ⟨_, vs, h1, h2⟩ := h; exact ⟨vs, by rw [q]; exact h1, Reps.mono e xs h2⟩
  | ins cn fn ds => obtain ⟨_, C, dx, vs, h1, h2, h3, h4⟩ := h; exact ⟨C, dx, vs, h1, by rw [q]; exact h2, h3, Reps.mono e ds h4⟩
theorem SR.notab (I : SR K CT G S F σ H) {a : Addr} {o : OC} (h : Own K CT F H a o) : a ∉ G.T := fun t => by
  obtain ⟨ps, h1, _⟩ := I.tab a t
  cases o with
  | lst xs => obtain ⟨_, vs, h2, _⟩ := h; rw [h1] at h2; cases h2
  | ins cn fn ds => obtain ⟨_, C, dx, vs, _, h2, _⟩ := h; rw [h1] at h2; cases h2
theorem tabV_of {P : Addr} (h : TabV H P) (e : H' P = H P) (k : ∀ c q, H c = some (LamX.CodeO c q) → H' c = some (LamX.CodeO c q)) : TabV H' P := by
  obtain ⟨ps, h1, h2, h3⟩ := h
  refine ⟨ps, by rw [e]; exact h1, h2, fun pos cv hc => ?_⟩
  obtain ⟨c, q, e1, e2⟩ := h3 pos cv hc
  exact ⟨c, q, e1, k c q e2⟩
theorem Own.nocode {a c : Addr} {o : OC} {q : Str} (h : Own K CT F H a o) (e : H c = some (LamX.CodeO c q)) : c ≠ a := fun z => by
  subst z
  unfold LamX.CodeO at e
  cases o with
  | lst xs => obtain ⟨_, vs, h2, _⟩ := h; rw [e] at h2; cases h2
  | ins cn fn ds => obtain ⟨_, C, dx, vs, _, h2, _⟩ := h; rw [e] at h2; cases h2
theorem SR.tabNe (I : SR K CT G S F σ H) {p : Addr} (hp : H p = none) : p ∉ G.T := fun t => by
  obtain ⟨ps, h1, _⟩ := I.tab p t
  rw [hp] at h1; cases h1
theorem Own.tracked {a : Addr} {o : OC} (h : Own K CT F H a o) : H a ≠ none := by
  cases o with
  | lst xs => obtain ⟨_, vs, h1, _⟩ := h; rw [h1]; simp
  | ins cn fn ds => obtain ⟨_, C, dx, vs, _, h2, _⟩ := h; rw [h2]; simp
/-- a new thing is laid, not settled -/
theorem SR.laid (I : SR K CT G S F σ H) {p : Addr} {o : HO} (hp : H p = none) : SR K CT G S F σ (upd H p o) where
  len := I.len
  sub := fun b u e => by rw [upd_ne (ne_of_none (I.sub b u e) hp)]; exact I.sub b u e
  val := I.val
  own := fun i fz oc e => by
    obtain ⟨a, h1, h2, h3⟩ := I.own i fz oc e
    refine ⟨a, h1, h2.mono (Same.refl F) h2.1 ?_, h3⟩
    rw [upd_ne]; intro z; subst z; exact h2.tracked hp
  inj := I.inj
  keep := fun b u e n t => by
    have := I.keep b u e n t
    rw [upd_ne (ne_of_none this hp)]; exact this
  iot := fun a e => by
    by_cases z : a = p
    · subst z; rw [upd_same]; simp
    · rw [upd_ne z]; exact I.iot a e
  tab := fun P t => tabV_of (I.tab P t) (upd_ne fun z => I.tabNe hp (z ▸ t)) fun c q e => (upd_ne (ne_of_none e hp)).trans e
  tabF := fun P t => I.tabF P t
  frz := I.frz
  F0 := I.F0
/-- a new thing is laid and settled -/
theorem SR.settle (I : SR K CT G S F σ H) {p : Addr} {o : HO} (hp : H p = none) : SR K CT G S (upd F p o) σ (upd H p o) where
  len := I.len
  sub := fun b u e => by
    by_cases z : b = p
    · subst z; rw [upd_same] at e ⊢; exact e
    · rw [upd_ne z] at e ⊢; exact I.sub b u e
  val := fun i d e => by
    obtain ⟨v, h1, h2⟩ := I.val i d e
    exact ⟨v, h1, h2.mono (fun b u q => by rw [upd_ne (ne_of_none q (I.freshF hp))]; exact q) d⟩
  own := fun i fz oc e => by
    obtain ⟨a, h1, h2, h3⟩ := I.own i fz oc e
    have ne : a ≠ p := fun z => by subst z; exact h2.tracked hp
    exact ⟨a, h1, h2.mono (fun b u q => by rw [upd_ne (ne_of_none q (I.freshF hp))]; exact q) (by rw [upd_ne ne]; exact h2.1) (by rw [upd_ne ne]), h3⟩
  inj := I.inj
  keep := fun b u e n t => by
    have := I.keep b u e n t
    rw [upd_ne (ne_of_none this hp)]; exact this
  iot := fun a e => by
    by_cases z : a = p
    · subst z; rw [upd_same]; simp
    · rw [upd_ne z]; exact I.iot a e
  tab := fun P t => tabV_of (I.tab P t) (upd_ne fun z => I.tabNe hp (z ▸ t)) fun c q e => (upd_ne (ne_of_none e hp)).trans e
  tabF := fun P t => (upd_ne (fun z => I.tabNe hp (by subst z; exact t))).trans (I.tabF P t)
  frz := fun b h1 h2 => by
    by_cases z : b = p
    · subst z; exact absurd (I.fresh hp) h2
    · rw [upd_ne z]; exact I.frz b h1 h2
  F0 := fun b u e => by
    have := I.F0 b u e
    rw [upd_ne (ne_of_none this (I.freshF hp))]; exact this
theorem same_upd {p : Addr} {o : HO} (hp : F p = none) : Same F (upd F p o) := fun b u q => by rw [upd_ne (ne_of_none q hp)]; exact q
/-- a thing that is there, new since the entry and owned by no slot, is settled -/
theorem SR.settle' (I : SR K CT G S F σ H) {p : Addr} {o : HO} (hp : F p = none) (h0 : G.H0 p = none) (hH : H p = some o) (hT : p ∉ G.T)
    (no : ∀ (i : Nat) (fz : Bool) (oc : OC), S[i]? = some (SD.own fz oc) → σ[i]? ≠ some (some (V.ref p))) : SR K CT G S (upd F p o) σ H where
  len := I.len
  sub := fun b u e => by
    by_cases z : b = p
    · subst z; rw [upd_same] at e; cases e; exact hH
    · rw [upd_ne z] at e; exact I.sub b u e
  val := fun i d e => by
    obtain ⟨v, h1, h2⟩ := I.val i d e
    exact ⟨v, h1, h2.mono (same_upd hp) d⟩
  own := fun i fz oc e => by
    obtain ⟨a, h1, h2, h3⟩ := I.own i fz oc e
    have ne : a ≠ p := fun z => by subst z; exact no i fz oc e h1
    exact ⟨a, h1, h2.mono (same_upd hp) (by rw [upd_ne ne]; exact h2.1) rfl, h3⟩
  inj := I.inj
  keep := I.keep
  iot := I.iot
  tab := I.tab
  tabF := fun P t => (upd_ne (fun z => hT (by subst z; exact t))).trans (I.tabF P t)
  frz := fun b h1 h2 => by
    by_cases z : b = p
    · subst z; exact absurd h0 h2
    · rw [upd_ne z]; exact I.frz b h1 h2
  F0 := fun b u e => same_upd hp b u (I.F0 b u e)
/-- a slot's value -/
theorem SR.setVal (I : SR K CT G S F σ H) {i : Nat} {d : D} {v : V} (r : Rep K CT F d v) : SR K CT G (S.set i (.val d)) F (σ.set i (some v)) H where
  len := by rw [List.length_set, List.length_set]; exact I.len
  sub := I.sub
  val := fun j e h => by
    by_cases z : i = j
    · subst z
      rw [List.getElem?_set_self'] at h
      cases q : S[i]? with
      | none => rw [q] at h; cases h
      | some x =>
        rw [q] at h; cases h
        have : i < σ.length := by rw [← I.len]; exact (List.getElem?_eq_some_iff.mp q).1
        exact ⟨v, by rw [List.getElem?_set_self this], r⟩
    · rw [List.getElem?_set_ne z] at h ⊢; exact I.val j e h
  own := fun j fz oc h => by
    by_cases z : i = j
    · subst z
      rw [List.getElem?_set_self'] at h
      cases q : S[i]? with
      | none => rw [q] at h; cases h
      | some x => rw [q] at h; cases h
    · rw [List.getElem?_set_ne z] at h ⊢; exact I.own j fz oc h
  inj := fun j k a fz oc fz' oc' h1 h2 h3 h4 => by
    have hj : i ≠ j := fun z => by
      subst z
      rw [List.getElem?_set_self'] at h1
      cases q : S[i]? with
      | none => rw [q] at h1; cases h1
      | some x => rw [q] at h1; cases h1
    have hk : i ≠ k := fun z => by
      subst z
      rw [List.getElem?_set_self'] at h2
      cases q : S[i]? with
      | none => rw [q] at h2; cases h2
      | some x => rw [q] at h2; cases h2
    rw [List.getElem?_set_ne hj] at h1 h3
    rw [List.getElem?_set_ne hk] at h2 h4
    exact I.inj j k a fz oc fz' oc' h1 h2 h3 h4
  keep := I.keep
  iot := I.iot
  tab := I.tab
  tabF := I.tabF
  frz := I.frz
  F0 := I.F0
theorem set_own {i j : Nat} {x : SD} {y : SD} (h : (S.set i x)[j]? = some y) : (i = j ∧ x = y ∧ i < S.length) ∨ (i ≠ j ∧ S[j]? = some y) := by
  by_cases z : i = j
  · subst z
    rw [List.getElem?_set_self'] at h
    cases q : S[i]? with
    | none => rw [q] at h; cases h
    | some x' => rw [q] at h; cases h; exact .inl ⟨rfl, rfl, (List.getElem?_eq_some_iff.mp q).1⟩
  · rw [List.getElem?_set_ne z] at h; exact .inr ⟨z, h⟩
/-- a slot gets a new owned thing, at an address that no slot owns -/
theorem SR.setOwn (I : SR K CT G S F σ H) {i : Nat} {a : Addr} {o : OC} (r : Own K CT F H a o) (h0 : G.H0 a = none)
    (no : ∀ (j : Nat) (fz : Bool) (oc : OC), S[j]? = some (SD.own fz oc) → σ[j]? ≠ some (some (V.ref a))) : SR K CT G (S.set i (.own true o)) F (σ.set i (some (.ref a))) H where
  len := by rw [List.length_set, List.length_set]; exact I.len
  sub := I.sub
  val := fun j e h => by
    rcases set_own h with ⟨_, z, _⟩ | ⟨z, q⟩
    · cases z
    · rw [List.getElem?_set_ne z]; exact I.val j e q
  own := fun j fz oc h => by
    rcases set_own h with ⟨z, e, l⟩ | ⟨z, q⟩
    · subst z; cases e
      exact ⟨a, by rw [List.getElem?_set_self (by rw [← I.len]; exact l)], r, fun _ => h0, fun z => nomatch z⟩
    · rw [List.getElem?_set_ne z]; exact I.own j fz oc q
  inj := fun j k b fz oc fz' oc' h1 h2 h3 h4 => by
    rcases set_own h1 with ⟨z1, _, l1⟩ | ⟨z1, q1⟩ <;> rcases set_own h2 with ⟨z2, _, l2⟩ | ⟨z2, q2⟩
    · exact z1.symm.trans z2
    · subst z1
      rw [List.getElem?_set_self (by rw [← I.len]; exact l1)] at h3
      rw [List.getElem?_set_ne z2] at h4
      cases h3
      exact absurd h4 (no k fz' oc' q2)
    · subst z2
      rw [List.getElem?_set_self (by rw [← I.len]; exact l2)] at h4
      rw [List.getElem?_set_ne z1] at h3
      cases h4
      exact absurd h3 (no j fz oc q1)
    · rw [List.getElem?_set_ne z1] at h3
      rw [List.getElem?_set_ne z2] at h4
      exact I.inj j k b fz oc fz' oc' q1 q2 h3 h4
  keep := I.keep
  iot := I.iot
  tab := I.tab
  tabF := I.tabF
  frz := I.frz
  F0 := I.F0
/-- the contents of an owned slot change; the heap at its address alone -/
theorem SR.chg (I : SR K CT G S F σ H) {i : Nat} {a : Addr} {fz : Bool} {o o' : OC} (hs : S[i]? = some (SD.own fz o)) (ha : σ[i]? = some (some (V.ref a)))
    (k : ∀ b, b ≠ a → H' b = H b) (r : Own K CT F H' a o') : SR K CT G (S.set i (.own fz o')) F σ H' := by
  obtain ⟨a', h1, h2, h3, h4⟩ := I.own i fz o hs
  rw [ha] at h1; cases h1
  have hF : ∀ b u, F b = some u → b ≠ a := fun b u e z => by subst z; rw [h2.1] at e; cases e
  exact {
    len := by rw [List.length_set]; exact I.len
    sub := fun b u e => by rw [k b (hF b u e)]; exact I.sub b u e
    val := fun j e h => by
      rcases set_own h with ⟨_, z, _⟩ | ⟨z, q⟩
      · cases z
      · exact I.val j e q
    own := fun j fz' oc h => by
      rcases set_own h with ⟨z, e, l⟩ | ⟨z, q⟩
      · subst z; cases e
        exact ⟨a, ha, r, h3, h4⟩
      · obtain ⟨b, g1, g2, g3⟩ := I.own j fz' oc q
        have : b ≠ a := fun e => by subst e; exact z (I.inj i j b fz o fz' oc hs q ha g1)
        exact ⟨b, g1, g2.mono (Same.refl F) g2.1 (k b this), g3⟩
    inj := fun j l b f1 o1 f2 o2 q1 q2 q3 q4 => by
      have c : ∀ (m : Nat) (f : Bool) (u : OC), (S.set i (SD.own fz o'))[m]? = some (SD.own f u) → ∃ (f : Bool) (u : OC), S[m]? = some (SD.own f u) := fun m f u h => by
        rcases set_own h with ⟨z, e, _⟩ | ⟨_, q⟩
        · subst z; exact ⟨_, _, hs⟩
        · exact ⟨_, _, q⟩
      obtain ⟨_, _, w1⟩ := c j f1 o1 q1
      obtain ⟨_, _, w2⟩ := c l f2 o2 q2
      exact I.inj j l b _ _ _ _ w1 w2 q3 q4
    tab := fun P t => tabV_of (I.tab P t) (k P fun z => I.notab h2 (z ▸ t)) fun c q e => (k c (h2.nocode e)).trans e
    tabF := I.tabF
    keep := fun b u e n t => by
      have hb : b ≠ a := fun z => by
        subst z
        cases fz with
        | true => rw [h3 rfl] at e; cases e
        | false => exact n (h4 rfl)
      rw [k b hb]; exact I.keep b u e n t
    iot := fun b e => by
      by_cases z : b = a
      · subst z; exact r.tracked
      · rw [k b z]; exact I.iot b e
    frz := I.frz
    F0 := I.F0 }
/-- an owned slot becomes a value -/
theorem SR.freeze (I : SR K CT G S F σ H) {i : Nat} {o : OC} (hs : S[i]? = some (SD.own true o)) :
    ∃ a u, σ[i]? = some (some (V.ref a)) ∧ F a = none ∧ H a = some u ∧ Same F (upd F a u) ∧
      SR K CT G (S.set i (.val o.toD)) (upd F a u) σ H ∧
      Rep K CT (upd F a u) o.toD (.ref a) := by
  obtain ⟨a, h1, h2, h3, h4⟩ := I.own i true o hs
  have hF := h2.1
  have R : ∃ u, H a = some u ∧ Rep K CT (upd F a u) o.toD (.ref a) := by
    cases o with
    | lst xs =>
      obtain ⟨_, vs, q1, q2⟩ := h2
      exact ⟨_, q1, by simp only [OC.toD, Rep]; exact ⟨a, vs, rfl, upd_same, q2.mono (same_upd hF) xs⟩⟩
    | ins cn fn ds =>
      obtain ⟨_, C, dx, vs, q0, q1, q2, q3⟩ := h2
      exact ⟨_, q1, by simp only [OC.toD, Rep]; exact ⟨a, C, dx, vs, rfl, q0, upd_same, q2, q3.mono (same_upd hF) ds⟩⟩
  obtain ⟨u, hu, hr⟩ := R
  refine ⟨a, u, h1, hF, hu, same_upd hF, ?_, hr⟩
  exact {
    len := by rw [List.length_set]; exact I.len
    sub := fun b w e => by
      by_cases z : b = a
      · subst z; rw [upd_same] at e; cases e; exact hu
      · rw [upd_ne z] at e; exact I.sub b w e
    val := fun j e h => by
      rcases set_own h with ⟨z, q, _⟩ | ⟨z, q⟩
      · subst z; cases q; exact ⟨_, h1, hr⟩
      · obtain ⟨v, g1, g2⟩ := I.val j e q
        exact ⟨v, g1, g2.mono (same_upd hF) e⟩
    own := fun j fz' oc h => by
      rcases set_own h with ⟨_, q, _⟩ | ⟨z, q⟩
      · cases q
      · obtain ⟨b, g1, g2, g3⟩ := I.own j fz' oc q
        have : b ≠ a := fun e => by subst e; exact z (I.inj i j b true o fz' oc hs q h1 g1)
        exact ⟨b, g1, g2.mono (same_upd hF) (by rw [upd_ne this]; exact g2.1) rfl, g3⟩
    inj := fun j l b f1 o1 f2 o2 q1 q2 q3 q4 => by
      rcases set_own q1 with ⟨_, q, _⟩ | ⟨_, w1⟩
      · cases q
      rcases set_own q2 with ⟨_, q, _⟩ | ⟨_, w2⟩
      · cases q
      exact I.inj j l b _ _ _ _ w1 w2 q3 q4
    keep := I.keep
    iot := I.iot
    tab := I.tab
    tabF := fun P t => (upd_ne (fun z => I.notab h2 (by subst z; exact t))).trans (I.tabF P t)
    frz := fun b e1 e2 => by
      by_cases z : b = a
      · subst z; exact absurd (h3 rfl) e2
      · rw [upd_ne z]; exact I.frz b e1 e2
    F0 := fun b w e => same_upd hF b w (I.F0 b w e) }
/-- slots forgotten -/
theorem SR.forget (I : SR K CT G S F σ H) {i : Nat} {x : Option V} : SR K CT G (S.set i .un) F (σ.set i x) H where
  len := by rw [List.length_set, List.length_set]; exact I.len
  sub := I.sub
  val := fun j e h => by
    rcases set_own h with ⟨_, q, _⟩ | ⟨z, q⟩
    · cases q
    · rw [List.getElem?_set_ne z]; exact I.val j e q
  own := fun j fz oc h => by
    rcases set_own h with ⟨_, q, _⟩ | ⟨z, q⟩
    · cases q
    · rw [List.getElem?_set_ne z]; exact I.own j fz oc q
  inj := fun j l b f1 o1 f2 o2 q1 q2 q3 q4 => by
    rcases set_own q1 with ⟨_, q, _⟩ | ⟨z1, w1⟩
    · cases q
    rcases set_own q2 with ⟨_, q, _⟩ | ⟨z2, w2⟩
    · cases q
    rw [List.getElem?_set_ne z1] at q3
    rw [List.getElem?_set_ne z2] at q4
    exact I.inj j l b _ _ _ _ w1 w2 q3 q4
  keep := I.keep
  iot := I.iot
  tab := I.tab
  tabF := I.tabF
  frz := I.frz
  F0 := I.F0
end

set_option Elab.async false
set_option linter.all false
set_option maxRecDepth 100000
set_option maxHeartbeats 4000000
open PySem PySem.Spec PyProof.Rows L2

inductive BOp where | add | sub | mul | fdiv | mod | pow | band
  deriving DecidableEq
inductive COp where | eq | ne | lt | le | gt | ge | inn | nin
  deriving DecidableEq
inductive Bi where | srt | mind | len | int | tup | lst | min2 | max2 | minl | maxl | sum | all | any
  deriving DecidableEq
inductive Ty where | int | bool | str | tup | lst | dct
  deriving DecidableEq
/-- what a generator's element may say: its item, a part of it, a captured name, a constant of the module, texts joined, compared, a sign sought -/
inductive PX where
  | it | ita (k : Nat) | fr (j : Nat) (x : Str) | gl (x : Str) (d : D) | cat (a b : PX) | eqq (n : Bool) (a b : PX) | inn (n : Bool) (a b : PX)
mutual
inductive E where
  | var (i : Nat)
  | non | bl (b : Bool) | int (i : Int) | str (s : Str)
  | glob (x : Str) (d : D)
  | bin (o : BOp) (a b : E)
  | neg (a : E)
  | cmp (o : COp) (a b : E) | cmpO (o : COp) (a : E) (i : Nat)
  | isN (n : Bool) (a : E)
  | chain (o o' : COp) (a b c : E)
  | conj (a b : E) | disj (a b : E) | not (a : E)
  | ite (c a b : E)
  | tup (es : Es) | lst (es : Es) | dct (ks : List Str) (es : Es)
  | rep (a b : E)
  | idx (a b : E) | idxO (i : Nat) (b : E) | lenO (i : Nat)
  | slc (a lo hi : E) | slV (a lo hi : E) | hole
  | lrg (a : E)
  | gfn (f : Nat) | callV (i : Nat) (es : Es)
  | call (f : Nat) (es : Es) | callO (f : Nat) (i : Nat) (es : Es)
  | bi (f : Bi) (es : Es)
  | isi (a : E) (ts : List Ty)
  | fld (a : E) (f : Str) | fldO (i : Nat) (f : Str)
  | mth (cn f : Nat) (m : Str) (a : E) (es : Es)
  | mk (cn f : Nat) (es : Es)
  | pop (i : Nat) (es : Es) | app (i : Nat) (e : E)
  | rng (es : Es) | enm (e : E)
  | cmpr (own : List (Str × Nat)) (ts : List Nat) (it cs el : E)
  | gen (all : Bool) (it : E) (el : PX)
  | srt (el : PX) (a : E)
inductive Es where
  | nil | cons (e : E) (r : Es)
end
mutual
/-- what an except clause hands back -/
inductive HX where
  | str (s : Str) | int (i : Int) | bl (b : Bool) | non
  | fld (f : Str) | inst (x : Str)
  | tup (es : HXs)
  | conj (a b : HX) | ite (c a b : HX)
inductive HXs where
  | nil | cons (a : HX) (r : HXs)
end
mutual
inductive B where
  | asg (i : Nat) (e : E) | asgN (i : Nat) (e : E)
  | aug (i : Nat) (o : BOp) (e : E)
  | unp (ts : List Nat) (e : E)
  | six (i : Nat) (ix e : E)
  | sfl (i : Nat) (f : Str) (e : E)
  | exp (e : E)
  | iff (c : E) (a b : Bs)
  | for (ts : List Nat) (it : E) (b : Bs)
  | brk | cnt | pas | ret (e : E) | retN | retL (e : E)
  | asgF (i f : Nat) (es : Es)
  | rse (cn : Nat) (fs : List Str) (es : Es) | rsp (cn : Nat) (es : Es)
  | tri (b : Bs) (hs : List (Str × Nat × HX))
inductive Bs where
  | nil | cons (b : B) (r : Bs)
end

/-! ### the meaning of operations on trees -/
def cap : Nat := 100000
def flatD : D → Bool
  | .non => true | .bl _ => true | .int _ => true | .str _ => true | _ => false
mutual
def toP : D → PyData
  | .non => .none | .bl b => .bool b | .int i => .int i | .str s => .str s
  | .tup xs => .tuple (toPs xs) | .lst xs => .list (toPs xs) | .dct _ _ => .none | .obj _ _ _ => .none | .scr _ => .none | .fnv _ => .none
def toPs : List D → List PyData
  | [] => []
  | x :: xs => toP x :: toPs xs
end
mutual
def isP : D → Bool
  | .non => true | .bl _ => true | .int _ => true | .str _ => true
  | .tup xs => isPs xs | .lst xs => isPs xs | .dct _ _ => false | .obj _ _ _ => false | .scr _ => false | .fnv _ => false
def isPs : List D → Bool
  | [] => true
  | x :: xs => isP x && isPs xs
end
/-- sorted(xs), of data -/
def leD (a b : D) : Bool := PySem.W.dataLe false toP a b
def srtOk (xs : List D) : Bool :=
  decide (xs.length ≤ cap) && isPs xs && (xs.all fun a => xs.all fun b => PySem.W.alike (toP a) (toP b)) && xs.all (fun a => match a with | .tup (_ :: _) => true | _ => false) && xs.all fun a => decide ((toP a).depth ≤ 60)
def minDD (x : D) (xs : List D) : D := xs.foldl (fun a y => if PySem.W.dataLt (toP y) (toP a) = true then y else a) x
def minOk (xs : List D) : Bool := srtOk xs && decide (PyData.depthAll (toPs xs) ≤ 60)
/-- == of data -/
def eqD (a b : D) : Bool := PyData.eqv (toP a) (toP b)
def binD (o : BOp) (a b : D) : Option D :=
  match o, a, b with
  | .add, .int i, .int j => some (.int (i + j))
  | .add, .str x, .str y => if x.length + y.length ≤ cap then some (.str (x ++ y)) else none
  | .add, .lst xs, .lst ys => if xs.length + ys.length ≤ cap then some (.lst (xs ++ ys)) else none
  | .add, .tup xs, .tup ys => if xs.length + ys.length ≤ cap ∧ xs ≠ [] then some (.tup (xs ++ ys)) else none
  | .sub, .int i, .int j => some (.int (i - j))
  | .mul, .int i, .int j => if (i.natAbs < 2 ^ 64 ∨ j.natAbs < 2 ^ 64) ∨ i.natAbs.log2 + j.natAbs.log2 < 100000000 then some (.int (i * j)) else none
  | .fdiv, .int i, .int j => if 0 < j ∧ j.natAbs.log2 < 9000 then some (.int (i / j)) else none
  | .mod, .int i, .int j => if 0 < j then some (.int (i % j)) else none
  | .pow, .int i, .int j => if 0 ≤ j ∧ j ≤ 1000000 ∧ i.natAbs < 2 ^ 64 then some (.int (i ^ j.toNat)) else none
  | .band, .int i, .int j => some (.int (Builtin.bitAnd i j))
  | _, _, _ => none
def inD (a : D) : D → Option Bool
  | .lst xs => if flatD a = true ∧ xs.all flatD = true then some (xs.any fun y => eqD y a) else none
  | .tup xs => if flatD a = true ∧ xs.all flatD = true then some (xs.any fun y => eqD y a) else none
  | .str z => match a with
    | .str c => if c.cps.size = 1 then some (decide (c.cps.toList.headD 0 ∈ z.cps.toList)) else none
    | _ => none
  | _ => none
def eqSc : D → D → Option Bool
  | .int i, .int j => some (decide (i = j))
  | .str i, .str j => some (decide (i = j))
  | .bl i, .bl j => some (decide (i = j))
  | .non, .non => some true
  | .non, .int _ => some false | .int _, .non => some false | .non, .bl _ => some false | .bl _, .non => some false
  | .non, .str _ => some false | .str _, .non => some false | .int _, .str _ => some false | .str _, .int _ => some false
  | .bl _, .str _ => some false | .str _, .bl _ => some false
  | _, _ => none
def shp (a : D) : Bool := isP a && SeqAt.shaped (toP a)
def eqX (a b : D) : Option Bool := match eqSc a b with
  | some r => some r
  | none => if shp a = true ∧ shp b = true then some (eqD a b) else none
def cmpD (o : COp) (a b : D) : Option Bool :=
  match o with
  | .eq => eqX a b
  | .ne => (eqX a b).map (!·)
  | .lt => match a, b with | .int i, .int j => some (decide (i < j)) | _, _ => none
  | .le => match a, b with | .int i, .int j => some (decide (i ≤ j)) | _, _ => none
  | .gt => match a, b with | .int i, .int j => some (decide (j < i)) | _, _ => none
  | .ge => match a, b with | .int i, .int j => some (decide (j ≤ i)) | _, _ => none
  | .inn => inD a b
  | .nin => (inD a b).map (!·)
def truD : D → Option Bool
  | .non => some false | .bl b => some b | .int i => some (i != 0)
  | .str s => if s.length ≤ cap then some ((s.length : Int) != 0) else none
  | .lst xs => some (!xs.isEmpty) | .tup xs => some (!xs.isEmpty) | .dct ks _ => some (!ks.isEmpty) | _ => none
def valD {α : Type} (kvs : List (Key × α)) (k : Key) : Option α := (kvs.find? fun kv => decide (kv.1 = k)).map (·.2)
def idxD (a b : D) : Option D :=
  match a, b with
  | .lst xs, .int i => atI xs i
  | .tup xs, .int i => atI xs i
  | .str z, .int i => if z.length ≤ cap then (atI z.cps.toList i).map fun c => .str ⟨#[c]⟩ else none
  | .dct ks vs, .str k => valD (ks.zip vs) (Sum.inr k)
  | _, _ => none
def cutD {α : Type} (xs : List α) (lo hi : Option Int) : List α := (xs.drop (HT.sIx xs.length 0 lo)).take (HT.sIx xs.length xs.length hi - HT.sIx xs.length 0 lo)
def slcD (a : D) (lo hi : Option Int) : Option D :=
  match a with
  | .lst xs => some (.lst (cutD xs lo hi))
  | _ => none
/-- a slice as a value: of a list, a tuple, a text -/
def slvD (a : D) (lo hi : Option Int) : Option D :=
  match a with
  | .lst xs => some (.lst (cutD xs lo hi))
  | .tup xs => some (.tup (cutD xs lo hi))
  | .str z => if z.length ≤ cap then some (.str (Txt.slice z lo hi)) else none
  | _ => none
def isIntD : D → Option Int | .int i => some i | _ => none
def intsD (xs : List D) : Option (List Int) := xs.mapM isIntD
def isBlD : D → Option Bool | .bl b => some b | _ => none
def blsD (xs : List D) : Option (List Bool) := xs.mapM isBlD
def biD (f : Bi) (ds : List D) : Option D :=
  match f, ds with
  | .len, [.lst xs] => some (.int xs.length)
  | .len, [.tup xs] => some (.int xs.length)
  | .len, [.str s] => if s.length ≤ cap then some (.int s.length) else none
  | .int, [.int i] => some (.int i)
  | .int, [.bl b] => some (.int (if b then 1 else 0))
  | .tup, [.lst xs] => some (.tup xs)
  | .tup, [.tup xs] => some (.tup xs)
  | .lst, [.lst xs] => some (.lst xs)
  | .lst, [.tup xs] => some (.lst xs)
  | .min2, [.int i, .int j] => some (.int (if j < i then j else i))
  | .max2, [.int i, .int j] => some (.int (if j > i then j else i))
  | .sum, [.lst xs] => (intsD xs).map fun is => .int is.sum
  | .sum, [.tup xs] => (intsD xs).map fun is => .int is.sum
  | .maxl, [.lst xs] => (intsD xs).bind fun is => is.max?.map .int
  | .minl, [.lst xs] => (intsD xs).bind fun is => is.min?.map .int
  | .srt, [.lst xs] => if srtOk xs = true then some (.lst (xs.mergeSort leD)) else none
  | .mind, [.lst (x :: xs)] => if minOk (x :: xs) = true then some (minDD x xs) else none
  | .all, [.lst xs] => (blsD xs).map fun bs => .bl (bs.all id)
  | .any, [.lst xs] => (blsD xs).map fun bs => .bl (bs.any id)
  | _, _ => none
/-- the kinds whose types are told -/
inductive Kd where | non | bl | int | str | tup | lst | dct
def kdD : D → Option Kd
  | .non => some .non | .bl _ => some .bl | .int _ => some .int | .str _ => some .str | .tup _ => some .tup | .lst _ => some .lst | .dct _ _ => some .dct | _ => none
def isiK : Kd → Ty → Bool
  | .int, .int => true | .bl, .int => true | .bl, .bool => true | .str, .str => true | .tup, .tup => true | .lst, .lst => true | .dct, .dct => true | _, _ => false
def rngD : List D → Option (List D)
  | [.int n] => if -(2 ^ 62) ≤ n ∧ n < 2 ^ 62 then some ((List.range n.toNat).map fun (k : Nat) => .int (0 + (k : Int))) else none
  | [.int a, .int b] => if (-(2 ^ 62) ≤ a ∧ a < 2 ^ 62) ∧ -(2 ^ 62) ≤ b ∧ b < 2 ^ 62 then some ((List.range (b - a).toNat).map fun (k : Nat) => .int (a + (k : Int))) else none
  | _ => none
/-- what is walked, item by item -/
def elmD : D → Option (List D)
  | .lst xs => some xs
  | .scr xs => some xs
  | .tup xs => some xs
  | .str s => some (s.cps.toList.map fun c => .str ⟨#[c]⟩)
  | _ => none

/-! ### slots -/
def frzS (S : List SD) (i : Nat) : Option (D × List SD) :=
  match S[i]? with
  | some (.val d) => some (d, S)
  | some (.own true o) => some (o.toD, S.set i (.val o.toD))
  | _ => none
def peekS (S : List SD) (i : Nat) : Option D :=
  match S[i]? with
  | some (.val d) => some d
  | some (.own _ o) => some o.toD
  | _ => none
def wipeS (S : List SD) : List Nat → List SD
  | [] => S
  | v :: vs => (wipeS S vs).set v .un
def isVal : Option SD → Bool
  | some (.own _ _) => false
  | none => false
  | _ => true
/-- the slots vs as they were in S -/
def backS (S : List SD) : List Nat → List SD → List SD
  | [], T => T
  | v :: vs, T => (backS S vs T).set v (S[v]?.getD .un)
/-- a walked item is put into the target's slots -/
def bindT (ts : List Nat) (d : D) (S : List SD) : Option (List SD) :=
  match ts with
  | [i] => some (S.set i (.val d))
  | ts => match d with
    | .tup ds => if ds.length = ts.length then some ((ts.zip ds).foldl (fun S p => S.set p.1 (.val p.2)) S) else none
    | .lst ds => if ds.length = ts.length then some ((ts.zip ds).foldl (fun S p => S.set p.1 (.val p.2)) S) else none
    | _ => none
def ofO (o : Option D) (S : List SD) : Res D := match o with | some d => .ok d S | none => .stuck
def ofB (o : Option Bool) (S : List SD) : Res D := match o with | some b => .ok (.bl b) S | none => .stuck
def Res.quiet {α : Type} : Res α → Res α
  | .ok a S => .ok a S
  | _ => .stuck
/-- a comprehension's loop -/
def loopC (f : D → List SD → Res (Option D)) : List D → List SD → Res (List D)
  | [], S => .ok [] S
  | x :: xs, S => (f x S).bind fun o S1 => (loopC f xs S1).bind fun ds S2 => .ok (match o with | some d => d :: ds | none => ds) S2
/-- a quantifier's -/
def loopG (all : Bool) (f : D → List SD → Res Bool) : List D → List SD → Res Bool
  | [], S => .ok all S
  | x :: xs, S => (f x S).bind fun b S1 => if b = all then loopG all f xs S1 else .ok b S1
/-- an element, of the item d -/
def evP (S : List SD) (d : D) : PX → Option D
  | .it => some d
  | .ita k => match d with | .tup xs => if k < 1000 then xs[k]? else none | .lst xs => if k < 1000 then xs[k]? else none | _ => none
  | .fr j _ => match S[j]? with | some (.val e) => some e | _ => none
  | .gl _ e => some e
  | .cat a b => match evP S d a, evP S d b with
    | some (.str x), some (.str y) => if x.length + y.length ≤ cap then some (.str (x ++ y)) else none
    | _, _ => none
  | .eqq n a b => match evP S d a, evP S d b with
    | some (.str x), some (.str y) => some (.bl (if n then x.cps.toList != y.cps.toList else x.cps.toList == y.cps.toList))
    | some (.int x), some (.int y) => some (.bl (if n then x != y else x == y))
    | _, _ => none
  | .inn n a b => match evP S d a, evP S d b with
    | some (.str c), some (.str z) => if c.cps.size = 1 then some (.bl (if n then !decide (c.cps.toList.headD 0 ∈ z.cps.toList) else decide (c.cps.toList.headD 0 ∈ z.cps.toList))) else none
    | _, _ => none
def gnB (S : List SD) (el : PX) (xs : List D) : Option (List Bool) := xs.mapM fun d => (evP S d el).bind isBlD
def keysD (S : List SD) (el : PX) (xs : List D) : Option (List Int) := xs.mapM fun d => (evP S d el).bind isIntD
/-- sorted by the first -/
def insD {α : Type} (p : Int × α) : List (Int × α) → List (Int × α)
  | [] => [p]
  | q :: r => if p.1 < q.1 then p :: q :: r else q :: insD p r
def srtD {α : Type} : List (Int × α) → List (Int × α)
  | [] => []
  | p :: r => insD p (srtD r)
def asArgs (o : Option OC) (ds : List D) (f : Option OC → List D → FRes) : FRes := f o ds
/-- behind a call without a changed argument -/
def ofF (r : FRes) (S : List SD) : Res D :=
  match r with
  | .ret d none => .ok d S
  | .retN xs => .ok (.lst xs) S
  | .exc c fn vs none => .exc c fn vs S
  | _ => .stuck
/-- .. whose first argument, in slot i, is changed -/
def ofFO (r : FRes) (i : Nat) (fz : Bool) (S : List SD) : Res D :=
  match r with
  | .ret d (some o) => .ok d (S.set i (.own fz o))
  | .exc c fn vs (some o) => .exc c fn vs (S.set i (.own fz o))
  | _ => .stuck
def optI : Option D → Option (Option Int)
  | none => some none
  | some (.int i) => some (some i)
  | _ => none

section
variable (CF : Nat → List Str) (cn : Nat) (fn : List Str) (vs : List D)
mutual
def evH : HX → Option D
  | .str s => some (.str s)
  | .int i => some (.int i)
  | .bl b => some (.bl b)
  | .non => some .non
  | .fld f => (fn.zip vs).lookup f
  | .inst x => some (.bl (decide (x ∈ CF cn)))
  | .tup es => match evHs es with | some ds => if ds.length ≤ cap then some (.tup ds) else none | none => none
  | .conj a b => match evH a with | some (.bl true) => evH b | some (.bl false) => some (.bl false) | _ => none
  | .ite c a b => match evH c with | some (.bl true) => evH a | some (.bl false) => evH b | _ => none
def evHs : HXs → Option (List D)
  | .nil => some []
  | .cons a r => match evH a, evHs r with | some d, some ds => some (d :: ds) | _, _ => none
end
end
section
variable (CF : Nat → List Str) (Φ : Nat → Option OC → List D → FRes)
mutual
def evE : E → List SD → Res D
  | .var i, S => match frzS S i with | some (d, S') => .ok d S' | none => .stuck
  | .non, S => .ok .non S
  | .bl b, S => .ok (.bl b) S
  | .int i, S => .ok (.int i) S
  | .str s, S => .ok (.str s) S
  | .glob _ d, S => .ok d S
  | .bin o a b, S => (evE a S).bind fun x S1 => (evE b S1).bind fun y S2 => ofO (binD o x y) S2
  | .neg a, S => (evE a S).bind fun x S1 => match x with | .int i => .ok (.int (-i)) S1 | _ => .stuck
  | .cmp o a b, S => (evE a S).bind fun x S1 => (evE b S1).bind fun y S2 => ofB (cmpD o x y) S2
  | .cmpO o a i, S => (evE a S).bind fun x S1 => match peekS S1 i with | some y => ofB (cmpD o x y) S1 | none => .stuck
  | .isN n a, S => (evE a S).bind fun x S1 => .ok (.bl (match x with | .non => !n | _ => n)) S1
  | .chain o o' a b c, S => (evE a S).bind fun x S1 => (evE b S1).bind fun y S2 => match cmpD o x y with
      | some true => (evE c S2).bind fun z S3 => ofB (cmpD o' y z) S3
      | some false => .ok (.bl false) S2
      | none => .stuck
  | .conj a b, S => (evE a S).bind fun x S1 => match x with | .bl true => evE b S1 | .bl false => .ok (.bl false) S1 | _ => .stuck
  | .disj a b, S => (evE a S).bind fun x S1 => match x with | .bl true => .ok (.bl true) S1 | .bl false => evE b S1 | _ => .stuck
  | .not a, S => (evE a S).bind fun x S1 => match x with | .bl b => .ok (.bl (!b)) S1 | _ => .stuck
  | .ite c a b, S => (evT c S).bind fun k S1 => if k = true then evE a S1 else evE b S1
  | .tup es, S => (evEs es S).bind fun ds S1 => if ds.length ≤ cap then .ok (.tup ds) S1 else .stuck
  | .lst es, S => (evEs es S).bind fun ds S1 => if ds.length ≤ cap then .ok (.lst ds) S1 else .stuck
  | .dct ks es, S => (evEs es S).bind fun ds S1 => .ok (.dct (ks.map Sum.inr) ds) S1
  | .rep a b, S => (evE a S).bind fun x S1 => (evE b S1).bind fun y S2 => match x, y with
      | .lst ds, .int k => if -(2 ^ 63) ≤ k ∧ k < 2 ^ 63 ∧ ds.length * k.toNat ≤ cap then .ok (.lst (List.replicate k.toNat ds).flatten) S2 else .stuck
      | _, _ => .stuck
  | .idx a b, S => (evE a S).bind fun x S1 => (evE b S1).bind fun y S2 => ofO (idxD x y) S2
  | .idxO i b, S => if (peekS S i).isSome = true then (evE b S).bind fun y S1 => match peekS S1 i with | some (.lst xs) => ofO (idxD (.lst xs) y) S1 | _ => .stuck else .stuck
  | .lenO i, S => match peekS S i with | some (.lst xs) => .ok (.int xs.length) S | _ => .stuck
  | .slc a lo hi, S => (evE a S).bind fun x S1 => (evO lo S1).bind fun l S2 => match optI l with
      | none => .stuck
      | some l => (evO hi S2).bind fun h S3 => match optI h with | some h => ofO (slcD x l h) S3 | none => .stuck
  | .slV a lo hi, S => (evE a S).bind fun x S1 => (evO lo S1).bind fun l S2 => match optI l with
      | none => .stuck
      | some l => (evO hi S2).bind fun h S3 => match optI h with | some h => ofO (slvD x l h) S3 | none => .stuck
  | .hole, _ => .stuck
  | .lrg a, S => (evE a S).bind fun d S1 => match d with
      | .int n => if -100000 ≤ n ∧ n ≤ 100000 then .ok (.lst ((List.range n.toNat).map fun (k : Nat) => .int (0 + (k : Int)))) S1 else .stuck
      | _ => .stuck
  | .gfn f, S => .ok (.fnv (1000 + f)) S
  | .callV i es, S => match S[i]? with
      | some (.val (.fnv c)) => if 1000 ≤ c then (evEs es S).bind fun ds S1 => ofF (Φ (c - 1000) none ds) S1 else .stuck
      | _ => .stuck
  | .call f es, S => (evEs es S).bind fun ds S1 => ofF (Φ f none ds) S1
  | .callO f i es, S => if (peekS S i).isSome = true then (evEs es S).bind fun ds S1 => match S1[i]? with
      | some (.own fz o) => ofFO (Φ f (some o) ds) i fz S1
      | _ => .stuck
      else .stuck
  | .bi f es, S => (evEs es S).bind fun ds S1 => ofO (biD f ds) S1
  | .isi a ts, S => (evE a S).bind fun x S1 => match kdD x with | some k => .ok (.bl (ts.any fun t => isiK k t)) S1 | none => .stuck
  | .fld a f, S => (evE a S).bind fun x S1 => match x with | .obj c fn vs => if c < 500 ∧ f ∈ CF c then ofO ((fn.zip vs).lookup f) S1 else .stuck | _ => .stuck
  | .fldO i f, S => match S[i]? with | some (.own _ (.ins c fn vs)) => if c < 500 ∧ f ∈ CF c then ofO ((fn.zip vs).lookup f) S else .stuck | _ => .stuck
  | .mth cn f m a es, S => (evE a S).bind fun x S1 => match x with
      | .obj c fn vs => if c = cn ∧ m ∉ fn then (evEs es S1).bind fun ds S2 => ofF (Φ f none (.obj c fn vs :: ds)) S2 else .stuck
      | _ => .stuck
  | .mk cn f es, S => (evEs es S).bind fun ds S1 => match Φ f (some (.ins cn [] [])) ds with
      | .ret .non (some (.ins c fn vs)) => .ok (.obj c fn vs) S1
      | .exc c fn vs (some _) => .exc c fn vs S1
      | _ => .stuck
  | .pop i es, S => match peekS S i with
    | some (.lst _) => (evEs es S).bind fun ds S1 => match S1[i]?, ds with
      | some (.own fz (.lst xs)), [.int k] => if -(2 ^ 63) ≤ k ∧ k < 2 ^ 63 then match seqIndex? k xs.length with
        | some j => match xs[j]? with | some d => .ok d (S1.set i (.own fz (.lst (xs.eraseIdx j)))) | none => .stuck
        | none => .stuck
        else .stuck
      | some (.own fz (.lst xs)), [] => match xs[xs.length - 1]? with | some d => .ok d (S1.set i (.own fz (.lst xs.dropLast))) | none => .stuck
      | _, _ => .stuck
    | _ => .stuck
  | .app i e, S => match peekS S i with
    | some (.lst _) => (evE e S).bind fun d S1 => match S1[i]? with
      | some (.own fz (.lst xs)) => if xs.length < cap then .ok .non (S1.set i (.own fz (.lst (xs ++ [d])))) else .stuck
      | _ => .stuck
    | _ => .stuck
  | .rng _, _ => .stuck
  | .enm _, _ => .stuck
  | .cmpr own ts it cs el, S => (evI it S).bind fun xs S1 => if (own.map (·.2)).all (fun v => isVal S1[v]?) = true then
      ((loopC (fun x S => match bindT ts x S with
        | none => .stuck
        | some S2 => (evC cs S2).bind fun b S3 => if b = true then (evE el S3).bind fun d S4 => .ok (some d) (wipeS S4 (own.map (·.2))) else .ok none (wipeS S3 (own.map (·.2)))) xs (wipeS S1 (own.map (·.2)))).quiet).bind
        fun ds S5 => if ds.length < cap then .ok (.lst ds) (backS S1 (own.map (·.2)) S5) else .stuck
      else .stuck
  | .gen all it el, S => (evE it S).bind fun d S1 => match elmD d with
      | some xs => match gnB S1 el xs with | some bs => .ok (.bl (if all then bs.all id else bs.any id)) S1 | none => .stuck
      | none => .stuck
  | .srt el a, S => (evE a S).bind fun d S1 => match d with
      | .lst xs => match keysD S1 el xs with
        | some ks => if ks.Nodup ∧ xs.length ≤ cap then .ok (.lst ((srtD (ks.zip xs)).map (·.2))) S1 else .stuck
        | none => .stuck
      | _ => .stuck
def evEs : Es → List SD → Res (List D)
  | .nil, S => .ok [] S
  | .cons e r, S => (evE e S).bind fun d S1 => (evEs r S1).bind fun ds S2 => .ok (d :: ds) S2
def evO : E → List SD → Res (Option D)
  | .hole, S => .ok none S
  | e, S => (evE e S).bind fun d S1 => .ok (some d) S1
def evC : E → List SD → Res Bool
  | .hole, S => .ok true S
  | e, S => evT e S
def evT : E → List SD → Res Bool
  | .conj a b, S => (evT a S).bind fun k S1 => if k = true then evT b S1 else .ok false S1
  | .disj a b, S => (evT a S).bind fun k S1 => if k = true then .ok true S1 else evT b S1
  | .not a, S => (evT a S).bind fun k S1 => .ok (!k) S1
  | e, S => (evE e S).bind fun d S1 => match truD d with | some b => .ok b S1 | none => .stuck
def evI : E → List SD → Res (List D)
  | .rng es, S => (evEs es S).bind fun ds S1 => match rngD ds with | some xs => .ok xs S1 | none => .stuck
  | .enm e, S => (evE e S).bind fun d S1 => match d with | .lst xs => .ok (xs.zipIdx.map fun p => .tup [.int (p.2 : Nat), p.1]) S1 | .tup xs => .ok (xs.zipIdx.map fun p => .tup [.int (p.2 : Nat), p.1]) S1 | _ => .stuck
  | e, S => (evE e S).bind fun d S1 => match elmD d with | some xs => .ok xs S1 | none => .stuck
end
end

set_option Elab.async false
set_option linter.all false
set_option maxRecDepth 100000
set_option maxHeartbeats 4000000
open PySem PySem.Spec PyProof.Rows L2

theorem _root_.L2.PE.imp {X : Cx} {e : Expr} {t t' : TE} (h : PE X e t) (i : ∀ σ H Q, t' σ H Q → t σ H Q) : PE X e t' := ⟨fun pins s σ H Q I q => h.run pins s σ H Q I (i σ H Q q)⟩
theorem _root_.L2.PT.imp {X : Cx} {e : Expr} {t t' : TT} (h : PT X e t) (i : ∀ σ H Q, t' σ H Q → t σ H Q) : PT X e t' := ⟨fun pins s σ H Q I q => h.run pins s σ H Q I (i σ H Q q)⟩
theorem _root_.L2.PA.imp {X : Cx} {e : List Expr} {t t' : TA} (h : PA X e t) (i : ∀ σ H Q, t' σ H Q → t σ H Q) : PA X e t' := ⟨fun pos pins s σ H Q I q => h.run pos pins s σ H Q I (i σ H Q q)⟩
theorem _root_.L2.PS.imp {X : Cx} {e : Stmt} {t t' : TS} (h : PS X e t) (i : ∀ D σ H, t' D σ H → t D σ H) : PS X e t' := ⟨fun pins s σ H D I q => h.run pins s σ H D I (i D σ H q)⟩
theorem _root_.L2.PSs.imp {X : Cx} {e : List Stmt} {t t' : TS} (h : PSs X e t) (i : ∀ D σ H, t' D σ H → t D σ H) : PSs X e t' := ⟨fun pins s σ H D I q => h.run pins s σ H D I (i D σ H q)⟩

section
variable (K : PySem.W.Frag) (CT : Nat → Option Addr)
/-- what is wanted of a value d: as it is in the settled part F, or newly laid -/
def Fin (d : D) (F H : Hp) (Q : VK) : Prop :=
  (∀ v, Rep K CT F d v → Q v H) ∧ (∀ p u, H p = none → (∀ ps, u ≠ .tbl ps) → Rep K CT (upd F p u) d (.ref p) → Q (.ref p) (upd H p u))
def ExcR (F H : Hp) (cn : Nat) (fn : List Str) (vs : List D) (cls : Value) (d : Option Addr) : Prop :=
  ∃ C, CT cn = some C ∧ cls = .ref C ∧ ((fn = [] ∧ d = none) ∨ ∃ dx ws, d = some dx ∧ F dx = some (.xd (fn.zip ws)) ∧ fn.length = ws.length ∧ Reps K CT F vs ws)
end

section
variable {K : PySem.W.Frag} {CT : Nat → Option Addr} {F H : Hp}
mutual
theorem dp_of (e : Same F H) : ∀ (d : D) {v : V}, Rep K CT F d v → isP d = true → Dp K H v (toP d)
  | .non, _, h, _ => by simp only [Rep] at h; subst h; exact .non
  | .bl b, _, h, _ => by simp only [Rep] at h; subst h; exact .bl b
  | .int i, _, h, _ => by simp only [Rep] at h; subst h; exact .int i
  | .str s, _, h, _ => by simp only [Rep] at h; subst h; exact .str s
  | .tup ds, _, h, p => by
    simp only [Rep] at h
    obtain ⟨a, vs, rfl, h2, h3⟩ := h
    simp only [toP]
    exact .tup (same_sqT e h2) (dps_of e ds h3 (by simpa only [isP] using p))
  | .lst ds, _, h, p => by
    simp only [Rep] at h
    obtain ⟨a, vs, rfl, h2, h3⟩ := h
    simp only [toP]
    exact .lst (SqL.of (e _ _ h2)) (dps_of e ds h3 (by simpa only [isP] using p))
  | .dct _ _, _, _, p => by simp [isP] at p
  | .obj _ _ _, _, _, p => by simp [isP] at p
  | .scr _, _, _, p => by simp [isP] at p
  | .fnv _, _, _, p => by simp [isP] at p
theorem dps_of (e : Same F H) : ∀ (ds : List D) {vs : List V}, Reps K CT F ds vs → isPs ds = true → DpAll K H vs (toPs ds)
  | [], _, h, _ => by simp only [Reps] at h; subst h; exact .nil
  | d :: ds, _, h, p => by
    simp only [Reps] at h
    obtain ⟨v, ws, rfl, h2, h3⟩ := h
    simp only [isPs, Bool.and_eq_true] at p
    simp only [toPs]
    exact .cons (dp_of e d h2 p.1) (dps_of e ds h3 p.2)
end
theorem flat_of {d : D} {v : V} (h : Rep K CT F d v) (f : flatD d = true) : flatV v = true := by
  cases d <;> simp only [Rep] at h <;> first | (subst h; rfl) | (simp [flatD] at f)
theorem flats_of : ∀ {ds : List D} {vs : List V}, Reps K CT F ds vs → ds.all flatD = true → vs.all flatV = true
  | [], _, h, _ => by simp only [Reps] at h; subst h; rfl
  | d :: ds, _, h, p => by
    simp only [Reps] at h
    obtain ⟨v, ws, rfl, h2, h3⟩ := h
    rw [List.all_cons, Bool.and_eq_true] at p ⊢
    exact ⟨flat_of h2 p.1, flats_of h3 p.2⟩
theorem eqV_of {a b : D} {v w : V} (h : Rep K CT F a v) (h' : Rep K CT F b w) (f : flatD a = true) (f' : flatD b = true) : eqV v w = eqD a b := by
  cases a <;> simp only [flatD] at f <;> first | (cases f) | skip
  all_goals (cases b <;> simp only [flatD] at f' <;> first | (cases f') | skip)
  all_goals (simp only [Rep] at h h'; subst h; subst h'; simp only [eqV, eqD, toP, PyData.eqv])
theorem any_of {a : D} {v : V} (h : Rep K CT F a v) (f : flatD a = true) : ∀ {ds : List D} {vs : List V}, Reps K CT F ds vs → ds.all flatD = true → inV v vs = ds.any fun y => eqD y a
  | [], _, q, _ => by simp only [Reps] at q; subst q; rfl
  | d :: ds, _, q, p => by
    simp only [Reps] at q
    obtain ⟨w, ws, rfl, h2, h3⟩ := q
    rw [List.all_cons, Bool.and_eq_true] at p
    have ih := any_of h f h3 p.2
    unfold inV at ih ⊢
    rw [List.any_cons, List.any_cons, eqV_of h2 h p.1 f, ih]
theorem ints_of : ∀ {ds : List D} {vs : List V} {ns : List Int}, Reps K CT F ds vs → intsD ds = some ns → vs = ns.map V.int
  | [], _, ns, h, e => by simp only [Reps] at h; subst h; simp [intsD] at e; subst e; rfl
  | d :: ds, _, ns, h, e => by
    simp only [Reps] at h
    obtain ⟨v, ws, rfl, h2, h3⟩ := h
    simp only [intsD, List.mapM_cons, bind, Option.bind_eq_some_iff, pure] at e
    obtain ⟨i, e1, ms, e2, e3⟩ := e
    cases e3
    cases d <;> simp [isIntD] at e1
    subst e1
    simp only [Rep] at h2
    subst h2
    rw [List.map_cons, ints_of h3 e2]
theorem bls_of : ∀ {ds : List D} {vs : List V} {ns : List Bool}, Reps K CT F ds vs → blsD ds = some ns → vs = ns.map V.bl
  | [], _, ns, h, e => by simp only [Reps] at h; subst h; simp [blsD] at e; subst e; rfl
  | d :: ds, _, ns, h, e => by
    simp only [Reps] at h
    obtain ⟨v, ws, rfl, h2, h3⟩ := h
    simp only [blsD, List.mapM_cons, bind, Option.bind_eq_some_iff, pure] at e
    obtain ⟨i, e1, ms, e2, e3⟩ := e
    cases e3
    cases d <;> simp [isBlD] at e1
    subst e1
    simp only [Rep] at h2
    subst h2
    rw [List.map_cons, bls_of h3 e2]
theorem atI_map {ds : List D} {vs : List V} {i : Int} {d : D} (h : Reps K CT F ds vs) (e : atI ds i = some d) : ∃ v, atI vs i = some v ∧ Rep K CT F d v := by
  unfold atI at e ⊢
  rw [← h.length]
  cases q : ixN ds.length i with
  | none => rw [q] at e; cases e
  | some j => rw [q] at e; exact h.get e
theorem cap_le {n : Nat} (h : n ≤ cap) : n ≤ sizeLine := Nat.le_trans h (by decide)
theorem cap_lt {n : Nat} (h : n < cap) : n < sizeLine := Nat.lt_of_lt_of_le h (by decide)

/-! ### operators -/
def bopM : BOp → Operator
  | .add => .Add | .sub => .Sub | .mul => .Mult | .fdiv => .FloorDiv | .mod => .Mod | .pow => .Pow | .band => .BitAnd
def copM : COp → CmpOp
  | .eq => .Eq | .ne => .NotEq | .lt => .Lt | .le => .LtE | .gt => .Gt | .ge => .GtE | .inn => .In | .nin => .NotIn
variable (K CT) in
def rBin (o : BOp) : R2 := fun x y H Q => ∃ a b d F, Same F H ∧ Rep K CT F a x ∧ Rep K CT F b y ∧ binD o a b = some d ∧ Fin K CT d F H Q
variable (K CT) in
/-- an operator that gives a bool: the operands are read off the heap -/
def rCmp (o : COp) : R2 := fun x y H Q => ∃ a b c F, Same F H ∧ Rep K CT F a x ∧ Rep K CT F b y ∧ cmpD o a b = some c ∧ Q (.bl c) H
variable {X : Cx}
theorem Fin.v {d : D} {F H : Hp} {Q : VK} (h : Fin K CT d F H Q) {v : V} (r : Rep K CT F d v) : Q v H := h.1 v r
theorem op_binD (o : BOp) : OpR X (binaryOp (bopM o)) (rBin X.K CT o) := by
  intro pins s σ H x y v u Q I rx ry h
  obtain ⟨a, b, d, F, e, ra, rb, hd, q⟩ := h
  cases o
  case add =>
    cases a <;> cases b <;> simp only [binD] at hd <;> first | (cases hd; done) | skip
    · cases hd
      simp only [Rep] at ra rb; subst ra; subst rb
      exact op_add pins s σ H _ _ v u Q I rx ry ⟨_, _, rfl, rfl, q.1 _ (by simp only [Rep])⟩
    · split at hd
      · rename_i hz; cases hd
        simp only [Rep] at ra rb; subst ra; subst rb
        exact op_add_str pins s σ H _ _ v u Q I rx ry ⟨_, _, rfl, rfl, cap_le hz, q.1 _ (by simp only [Rep])⟩
      · cases hd
    · split at hd
      · rename_i hz; cases hd
        simp only [Rep] at ra rb
        obtain ⟨p, vs, rfl, h1, h2⟩ := ra
        obtain ⟨p', ws, rfl, h3, h4⟩ := rb
        have hz2 : vs.length + ws.length ≤ cap := by rw [← h2.length, ← h4.length]; exact hz.1
        have hn : vs ≠ [] := fun z => by
          have := h2.length; rw [z] at this
          exact hz.2 (List.length_eq_zero_iff.mp this)
        refine op_catT pins s σ H _ _ v u Q I rx ry ⟨p, p', vs, ws, rfl, rfl, same_sqT e h1, same_sqT e h3, hn, cap_le hz2, fun z => ?_, fun _ t ht => ?_⟩
        · refine q.1 _ ?_
          simp only [Rep]
          exact ⟨p, vs, rfl, h1, by subst z; have := h2.append h4; rw [List.append_nil] at this; exact this⟩
        · refine q.2 t _ ht (fun _ z => nomatch z) ?_
          simp only [Rep]
          have := (h2.append h4).mono (same_upd (o := .tup (vs ++ ws)) (e.free ht))
          exact ⟨t, vs ++ ws, rfl, SqT.of upd_same, this⟩
      · cases hd
    · split at hd
      · rename_i hz; cases hd
        simp only [Rep] at ra rb
        obtain ⟨p, vs, rfl, h1, h2⟩ := ra
        obtain ⟨p', ws, rfl, h3, h4⟩ := rb
        have hz2 : vs.length + ws.length ≤ cap := by rw [← h2.length, ← h4.length]; exact hz
        refine op_cat pins s σ H _ _ v u Q I rx ry ⟨p, p', vs, ws, rfl, rfl, e _ _ h1, e _ _ h3, cap_le hz2, fun t ht => ?_⟩
        refine q.2 t _ ht (fun _ z => nomatch z) ?_
        simp only [Rep]
        have := (h2.append h4).mono (same_upd (o := .lst (vs ++ ws)) (e.free ht))
        exact ⟨t, vs ++ ws, rfl, upd_same, this⟩
      · cases hd
  case sub =>
    cases a <;> cases b <;> simp only [binD] at hd <;> first | (cases hd; done) | skip
    cases hd
    simp only [Rep] at ra rb; subst ra; subst rb
    exact op_sub pins s σ H _ _ v u Q I rx ry ⟨_, _, rfl, rfl, q.1 _ (by simp only [Rep])⟩
  case mul =>
    cases a <;> cases b <;> simp only [binD] at hd <;> first | (cases hd; done) | skip
    split at hd
    · rename_i hz; cases hd
      simp only [Rep] at ra rb; subst ra; subst rb
      rcases hz with hz | hz
      · refine op_mul pins s σ H _ _ v u Q I rx ry ⟨_, _, rfl, rfl, ?_, q.1 _ (by simp only [Rep])⟩
        unfold CMul
        omega
      exact op_mulX pins s σ H _ _ v u Q I rx ry ⟨_, _, rfl, rfl, mulx_ok (Nat.lt_log2_self) (Nat.lt_log2_self) (by omega), q.1 _ (by simp only [Rep])⟩
    · cases hd
  case fdiv =>
    cases a <;> cases b <;> simp only [binD] at hd <;> first | (cases hd; done) | skip
    split at hd
    · rename_i hz; cases hd
      simp only [Rep] at ra rb; subst ra; subst rb
      exact op_fdivW pins s σ H _ _ v u Q I rx ry ⟨_, _, rfl, rfl, hz, q.1 _ (by simp only [Rep])⟩
    · cases hd
  case mod =>
    cases a <;> cases b <;> simp only [binD] at hd <;> first | (cases hd; done) | skip
    split at hd
    · rename_i hz; cases hd
      simp only [Rep] at ra rb; subst ra; subst rb
      exact op_mod pins s σ H _ _ v u Q I rx ry ⟨_, _, rfl, rfl, hz, q.1 _ (by simp only [Rep])⟩
    · cases hd
  case pow =>
    cases a <;> cases b <;> simp only [binD] at hd <;> first | (cases hd; done) | skip
    split at hd
    · rename_i hz; cases hd
      simp only [Rep] at ra rb; subst ra; subst rb
      exact op_pow pins s σ H _ _ v u Q I rx ry ⟨_, _, rfl, rfl, hz, q.1 _ (by simp only [Rep])⟩
    · cases hd
  case band =>
    cases a <;> cases b <;> simp only [binD] at hd <;> first | (cases hd; done) | skip
    cases hd
    simp only [Rep] at ra rb; subst ra; subst rb
    exact op_and pins s σ H _ _ v u Q I rx ry ⟨_, _, rfl, rfl, q.1 _ (by simp only [Rep])⟩
theorem eqSc_of {a b : D} {c : Bool} {x y : V} (ra : Rep K CT F a x) (rb : Rep K CT F b y) (h : eqSc a b = some c) : scal x y = true ∧ decide (x = y) = c := by
  cases a <;> cases b <;> simp only [eqSc] at h <;> first | (cases h; done) | skip
  all_goals (simp only [Rep] at ra rb; subst ra; subst rb; cases h; refine ⟨rfl, ?_⟩; simp)
theorem op_eqX (hu : X.A.units + 64 < cLine) {pins : List (Addr × Obj)} {s : Shared} {σ : L2.St} {H : Hp} {x y : V} {v u : Value} {Q : VK} (I : Inv X pins σ H s) (rx : RelV x v) (ry : RelV y u) {a b : D} {c : Bool} {F : Hp}
    (e : Same F H) (ra : Rep X.K CT F a x) (rb : Rep X.K CT F b y) (h : eqX a b = some c) :
    (Q (.bl c) H → wpAny (model X.prog X.w) X.A (compareOp .Eq v u) (EP X pins σ Q) X.xe s) ∧ (Q (.bl (!c)) H → wpAny (model X.prog X.w) X.A (compareOp .NotEq v u) (EP X pins σ Q) X.xe s) := by
  unfold eqX at h
  split at h
  · rename_i r hr
    cases h
    obtain ⟨h1, h2⟩ := eqSc_of ra rb hr
    exact ⟨fun q => op_eq pins s σ H _ _ v u Q I rx ry ⟨h1, by rw [h2]; exact q⟩, fun q => op_ne pins s σ H _ _ v u Q I rx ry ⟨h1, by rw [h2]; exact q⟩⟩
  · split at h
    · rename_i hz; cases h
      simp only [shp, Bool.and_eq_true] at hz
      exact ⟨fun q => op_eqD hu pins s σ H _ _ v u Q I rx ry ⟨_, _, dp_of e a ra hz.1.1, dp_of e b rb hz.2.1, hz.1.2, hz.2.2, q⟩,
        fun q => op_neD hu pins s σ H _ _ v u Q I rx ry ⟨_, _, dp_of e a ra hz.1.1, dp_of e b rb hz.2.1, hz.1.2, hz.2.2, q⟩⟩
    · cases h
theorem one_sign {c : Str} (h : c.cps.size = 1) : c = ⟨#[c.cps.toList.headD 0]⟩ := by
  obtain ⟨⟨l⟩⟩ := c
  match l, h with
  | [z], _ => rfl
theorem op_inD {pins : List (Addr × Obj)} {s : Shared} {σ : L2.St} {H : Hp} {x y : V} {v u : Value} {Q : VK} (I : Inv X pins σ H s) (rx : RelV x v) (ry : RelV y u) {a b : D} {c : Bool} {F : Hp}
    (e : Same F H) (ra : Rep X.K CT F a x) (rb : Rep X.K CT F b y) (h : inD a b = some c) :
    (Q (.bl c) H → wpAny (model X.prog X.w) X.A (compareOp .In v u) (EP X pins σ Q) X.xe s) ∧ (Q (.bl (!c)) H → wpAny (model X.prog X.w) X.A (compareOp .NotIn v u) (EP X pins σ Q) X.xe s) := by
  cases b <;> simp only [inD] at h <;> first | (cases h; done) | skip
  · split at h
    · split at h
      · rename_i c' hz; cases h
        simp only [Rep] at ra rb; subst ra; subst rb
        have ez := one_sign hz
        exact ⟨fun q => op_in_sign pins s σ H _ _ v u Q I rx ry ⟨c'.cps.toList.headD 0, _, by rw [← ez], rfl, q⟩, fun q => op_notIn_sign pins s σ H _ _ v u Q I rx ry ⟨c'.cps.toList.headD 0, _, by rw [← ez], rfl, q⟩⟩
      · cases h
    · cases h
  · split at h
    · rename_i hz; cases h
      simp only [Rep] at rb
      obtain ⟨p, vs, rfl, h1, h2⟩ := rb
      have hi := any_of ra hz.1 h2 hz.2
      exact ⟨fun q => op_in_seq pins s σ H _ _ v u Q I rx ry ⟨p, vs, rfl, .inr (same_sqT e h1), flat_of ra hz.1, flats_of h2 hz.2, by rw [hi]; exact q⟩,
        fun q => op_notIn_seq pins s σ H _ _ v u Q I rx ry ⟨p, vs, rfl, .inr (same_sqT e h1), flat_of ra hz.1, flats_of h2 hz.2, by rw [hi]; exact q⟩⟩
    · cases h
  · split at h
    · rename_i hz; cases h
      simp only [Rep] at rb
      obtain ⟨p, vs, rfl, h1, h2⟩ := rb
      have hi := any_of ra hz.1 h2 hz.2
      exact ⟨fun q => op_in_seq pins s σ H _ _ v u Q I rx ry ⟨p, vs, rfl, .inl (SqL.of (e _ _ h1)), flat_of ra hz.1, flats_of h2 hz.2, by rw [hi]; exact q⟩,
        fun q => op_notIn_seq pins s σ H _ _ v u Q I rx ry ⟨p, vs, rfl, .inl (SqL.of (e _ _ h1)), flat_of ra hz.1, flats_of h2 hz.2, by rw [hi]; exact q⟩⟩
    · cases h
theorem op_cmpD (hu : X.A.units + 64 < cLine) (o : COp) : OpR X (compareOp (copM o)) (rCmp X.K CT o) := by
  intro pins s σ H x y v u Q I rx ry h
  obtain ⟨a, b, c, F, e, ra, rb, hd, q⟩ := h
  cases o <;> simp only [cmpD] at hd
  case eq => exact (op_eqX hu I rx ry e ra rb hd).1 q
  case ne =>
    obtain ⟨c', h1, h2⟩ := Option.map_eq_some_iff.mp hd
    exact (op_eqX hu I rx ry e ra rb h1).2 (by rw [h2]; exact q)
  case inn => exact (op_inD I rx ry e ra rb hd).1 q
  case nin =>
    obtain ⟨c', h1, h2⟩ := Option.map_eq_some_iff.mp hd
    exact (op_inD I rx ry e ra rb h1).2 (by rw [h2]; exact q)
  case lt =>
    split at hd
    · cases hd
      simp only [Rep] at ra rb; subst ra; subst rb
      exact op_lt pins s σ H _ _ v u Q I rx ry ⟨_, _, rfl, rfl, q⟩
    · cases hd
  case le =>
    split at hd
    · cases hd
      simp only [Rep] at ra rb; subst ra; subst rb
      exact op_le pins s σ H _ _ v u Q I rx ry ⟨_, _, rfl, rfl, q⟩
    · cases hd
  case gt =>
    split at hd
    · cases hd
      simp only [Rep] at ra rb; subst ra; subst rb
      exact op_gt pins s σ H _ _ v u Q I rx ry ⟨_, _, rfl, rfl, q⟩
    · cases hd
  case ge =>
    split at hd
    · cases hd
      simp only [Rep] at ra rb; subst ra; subst rb
      exact op_ge pins s σ H _ _ v u Q I rx ry ⟨_, _, rfl, rfl, q⟩
    · cases hd
theorem tru_of {d : D} {v : V} {b : Bool} (e : Same F H) (r : Rep K CT F d v) (h : truD d = some b) : TruV K v H b := by
  cases d <;> simp only [truD] at h <;> first | (cases h; done) | skip
  · cases h; simp only [Rep] at r; subst r; rfl
  · cases h; simp only [Rep] at r; subst r; rfl
  · cases h; simp only [Rep] at r; subst r; rfl
  · split at h
    · rename_i hz; cases h
      simp only [Rep] at r; subst r; exact ⟨cap_le hz, rfl⟩
    · cases h
  · cases h
    simp only [Rep] at r
    obtain ⟨p, vs, rfl, h1, h2⟩ := r
    refine .inr (.inl ⟨vs, same_sqT e h1, ?_⟩)
    have := h2.length
    cases vs <;> simp_all
    all_goals (rename_i xs _ _; cases xs <;> simp_all)
  · cases h
    simp only [Rep] at r
    obtain ⟨p, vs, rfl, h1, h2⟩ := r
    refine .inl ⟨vs, SqL.of (e _ _ h1), ?_⟩
    have := h2.length
    cases vs <;> simp_all
    all_goals (rename_i xs _ _; cases xs <;> simp_all)
  · cases h
    simp only [Rep] at r
    obtain ⟨p, vs, rfl, h1, h2, h3⟩ := r
    refine .inr (.inr ⟨_, e _ _ h1, ?_⟩)
    rename_i ks ds
    cases ks with
    | nil => rfl
    | cons k ks =>
      cases vs with
      | nil => simp at h2
      | cons v vs => rfl
end

set_option Elab.async false
set_option linter.all false
set_option maxRecDepth 100000
set_option maxHeartbeats 4000000
open PySem PySem.Spec PyProof.Rows L2

section
variable (K : PySem.W.Frag) (CT : Nat → Option Addr) (G : Gh) (W : WX)
def Po {α β : Type} (R : Hp → α → β → Prop) (r : Res α) (F : Hp) (σ : L2.St) (Q : β → Hp → Prop) : Prop :=
  match r with
  | .ok a S' => ∀ F' b H', Same F F' → SR K CT G S' F' σ H' → R F' a b → Q b H'
  | .exc cn fn vs S' => ∀ F' H' cls d, Same F F' → SR K CT G S' F' σ H' → ExcR K CT F' H' cn fn vs cls d → W cls d σ H'
  | .stuck => False
def hX {α β : Type} (R : Hp → α → β → Prop) (ev : List SD → Res α) : L2.St → Hp → (β → Hp → Prop) → Prop := fun σ H Q => ∃ S F, SR K CT G S F σ H ∧ Po K CT G W R (ev S) F σ Q
abbrev RE : Hp → D → V → Prop := fun F d v => Rep K CT F d v
abbrev RA : Hp → List D → List V → Prop := fun F d v => Reps K CT F d v
abbrev RB : Hp → Bool → Bool → Prop := fun _ b c => c = b
abbrev hE (ev : List SD → Res D) : TE := hX K CT G W (RE K CT) ev
abbrev hA (ev : List SD → Res (List D)) : TA := hX K CT G W (RA K CT) ev
abbrev hT (ev : List SD → Res Bool) : TT := hX K CT G W RB ev
end
section
variable {K : PySem.W.Frag} {CT : Nat → Option Addr} {G : Gh} {W : WX} {S : List SD} {F F' H : Hp} {σ : L2.St} {α β γ δ : Type}
theorem Po.mono {R : Hp → α → β → Prop} {r : Res α} {Q : β → Hp → Prop} (e : Same F F') (h : Po K CT G W R r F σ Q) : Po K CT G W R r F' σ Q := by
  cases r with
  | ok a S' => exact fun F'' b H' e' => h F'' b H' (e.trans e')
  | exc cn fn vs S' => exact fun F'' H' cls d e' => h F'' H' cls d (e.trans e')
  | stuck => exact h
theorem hX_bind {R : Hp → α → β → Prop} {R' : Hp → γ → δ → Prop} {ev : List SD → Res α} {k : α → List SD → Res γ} {Q : β → Hp → Prop} {Q' : δ → Hp → Prop} (I : SR K CT G S F σ H)
    (h : Po K CT G W R' ((ev S).bind k) F σ Q') (c : ∀ a S' F' b H', SR K CT G S' F' σ H' → Same F F' → R F' a b → Po K CT G W R' (k a S') F' σ Q' → Q b H') : hX K CT G W R ev σ H Q := by
  refine ⟨S, F, I, ?_⟩
  cases e : ev S with
  | ok a S' =>
    rw [e] at h
    exact fun F' b H' e' I' r => c a S' F' b H' I' e' r (h.mono e')
  | exc cn fn vs S' => rw [e] at h; exact h
  | stuck => rw [e] at h; exact h
theorem Po.ok {R : Hp → α → β → Prop} {a : α} {b : β} {Q : β → Hp → Prop} (h : Po K CT G W R (.ok a S) F σ Q) (I : SR K CT G S F σ H) (r : R F a b) : Q b H := h F b H (Same.refl F) I r
theorem fin_of {d : D} {Q : VK} (I : SR K CT G S F σ H) (h : Po K CT G W (RE K CT) (.ok d S) F σ Q) : Fin K CT d F H Q :=
  ⟨fun v r => h F v H (Same.refl F) I r, fun p u hp _ r => h (upd F p u) (.ref p) (upd H p u) (same_upd (I.freshF hp)) (I.settle hp) r⟩
theorem po_ofO {o : Option D} {Q : VK} (h : Po K CT G W (RE K CT) (ofO o S) F σ Q) : ∃ d, o = some d ∧ Po K CT G W (RE K CT) (.ok d S) F σ Q := by
  cases o with
  | some d => exact ⟨d, rfl, h⟩
  | none => exact False.elim h
theorem po_ofB {o : Option Bool} {Q : VK} (h : Po K CT G W (RE K CT) (ofB o S) F σ Q) : ∃ d, o = some d ∧ Po K CT G W (RE K CT) (.ok (.bl d) S) F σ Q := by
  cases o with
  | some d => exact ⟨d, rfl, h⟩
  | none => exact False.elim h
end

section
variable {X : Cx} {CT : Nat → Option Addr} {G : Gh} {W : WX} {CF : Nat → List Str} {Φ : Nat → Option OC → List D → FRes}
abbrev PEv (X : Cx) (CT : Nat → Option Addr) (G : Gh) (W : WX) (CF : Nat → List Str) (Φ : Nat → Option OC → List D → FRes) (e : Expr) (c : E) : Prop := PE X e (hE X.K CT G W (evE CF Φ c))
abbrev PAv (X : Cx) (CT : Nat → Option Addr) (G : Gh) (W : WX) (CF : Nat → List Str) (Φ : Nat → Option OC → List D → FRes) (e : List Expr) (c : Es) : Prop := PA X e (hA X.K CT G W (evEs CF Φ c))
abbrev PTv (X : Cx) (CT : Nat → Option Addr) (G : Gh) (W : WX) (CF : Nat → List Str) (Φ : Nat → Option OC → List D → FRes) (e : Expr) (c : E) : Prop := PT X e (hT X.K CT G W (evT CF Φ c))

theorem v_var {i : Nat} {x : Str} {pos : Pos} (hN : X.N[i]? = some x) (hv : Vis X.env.scope x) (hd : (x == ("__debug__" : Str)) = false) (hcd : (x == ("__classdict__" : Str)) = false) : PEv X CT G W CF Φ (.Name x pos) (.var i) := by
  refine (pe_var hN hv hd hcd).imp fun σ H Q ⟨S, F, I, h⟩ => ?_
  simp only [evE] at h
  unfold frzS at h
  cases q : S[i]? with
  | none => rw [q] at h; exact False.elim h
  | some y =>
    rw [q] at h
    cases y with
    | un => exact False.elim h
    | val d =>
      obtain ⟨v, h1, h2⟩ := I.val i d q
      exact ⟨v, h1, h.ok I h2⟩
    | own fz o =>
      cases fz with
      | false => exact False.elim h
      | true =>
        obtain ⟨a, u, h1, h2, h3, h4, h5, h6⟩ := I.freeze q
        exact ⟨_, h1, h _ _ _ h4 h5 h6⟩
theorem v_const {c : E} {d : D} {e : Expr} {v : V} (h : PE X e (tC v)) (hc : ∀ S, evE CF Φ c S = .ok d S) (r : ∀ F, Rep X.K CT F d v) : PEv X CT G W CF Φ e c :=
  h.imp fun σ H Q ⟨S, F, I, q⟩ => by
    rw [hc] at q
    exact q.ok I (r F)
theorem v_bin {o : BOp} {a b : E} {ea eb : Expr} {pos : Pos} (ha : PEv X CT G W CF Φ ea a) (hb : PEv X CT G W CF Φ eb b) : PEv X CT G W CF Φ (.BinOp ea (bopM o) eb pos) (.bin o a b) :=
  (pe_op (op_binD o) ha hb).imp fun σ H Q ⟨S, F, I, h⟩ => by
    simp only [evE] at h
    refine hX_bind I h fun x S1 F1 v H1 I1 e1 r1 h1 => hX_bind I1 h1 fun y S2 F2 u H2 I2 e2 r2 h2 => ?_
    obtain ⟨d, hd, h3⟩ := po_ofO h2
    exact ⟨x, y, d, F2, I2.sub, Rep.mono e2 _ r1, r2, hd, fin_of I2 h3⟩
theorem v_cmp {o : COp} {a b : E} {ea eb : Expr} {pos : Pos} (hu : X.A.units + 64 < cLine) (ha : PEv X CT G W CF Φ ea a) (hb : PEv X CT G W CF Φ eb b) (hm : behindInMarks (copM o) eb = false) : PEv X CT G W CF Φ (.Compare ea [copM o] [eb] pos) (.cmp o a b) :=
  (pe_cmpR (op_cmpD (CT := CT) hu o) ha hb hm).imp fun σ H Q ⟨S, F, I, h⟩ => by
    simp only [evE] at h
    refine hX_bind I h fun x S1 F1 v H1 I1 e1 r1 h1 => hX_bind I1 h1 fun y S2 F2 u H2 I2 e2 r2 h2 => ?_
    obtain ⟨d, hd, h3⟩ := po_ofB h2
    exact ⟨x, y, d, F2, I2.sub, Rep.mono e2 _ r1, r2, hd, h3.ok I2 (by simp only [RE, Rep])⟩
/-- as a test -/
theorem t_cmp {o : COp} {a b : E} {ea eb : Expr} {pos : Pos} (hu : X.A.units + 64 < cLine) (ha : PEv X CT G W CF Φ ea a) (hb : PEv X CT G W CF Φ eb b) (hm : behindInMarks (copM o) eb = false) : PTv X CT G W CF Φ (.Compare ea [copM o] [eb] pos) (.cmp o a b) :=
  (pt_cmpR (op_cmpD (CT := CT) hu o) ha hb hm).imp fun σ H Q ⟨S, F, I, h⟩ => by
    simp only [evT, evE] at h
    cases e1 : evE CF Φ a S with
    | stuck => rw [e1] at h; exact False.elim h
    | exc cn fn vs S1 => rw [e1] at h; exact ⟨S, F, I, by rw [e1]; exact h⟩
    | ok x S1 =>
      refine ⟨S, F, I, ?_⟩
      rw [e1] at h ⊢
      refine fun F1 v H1 f1 I1 r1 => ?_
      have h := h.mono f1
      cases e2 : evE CF Φ b S1 with
      | stuck => simp only [Res.bind, e2] at h; exact False.elim h
      | exc cn fn vs S2 => simp only [Res.bind, e2] at h; exact ⟨S1, F1, I1, by rw [e2]; exact h⟩
      | ok y S2 =>
        refine ⟨S1, F1, I1, ?_⟩
        simp only [Res.bind, e2] at h
        rw [e2]
        refine fun F2 u H2 f2 I2 r2 => ?_
        have h := h.mono f2
        cases e3 : cmpD o x y with
        | none => simp only [e3, ofB] at h; exact False.elim h
        | some c =>
          simp only [e3, ofB, truD] at h
          exact ⟨x, y, c, F2, I2.sub, Rep.mono f2 _ r1, r2, e3, c, rfl, h.ok I2 rfl⟩
/-- an owned slot's content, read -/
theorem peek_of {S : List SD} {F H : Hp} {σ : L2.St} (I : SR X.K CT G S F σ H) {i : Nat} {y : D} (h : peekS S i = some y) : ∃ v F', σ[i]? = some (some v) ∧ Same F F' ∧ Same F' H ∧ Rep X.K CT F' y v := by
  unfold peekS at h
  split at h
  · rename_i d q
    cases h
    obtain ⟨v, h1, h2⟩ := I.val i _ q
    exact ⟨v, F, h1, Same.refl F, I.sub, h2⟩
  · rename_i fz o q
    cases h
    obtain ⟨a, h1, h2, _⟩ := I.own i _ _ q
    have hF := h2.1
    cases o with
    | lst xs =>
      obtain ⟨_, vs, q1, q2⟩ := h2
      refine ⟨.ref a, upd F a (.lst vs), h1, same_upd hF, fun b u e => ?_, ?_⟩
      · by_cases z : b = a
        · subst z; rw [upd_same] at e; cases e; exact q1
        · rw [upd_ne z] at e; exact I.sub b u e
      · simp only [OC.toD, Rep]; exact ⟨a, vs, rfl, upd_same, q2.mono (same_upd hF) xs⟩
    | ins cn fn ds =>
      obtain ⟨_, C, dx, vs, q0, q1, q2, q3⟩ := h2
      refine ⟨.ref a, upd F a (.ins C dx (fn.zip vs)), h1, same_upd hF, fun b u e => ?_, ?_⟩
      · by_cases z : b = a
        · subst z; rw [upd_same] at e; cases e; exact q1
        · rw [upd_ne z] at e; exact I.sub b u e
      · simp only [OC.toD, Rep]; exact ⟨a, C, dx, vs, rfl, q0, upd_same, q2, q3.mono (same_upd hF) ds⟩
  · cases h
theorem r_cmpO {o : COp} {a : E} {i : Nat} :
    ∀ σ H Q, hE X.K CT G W (evE CF Φ (.cmpO o a i)) σ H Q → tOp (rCmp X.K CT o) (hE X.K CT G W (evE CF Φ a)) (tVar i) σ H Q := fun σ H Q ⟨S, F, I, h⟩ => by
    simp only [evE] at h
    refine hX_bind I h fun x S1 F1 v H1 I1 e1 r1 h1 => ?_
    cases q : peekS S1 i with
    | none => simp only [q] at h1; exact False.elim h1
    | some y =>
      simp only [q] at h1
      obtain ⟨w, F2, k1, k2, k3, k4⟩ := peek_of I1 q
      obtain ⟨d, hd, h3⟩ := po_ofB h1
      exact ⟨w, k1, x, y, d, F2, k3, Rep.mono k2 _ r1, k4, hd, h3.ok I1 (by simp only [RE, Rep])⟩
theorem v_cmpO {o : COp} {a : E} {i : Nat} {x : Str} {ea : Expr} {p pos : Pos} (hu : X.A.units + 64 < cLine) (ha : PEv X CT G W CF Φ ea a) (hN : X.N[i]? = some x) (hv : Vis X.env.scope x) (hd : (x == ("__debug__" : Str)) = false) (hcd : (x == ("__classdict__" : Str)) = false) :
    PEv X CT G W CF Φ (.Compare ea [copM o] [.Name x p] pos) (.cmpO o a i) :=
  (pe_cmpR (op_cmpD (CT := CT) hu o) ha (pe_var hN hv hd hcd) (by cases o <;> rfl)).imp r_cmpO
theorem v_neg {a : E} {ea : Expr} {pos : Pos} (ha : PEv X CT G W CF Φ ea a) : PEv X CT G W CF Φ (.UnaryOp .USub ea pos) (.neg a) :=
  (pe_un un_neg ha).imp fun σ H Q ⟨S, F, I, h⟩ => by
    simp only [evE] at h
    refine hX_bind I h fun x S1 F1 v H1 I1 e1 r1 h1 => ?_
    cases x <;> first | exact False.elim h1 | skip
    simp only [RE, Rep] at r1; subst r1
    exact ⟨_, rfl, h1.ok I1 (by simp only [RE, Rep])⟩
theorem r_isN {a : E} : ∀ σ H Q, hE X.K CT G W (evE CF Φ (.isN false a)) σ H Q → tIsN (hE X.K CT G W (evE CF Φ a)) σ H Q := fun σ H Q ⟨S, F, I, h⟩ => by
    simp only [evE] at h
    refine hX_bind I h fun x S1 F1 v H1 I1 e1 r1 h1 => ?_
    refine h1.ok I1 ?_
    cases x <;> simp only [RE, Rep] at r1 ⊢ <;> first | (subst r1; rfl) | skip
    all_goals first | (obtain ⟨z, rfl, _⟩ := r1; rfl) | (obtain ⟨z, y, r1⟩ := r1; first | (obtain ⟨rfl, _⟩ := r1; rfl) | (obtain ⟨_, _, rfl, _⟩ := r1; rfl))
theorem v_isN {a : E} {ea : Expr} {j : Nat} {pos pos' : Pos} (ha : PEv X CT G W CF Φ ea a) : PEv X CT G W CF Φ (.Compare ea [.Is] [.Constant .none j pos'] pos) (.isN false a) := (pe_cmp (pc_isN ha) rfl).imp r_isN
theorem r_isNN {a : E} : ∀ σ H Q, hE X.K CT G W (evE CF Φ (.isN true a)) σ H Q → tNotN (hE X.K CT G W (evE CF Φ a)) σ H Q := fun σ H Q ⟨S, F, I, h⟩ => by
    simp only [evE] at h
    refine hX_bind I h fun x S1 F1 v H1 I1 e1 r1 h1 => ?_
    refine h1.ok I1 ?_
    cases x <;> simp only [RE, Rep] at r1 ⊢ <;> first | (subst r1; rfl) | skip
    all_goals first | (obtain ⟨z, rfl, _⟩ := r1; rfl) | (obtain ⟨z, y, r1⟩ := r1; first | (obtain ⟨rfl, _⟩ := r1; rfl) | (obtain ⟨_, _, rfl, _⟩ := r1; rfl))
theorem v_isNN {a : E} {ea : Expr} {j : Nat} {pos pos' : Pos} (ha : PEv X CT G W CF Φ ea a) : PEv X CT G W CF Φ (.Compare ea [.IsNot] [.Constant .none j pos'] pos) (.isN true a) := (pe_cmp (pc_notN ha) rfl).imp r_isNN
theorem r_chain {o o' : COp} {a b c : E} : ∀ σ H Q, hE X.K CT G W (evE CF Φ (.chain o o' a b c)) σ H Q → tChain (rCmp X.K CT o) (rCmp X.K CT o') (hE X.K CT G W (evE CF Φ a)) (hE X.K CT G W (evE CF Φ b)) (hE X.K CT G W (evE CF Φ c)) σ H Q := fun σ H Q ⟨S, F, I, h⟩ => by
    simp only [evE] at h
    refine hX_bind I h fun x S1 F1 v H1 I1 e1 r1 h1 => hX_bind I1 h1 fun y S2 F2 u H2 I2 e2 r2 h2 => ?_
    cases e3 : cmpD o x y with
    | none => simp only [e3] at h2; exact False.elim h2
    | some k =>
      simp only [e3] at h2
      refine ⟨x, y, k, F2, I2.sub, Rep.mono e2 _ r1, r2, e3, k, rfl, ?_⟩
      cases k with
      | false => exact iteF (h2.ok I2 (by simp only [RE, Rep]))
      | true =>
        refine iteT ?_
        refine hX_bind I2 h2 fun z S3 F3 w H3 I3 e4 r3 h3 => ?_
        obtain ⟨d, hd, h4⟩ := po_ofB h3
        exact ⟨y, z, d, F3, I3.sub, Rep.mono e4 _ r2, r3, hd, h4.ok I3 (by simp only [RE, Rep])⟩
theorem v_chain {o o' : COp} {a b c : E} {ea eb ec : Expr} {pos : Pos} (hu : X.A.units + 64 < cLine) (ha : PEv X CT G W CF Φ ea a) (hb : PEv X CT G W CF Φ eb b) (hc : PEv X CT G W CF Φ ec c) (hm : behindInMarks (copM o') ec = false) :
    PEv X CT G W CF Φ (.Compare ea [copM o, copM o'] [eb, ec] pos) (.chain o o' a b c) :=
  (pe_chain (op_cmpD (CT := CT) hu o) (op_cmpD (CT := CT) hu o') ha hb hc (by simpa only [lastMarks] using hm)).imp r_chain
theorem v_conj1 {a : E} {op : BoolOp} {ea : Expr} {pos : Pos} (ha : PEv X CT G W CF Φ ea a) : PEv X CT G W CF Φ (.BoolOp op [ea] pos) a := pe_one ha
theorem v_conj {a b : E} {ea eb : Expr} {es : List Expr} {pos : Pos} (ha : PEv X CT G W CF Φ ea a) (hb : PEv X CT G W CF Φ (.BoolOp .And (eb :: es) pos) b) : PEv X CT G W CF Φ (.BoolOp .And (ea :: eb :: es) pos) (.conj a b) :=
  (pe_and ha hb).imp fun σ H Q ⟨S, F, I, h⟩ => by
    simp only [evE] at h
    refine hX_bind I h fun x S1 F1 v H1 I1 e1 r1 h1 => ?_
    cases x <;> first | exact False.elim h1 | skip
    simp only [RE, Rep] at r1; subst r1
    rename_i k
    refine ⟨k, rfl, ?_⟩
    cases k with
    | true => exact iteT ⟨S1, F1, I1, h1⟩
    | false => exact iteF (h1.ok I1 (by simp only [RE, Rep]))
theorem v_disj {a b : E} {ea eb : Expr} {es : List Expr} {pos : Pos} (ha : PEv X CT G W CF Φ ea a) (hb : PEv X CT G W CF Φ (.BoolOp .Or (eb :: es) pos) b) : PEv X CT G W CF Φ (.BoolOp .Or (ea :: eb :: es) pos) (.disj a b) :=
  (pe_or ha hb).imp fun σ H Q ⟨S, F, I, h⟩ => by
    simp only [evE] at h
    refine hX_bind I h fun x S1 F1 v H1 I1 e1 r1 h1 => ?_
    cases x <;> first | exact False.elim h1 | skip
    simp only [RE, Rep] at r1; subst r1
    rename_i k
    refine ⟨k, rfl, ?_⟩
    cases k with
    | true => exact iteT (h1.ok I1 (by simp only [RE, Rep]))
    | false => exact iteF ⟨S1, F1, I1, h1⟩
theorem v_ite {c a b : E} {ec ea eb : Expr} {pos : Pos} (hc : PTv X CT G W CF Φ ec c) (ha : PEv X CT G W CF Φ ea a) (hb : PEv X CT G W CF Φ eb b) : PEv X CT G W CF Φ (.IfExp ec ea eb pos) (.ite c a b) :=
  (pe_ifExp hc ha hb).imp fun σ H Q ⟨S, F, I, h⟩ => by
    simp only [evE] at h
    refine hX_bind I h fun k S1 F1 k' H1 I1 e1 r1 h1 => ?_
    cases r1
    cases k with
    | true => exact iteT ⟨S1, F1, I1, by simpa using h1⟩
    | false => exact iteF ⟨S1, F1, I1, by simpa using h1⟩
/-! ### tests -/
theorem t_tru {a : E} {ea : Expr} (ha : PEv X CT G W CF Φ ea a) (he : ∀ whole, isTrue ea X.env whole = (do let v ← whole; standAt ea.pos; holding [v] (truthy v)))
    (hc : ∀ S, evT CF Φ a S = (evE CF Φ a S).bind fun d S1 => match truD d with | some b => .ok b S1 | none => .stuck) : PTv X CT G W CF Φ ea a :=
  (pt_truth ha he).imp fun σ H Q ⟨S, F, I, h⟩ => by
    rw [hc] at h
    refine hX_bind I h fun d S1 F1 v H1 I1 e1 r1 h1 => ?_
    cases q : truD d with
    | none => simp only [q] at h1; exact False.elim h1
    | some b =>
      simp only [q] at h1
      exact ⟨b, tru_of I1.sub r1 q, h1.ok I1 rfl⟩
/-- a value that is a bool for sure, by its rule as a test -/
theorem t_bool {a : E} {ea : Expr} {t : TT} (hp : PT X ea t) (hc : ∀ S, evT CF Φ a S = (evE CF Φ a S).bind fun d S1 => match truD d with | some b => .ok b S1 | none => .stuck)
    (hi : ∀ σ H Q, hE X.K CT G W (evE CF Φ a) σ H (fun v H' => ∃ b, v = .bl b ∧ Q b H') → t σ H Q) (hb : ∀ S d S', evE CF Φ a S = .ok d S' → ∃ b, d = .bl b) : PTv X CT G W CF Φ ea a :=
  hp.imp fun σ H Q ⟨S, F, I, h⟩ => hi σ H Q ⟨S, F, I, by
    rw [hc] at h
    cases q : evE CF Φ a S with
    | stuck => rw [q] at h; exact h
    | exc cn fn vs S1 => rw [q] at h; exact h
    | ok d S1 =>
      obtain ⟨b, rfl⟩ := hb S d S1 q
      rw [q] at h
      intro F' v H' e I' r
      simp only [RE, Rep] at r; subst r
      exact ⟨b, rfl, h F' b H' e I' rfl⟩⟩
theorem t_not {a : E} {ea : Expr} {pos : Pos} (ha : PTv X CT G W CF Φ ea a) : PTv X CT G W CF Φ (.UnaryOp .Not ea pos) (.not a) :=
  (pt_not ha).imp fun σ H Q ⟨S, F, I, h⟩ => by
    simp only [evT] at h
    refine hX_bind I h fun k S1 F1 k' H1 I1 e1 r1 h1 => ?_
    cases r1
    exact h1.ok I1 rfl
theorem v_not {a : E} {ea : Expr} {pos : Pos} (ha : PEv X CT G W CF Φ ea a) : PEv X CT G W CF Φ (.UnaryOp .Not ea pos) (.not a) :=
  (pe_not ha).imp fun σ H Q ⟨S, F, I, h⟩ => by
    simp only [evE] at h
    refine hX_bind I h fun x S1 F1 v H1 I1 e1 r1 h1 => ?_
    cases x <;> first | exact False.elim h1 | skip
    simp only [RE, Rep] at r1; subst r1
    exact ⟨_, rfl, h1.ok I1 (by simp only [RE, Rep])⟩
/-- comparisons as tests -/
theorem bool_ofB {o : Option Bool} {S S' : List SD} {d : D} (h : ofB o S = .ok d S') : ∃ b, d = .bl b := by
  cases o with
  | some b => cases h; exact ⟨b, rfl⟩
  | none => cases h
theorem t_cmpO {o : COp} {a : E} {i : Nat} {x : Str} {ea : Expr} {p pos : Pos} (hu : X.A.units + 64 < cLine) (ha : PEv X CT G W CF Φ ea a) (hN : X.N[i]? = some x) (hv : Vis X.env.scope x) (hd : (x == ("__debug__" : Str)) = false) (hcd : (x == ("__classdict__" : Str)) = false) :
    PTv X CT G W CF Φ (.Compare ea [copM o] [.Name x p] pos) (.cmpO o a i) :=
  t_bool (pt_cmpR (op_cmpD (CT := CT) hu o) ha (pe_var hN hv hd hcd) (by cases o <;> rfl)) (fun S => by simp only [evT] <;> rfl) (fun σ H Q h => r_cmpO σ H _ h) fun S d S' e => by
    simp only [evE] at e
    cases q : evE CF Φ a S with
    | stuck => rw [q] at e; cases e
    | exc cn fn vs S1 => rw [q] at e; cases e
    | ok y S1 =>
      rw [q] at e
      simp only [Res.bind] at e
      split at e
      · exact bool_ofB e
      · cases e
theorem t_isN {a : E} {ea : Expr} {j : Nat} {pos pos' : Pos} (ha : PEv X CT G W CF Φ ea a) : PTv X CT G W CF Φ (.Compare ea [.Is] [.Constant .none j pos'] pos) (.isN false a) :=
  t_bool (pt_cmp (pc_isN ha) rfl) (fun S => by simp only [evT] <;> rfl) (fun σ H Q h => r_isN σ H _ h) fun S d S' e => by
    simp only [evE] at e
    cases q : evE CF Φ a S <;> rw [q] at e <;> simp only [Res.bind] at e <;> cases e
    exact ⟨_, rfl⟩
theorem t_isNN {a : E} {ea : Expr} {j : Nat} {pos pos' : Pos} (ha : PEv X CT G W CF Φ ea a) : PTv X CT G W CF Φ (.Compare ea [.IsNot] [.Constant .none j pos'] pos) (.isN true a) :=
  t_bool (pt_cmp (pc_notN ha) rfl) (fun S => by simp only [evT] <;> rfl) (fun σ H Q h => r_isNN σ H _ h) fun S d S' e => by
    simp only [evE] at e
    cases q : evE CF Φ a S <;> rw [q] at e <;> simp only [Res.bind] at e <;> cases e
    exact ⟨_, rfl⟩
theorem t_chain {o o' : COp} {a b c : E} {ea eb ec : Expr} {pos : Pos} (hu : X.A.units + 64 < cLine) (ha : PEv X CT G W CF Φ ea a) (hb : PEv X CT G W CF Φ eb b) (hc : PEv X CT G W CF Φ ec c) (hm : behindInMarks (copM o') ec = false) :
    PTv X CT G W CF Φ (.Compare ea [copM o, copM o'] [eb, ec] pos) (.chain o o' a b c) :=
  t_bool (pt_chain (op_cmpD (CT := CT) hu o) (op_cmpD (CT := CT) hu o') ha hb hc (by simpa only [lastMarks] using hm)) (fun S => by simp only [evT] <;> rfl) (fun σ H Q h => r_chain σ H _ h) fun S d S' e => by
    simp only [evE] at e
    cases q : evE CF Φ a S with
    | stuck => rw [q] at e; cases e
    | exc cn fn vs S1 => rw [q] at e; cases e
    | ok y S1 =>
      rw [q] at e
      simp only [Res.bind] at e
      cases q2 : evE CF Φ b S1 with
      | stuck => rw [q2] at e; cases e
      | exc cn fn vs S2 => rw [q2] at e; cases e
      | ok z S2 =>
        rw [q2] at e
        simp only [Res.bind] at e
        split at e
        · cases q3 : evE CF Φ c S2 with
          | stuck => rw [q3] at e; cases e
          | exc cn fn vs S3 => rw [q3] at e; cases e
          | ok w S3 => rw [q3] at e; exact bool_ofB e
        · cases e; exact ⟨_, rfl⟩
        · cases e
theorem w_conj1 {a : E} {ea : Expr} {pos : Pos} (ha : PTv X CT G W CF Φ ea a) : PW X (.BoolOp .And [ea] pos) (hT X.K CT G W (evT CF Φ a)) := pw_and1 ha
theorem w_disj1 {a : E} {ea : Expr} {pos : Pos} (ha : PTv X CT G W CF Φ ea a) : PW X (.BoolOp .Or [ea] pos) (hT X.K CT G W (evT CF Φ a)) := pw_or1 ha
theorem PW.imp {e : Expr} {t t' : TT} (h : PW X e t) (i : ∀ σ H Q, t' σ H Q → t σ H Q) : PW X e t' := ⟨fun wh pins s σ H Q I q => h.run wh pins s σ H Q I (i σ H Q q)⟩
theorem w_conj {a b : E} {ea eb : Expr} {es : List Expr} {pos : Pos} (ha : PTv X CT G W CF Φ ea a) (hb : PW X (.BoolOp .And (eb :: es) pos) (hT X.K CT G W (evT CF Φ b))) : PW X (.BoolOp .And (ea :: eb :: es) pos) (hT X.K CT G W (evT CF Φ (.conj a b))) :=
  PW.imp (pw_and ha hb) fun σ H Q ⟨S, F, I, h⟩ => by
    simp only [evT] at h
    refine hX_bind I h fun k S1 F1 k' H1 I1 e1 r1 h1 => ?_
    cases r1
    cases k with
    | true => exact iteT ⟨S1, F1, I1, by simpa using h1⟩
    | false => exact iteF (Po.ok (by simpa using h1) I1 rfl)
theorem w_disj {a b : E} {ea eb : Expr} {es : List Expr} {pos : Pos} (ha : PTv X CT G W CF Φ ea a) (hb : PW X (.BoolOp .Or (eb :: es) pos) (hT X.K CT G W (evT CF Φ b))) : PW X (.BoolOp .Or (ea :: eb :: es) pos) (hT X.K CT G W (evT CF Φ (.disj a b))) :=
  PW.imp (pw_or ha hb) fun σ H Q ⟨S, F, I, h⟩ => by
    simp only [evT] at h
    refine hX_bind I h fun k S1 F1 k' H1 I1 e1 r1 h1 => ?_
    cases r1
    cases k with
    | true => exact iteT (Po.ok (by simpa using h1) I1 rfl)
    | false => exact iteF ⟨S1, F1, I1, by simpa using h1⟩

/-! ### argument lists, displays -/
theorem a_nil : PAv X CT G W CF Φ [] .nil := pa_nil.imp fun σ H Q ⟨S, F, I, h⟩ => by
  simp only [evEs] at h
  exact h.ok I Reps.nil
theorem a_cons {a : E} {r : Es} {e : Expr} {es : List Expr} (ha : PEv X CT G W CF Φ e a) (hr : PAv X CT G W CF Φ es r) (hs : starEach (e :: es) X.env = (false, eval e X.env) :: starEach es X.env) : PAv X CT G W CF Φ (e :: es) (.cons a r) :=
  (pa_cons ha hr hs).imp fun σ H Q ⟨S, F, I, h⟩ => by
    simp only [evEs] at h
    exact hX_bind I h fun x S1 F1 v H1 I1 e1 r1 h1 => hX_bind I1 h1 fun y S2 F2 u H2 I2 e2 r2 h2 => h2.ok I2 (Reps.cons (Rep.mono e2 _ r1) r2)
theorem v_tup {es : Es} {as : List Expr} {x1 : Nat} {pos : Pos} (h : PAv X CT G W CF Φ as es) : PEv X CT G W CF Φ (.Tuple as x1 pos) (.tup es) :=
  (pe_tup h).imp fun σ H Q ⟨S, F, I, h⟩ => by
    simp only [evE] at h
    refine hX_bind I h fun x S1 F1 v H1 I1 e1 r1 h1 => ?_
    split at h1
    · rename_i hz
      refine ⟨cap_le (by rw [← r1.length]; exact hz), fun p hp => ?_⟩
      refine (fin_of I1 h1).2 p _ hp (fun _ z => nomatch z) ?_
      simp only [Rep]
      exact ⟨p, v, rfl, SqT.of upd_same, Reps.mono (same_upd (I1.freshF hp)) x r1⟩
    · exact False.elim h1
/-! ### new lists -/
variable (CT G) in
/-- a new list, not yet settled -/
def RN (S : List SD) (K : PySem.W.Frag) (σ : L2.St) (F H : Hp) (xs : List D) (v : V) : Prop :=
  ∃ p vs, v = .ref p ∧ F p = none ∧ G.H0 p = none ∧ p ∉ G.T ∧ H p = some (.lst vs) ∧ Reps K CT F xs vs ∧ ∀ (i : Nat) (fz : Bool) (oc : OC), S[i]? = some (SD.own fz oc) → σ[i]? ≠ some (some (V.ref p))
variable (CT G W) in
def Pn (K : PySem.W.Frag) (r : Res D) (F : Hp) (σ : L2.St) (Q : VK) : Prop :=
  match r with
  | .ok d S' => ∃ xs, d = .lst xs ∧ ∀ F' v H', Same F F' → SR K CT G S' F' σ H' → RN CT G S' K σ F' H' xs v → Q v H'
  | .exc cn fn vs S' => ∀ F' H' cls d, Same F F' → SR K CT G S' F' σ H' → ExcR K CT F' H' cn fn vs cls d → W cls d σ H'
  | .stuck => False
variable (CT G W) in
def hN (K : PySem.W.Frag) (ev : List SD → Res D) : TE := fun σ H Q => ∃ S F, SR K CT G S F σ H ∧ Pn CT G W K (ev S) F σ Q
theorem Pn.mono {K : PySem.W.Frag} {r : Res D} {F F' : Hp} {σ : L2.St} {Q : VK} (e : Same F F') (h : Pn CT G W K r F σ Q) : Pn CT G W K r F' σ Q := by
  cases r with
  | ok a S' => obtain ⟨xs, h1, h2⟩ := h; exact ⟨xs, h1, fun F'' b H' e' => h2 F'' b H' (e.trans e')⟩
  | exc cn fn vs S' => exact fun F'' H' cls d e' => h F'' H' cls d (e.trans e')
  | stuck => exact h
theorem hX_bindN {K : PySem.W.Frag} {S : List SD} {F H : Hp} {σ : L2.St} {α β : Type} {R : Hp → α → β → Prop} {ev : List SD → Res α} {k : α → List SD → Res D} {Q : β → Hp → Prop} {Q' : VK} (I : SR K CT G S F σ H)
    (h : Pn CT G W K ((ev S).bind k) F σ Q') (c : ∀ a S' F' b H', SR K CT G S' F' σ H' → Same F F' → R F' a b → Pn CT G W K (k a S') F' σ Q' → Q b H') : hX K CT G W R ev σ H Q := by
  refine ⟨S, F, I, ?_⟩
  cases e : ev S with
  | ok a S' =>
    rw [e] at h
    exact fun F' b H' e' I' r => c a S' F' b H' I' e' r (h.mono e')
  | exc cn fn vs S' => rw [e] at h; exact h
  | stuck => rw [e] at h; exact h
/-- from a new list to a value -/
theorem hE_of_hN {K : PySem.W.Frag} {ev : List SD → Res D} (hl : ∀ S d S', ev S = .ok d S' → ∃ xs, d = .lst xs) {σ : L2.St} {H : Hp} {Q : VK} (h : hE K CT G W ev σ H Q) : hN CT G W K ev σ H Q := by
  obtain ⟨S, F, I, h⟩ := h
  refine ⟨S, F, I, ?_⟩
  cases e : ev S with
  | stuck => rw [e] at h; exact h
  | exc cn fn vs S1 => rw [e] at h; exact h
  | ok d S' =>
    obtain ⟨xs, rfl⟩ := hl S d S' e
    rw [e] at h
    refine ⟨xs, rfl, fun F' v H' f I' r => ?_⟩
    obtain ⟨p, vs, rfl, h1, h2, h3, h4, h5, h6⟩ := r
    refine h (upd F' p (.lst vs)) (.ref p) H' (f.trans (same_upd h1)) (I'.settle' h1 h2 h4 h3 h6) ?_
    simp only [RE, Rep]
    exact ⟨p, vs, rfl, upd_same, h5.mono (same_upd h1) xs⟩
theorem newL {K : PySem.W.Frag} {S : List SD} {F H : Hp} {σ : L2.St} {xs : List D} {vs : List V} {p : Addr} (I : SR K CT G S F σ H) (hp : H p = none) (r : Reps K CT F xs vs) : RN CT G S K σ F (upd H p (.lst vs)) xs (.ref p) :=
  ⟨p, vs, rfl, I.freshF hp, I.fresh hp, I.tabNe hp, upd_same, r, fun i fz oc h z => by
    obtain ⟨a, h1, h2, _⟩ := I.own i fz oc h
    rw [z] at h1; cases h1
    exact h2.tracked hp⟩
theorem n_lst {es : Es} {as : List Expr} {pos : Pos} (h : PAv X CT G W CF Φ as es) : PE X (.List as pos) (hN CT G W X.K (evE CF Φ (.lst es))) :=
  (pe_lst h).imp fun σ H Q ⟨S, F, I, h⟩ => by
    simp only [evE] at h
    refine hX_bindN I h fun x S1 F1 v H1 I1 e1 r1 h1 => ?_
    split at h1
    · rename_i hz
      obtain ⟨_, e2, h2⟩ := h1
      cases e2
      exact ⟨cap_le (by rw [← r1.length]; exact hz), fun p hp => h2 F1 _ _ (Same.refl F1) (I1.laid hp) (newL I1 hp r1)⟩
    · exact False.elim h1
theorem v_lst {es : Es} {as : List Expr} {pos : Pos} (h : PAv X CT G W CF Φ as es) : PEv X CT G W CF Φ (.List as pos) (.lst es) :=
  (n_lst h).imp fun σ H Q q => hE_of_hN (fun S d S' e => by
    simp only [evE] at e
    cases e1 : evEs CF Φ es S with
    | stuck => simp [e1, Res.bind] at e
    | exc cn fn vs S1 => simp [e1, Res.bind] at e
    | ok x S1 =>
      simp only [e1, Res.bind] at e
      split at e
      · cases e; exact ⟨_, rfl⟩
      · cases e) q
end

set_option Elab.async false
set_option linter.all false
set_option maxRecDepth 100000
set_option maxHeartbeats 4000000
open PySem PySem.Spec PyProof.Rows L2

theorem pe_or2 {X : Cx} {e : Expr} {t u : TE} (h : PE X e t) (h' : PE X e u) : PE X e (fun σ H Q => t σ H Q ∨ u σ H Q) := ⟨fun pins s σ H Q I q => q.elim (h.run pins s σ H Q I) (h'.run pins s σ H Q I)⟩
section
variable {X : Cx} {CT : Nat → Option Addr} {G : Gh} {W : WX} {CF : Nat → List Str} {Φ : Nat → Option OC → List D → FRes}
theorem n_rep {a b : E} {ea eb : Expr} {pos : Pos} (ha : PEv X CT G W CF Φ ea a) (hb : PEv X CT G W CF Φ eb b) : PE X (.BinOp ea .Mult eb pos) (hN CT G W X.K (evE CF Φ (.rep a b))) :=
  (pe_op op_rep ha hb).imp fun σ H Q ⟨S, F, I, h⟩ => by
    simp only [evE] at h
    refine hX_bindN I h fun x S1 F1 v H1 I1 e1 r1 h1 => hX_bindN I1 h1 fun y S2 F2 u H2 I2 e2 r2 h2 => ?_
    cases x <;> cases y <;> first | exact False.elim h2 | skip
    simp only [RE, Rep] at r1 r2
    obtain ⟨p, vs, rfl, q1, q2⟩ := r1
    subst r2
    simp only at h2
    split at h2
    · rename_i hz
      obtain ⟨_, e3, h3⟩ := h2
      cases e3
      refine ⟨p, _, vs, rfl, rfl, I2.sub _ _ (e2 _ _ q1), hz.1, hz.2.1, cap_le (by rw [← q2.length]; exact hz.2.2), fun t ht => ?_⟩
      refine h3 F2 _ _ (Same.refl F2) (I2.laid ht) (newL I2 ht ?_)
      have rep : ∀ n : Nat, ∀ {ds : List D} {ws : List V}, Reps X.K CT F2 ds ws → Reps X.K CT F2 (List.replicate n ds).flatten (List.replicate n ws).flatten := by
        intro n ds ws q
        induction n with
        | zero => simpa using Reps.nil
        | succ n ih => rw [List.replicate_succ, List.replicate_succ, List.flatten_cons, List.flatten_cons]; exact q.append ih
      exact rep _ (q2.mono e2 _)
    · exact False.elim h2
theorem v_of_n {c : E} {e : Expr} (h : PE X e (hN CT G W X.K (evE CF Φ c))) (hl : ∀ S d S', evE CF Φ c S = .ok d S' → ∃ xs, d = .lst xs) : PEv X CT G W CF Φ e c :=
  h.imp fun σ H Q q => hE_of_hN hl q
theorem bind_ok {α β : Type} {r : Res α} {k : α → List SD → Res β} {b : β} {S' : List SD} (h : r.bind k = .ok b S') : ∃ a S1, r = .ok a S1 ∧ k a S1 = .ok b S' := by
  cases r with
  | ok a S1 => exact ⟨a, S1, rfl, h⟩
  | exc cn fn vs S1 => exact nomatch h
  | stuck => exact nomatch h
theorem rep_lst {a b : E} {S : List SD} {d : D} {S' : List SD} (e : evE CF Φ (.rep a b) S = .ok d S') : ∃ xs, d = .lst xs := by
  simp only [evE] at e
  obtain ⟨x, S1, _, e⟩ := bind_ok e
  obtain ⟨y, S2, _, e⟩ := bind_ok e
  split at e
  · split at e
    · cases e; exact ⟨_, rfl⟩
    · cases e
  · cases e
/-! ### items -/
variable (CT) in
def rIdxS (K : PySem.W.Frag) : R2 := fun x y H Q => (rIxL K x y H Q ∨ rIxT K x y H Q) ∨ rIxS x y H Q
theorem valD_of {K : PySem.W.Frag} {F : Hp} : ∀ {ks : List Key} {ds : List D} {vs : List V} {k : Key} {d : D}, Reps K CT F ds vs → valD (ks.zip ds) k = some d → ∃ v, valV (ks.zip vs) k = some v ∧ Rep K CT F d v
  | [], _, _, _, _, _, h => by simp [valD] at h
  | _ :: _, [], _, _, _, _, h => by simp [valD] at h
  | k₀ :: ks, d₀ :: ds, vs, k, d, r, h => by
    simp only [Reps] at r
    obtain ⟨v, ws, rfl, r1, r2⟩ := r
    simp only [valD, List.zip_cons_cons, List.find?_cons] at h
    simp only [valV, List.zip_cons_cons, List.find?_cons]
    by_cases e : k₀ = k
    · simp only [e, decide_true, Option.map_some] at h ⊢
      cases h
      exact ⟨v, rfl, r1⟩
    · simp only [e, decide_false] at h ⊢
      exact valD_of r2 h
theorem idx_of {K : PySem.W.Frag} {F H : Hp} {a b d : D} {x y : V} {Q : VK} (e : Same F H) (ra : Rep K CT F a x) (rb : Rep K CT F b y) (h : idxD a b = some d) (q : ∀ v, Rep K CT F d v → Q v H) :
    ((∀ ks vs, a ≠ .dct ks vs) → rIdxS K x y H Q) ∧ ((∃ ks vs, a = .dct ks vs) → ∃ p v, x = .ref p ∧ DGet H p y (some v) ∧ Q v H) := by
  cases a <;> cases b <;> simp only [idxD] at h <;> first | (cases h; done) | skip
  · split at h
    · rename_i s i hz
      obtain ⟨c, hc, rfl⟩ := Option.map_eq_some_iff.mp h
      simp only [Rep] at ra rb; subst ra; subst rb
      exact ⟨fun _ => .inr ⟨_, _, c, rfl, rfl, cap_le hz, hc, q _ (by simp only [Rep])⟩, fun ⟨_, _, z⟩ => nomatch z⟩
    · cases h
  · simp only [Rep] at ra rb
    obtain ⟨p, vs, rfl, h1, h2⟩ := ra
    subst rb
    obtain ⟨v, h3, h4⟩ := atI_map h2 h
    exact ⟨fun _ => .inl (.inr ⟨p, vs, _, v, rfl, rfl, same_sqT e h1, h3, q v h4⟩), fun ⟨_, _, z⟩ => nomatch z⟩
  · simp only [Rep] at ra rb
    obtain ⟨p, vs, rfl, h1, h2⟩ := ra
    subst rb
    obtain ⟨v, h3, h4⟩ := atI_map h2 h
    exact ⟨fun _ => .inl (.inl ⟨p, vs, _, v, rfl, rfl, SqL.of (e _ _ h1), h3, q v h4⟩), fun ⟨_, _, z⟩ => nomatch z⟩
  · simp only [Rep] at ra rb
    obtain ⟨p, vs, rfl, h1, h2, h3⟩ := ra
    subst rb
    obtain ⟨v, h4, h5⟩ := valD_of h3 h
    refine ⟨fun z => absurd rfl (z _ _), fun _ => ⟨p, v, rfl, ?_, q v h5⟩⟩
    rw [← h4]
    exact DGet.k (k := Sum.inr _) (e _ _ h1)
theorem v_idx {a b : E} {ea eb : Expr} {pos : Pos} (hu : X.A.units + 1 < cLine) (ha : PEv X CT G W CF Φ ea a) (hb : PEv X CT G W CF Φ eb b) (hs : ∀ o i, subscripted eb false o i = operate [o, i] (getItem o i)) : PEv X CT G W CF Φ (.Subscript ea eb pos) (.idx a b) :=
  (pe_or2 (pe_ix (r := rIdxS X.K) ((ix_list.or ix_tup).or ix_str) ha hb hs) (pe_dget hu ha hb hs)).imp fun σ H Q ⟨S, F, I, h⟩ => by
    simp only [evE] at h
    by_cases dd : ∃ ks vs S1, evE CF Φ a S = .ok (.dct ks vs) S1
    · obtain ⟨ks, vs, S1', he⟩ := dd
      refine .inr ?_
      refine ⟨S, F, I, ?_⟩
      rw [he] at h ⊢
      refine fun F1 v H1 e1 I1 r1 => ?_
      have h := h.mono e1
      refine hX_bind I1 h fun y S2 F2 u H2 I2 e2 r2 h2 => ?_
      obtain ⟨d, hd, h3⟩ := po_ofO h2
      exact (idx_of I2.sub (Rep.mono e2 _ r1) r2 hd (fun v r => h3.ok I2 r)).2 ⟨_, _, rfl⟩
    · refine .inl ?_
      refine ⟨S, F, I, ?_⟩
      cases he : evE CF Φ a S with
      | stuck => rw [he] at h; exact h
      | exc cn fn vs S1 => rw [he] at h; exact h
      | ok x S1 =>
        rw [he] at h
        refine fun F1 v H1 e1 I1 r1 => ?_
        have h := h.mono e1
        refine hX_bind I1 h fun y S2 F2 u H2 I2 e2 r2 h2 => ?_
        obtain ⟨d, hd, h3⟩ := po_ofO h2
        exact (idx_of I2.sub (Rep.mono e2 _ r1) r2 hd (fun v r => h3.ok I2 r)).1 (fun ks vs z => dd ⟨ks, vs, S1, by rw [he, z]⟩)
/-- a list by its name: owned or settled -/
theorem peek_lst {S : List SD} {F H : Hp} {σ : L2.St} (I : SR X.K CT G S F σ H) {i : Nat} {xs : List D} (h : peekS S i = some (.lst xs)) : ∃ a vs, σ[i]? = some (some (.ref a)) ∧ H a = some (.lst vs) ∧ Reps X.K CT F xs vs := by
  unfold peekS at h
  split at h
  · rename_i d q
    cases h
    obtain ⟨v, h1, h2⟩ := I.val i _ q
    simp only [Rep] at h2
    obtain ⟨a, vs, rfl, h3, h4⟩ := h2
    exact ⟨a, vs, h1, I.sub _ _ h3, h4⟩
  · rename_i fz o q
    cases o <;> simp only [OC.toD, Option.some.injEq] at h <;> cases h
    obtain ⟨a, h1, h2, _⟩ := I.own i _ _ q
    obtain ⟨_, vs, q1, q2⟩ := h2
    exact ⟨a, vs, h1, q1, q2⟩
  · cases h
theorem peek_some {S : List SD} {F H : Hp} {σ : L2.St} (I : SR X.K CT G S F σ H) {i : Nat} (h : (peekS S i).isSome = true) : ∃ v, σ[i]? = some (some v) := by
  obtain ⟨y, hy⟩ := Option.isSome_iff_exists.mp h
  obtain ⟨v, _, h1, _⟩ := peek_of I hy
  exact ⟨v, h1⟩
/-- an item of an owned (or settled) list by its name -/
theorem v_idxO {i : Nat} {b : E} {x : Str} {p : Pos} {eb : Expr} {pos : Pos} (hN : X.N[i]? = some x) (hv : Vis X.env.scope x) (hd : (x == ("__debug__" : Str)) = false) (hcd : (x == ("__classdict__" : Str)) = false)
    (hb : PEv X CT G W CF Φ eb b) (hs : ∀ o i, subscripted eb false o i = operate [o, i] (getItem o i)) : PEv X CT G W CF Φ (.Subscript (.Name x p) eb pos) (.idxO i b) :=
  (pe_ix ix_list (pe_var hN hv hd hcd) hb hs).imp fun σ H Q ⟨S, F, I, h⟩ => by
    simp only [evE] at h
    split at h
    · rename_i hs
      obtain ⟨v0, hv0⟩ := peek_some I hs
      refine ⟨v0, hv0, ?_⟩
      refine hX_bind I h fun y S1 F1 u H1 I1 e1 r1 h1 => ?_
      split at h1
      · rename_i xs q
        obtain ⟨d, hd2, h3⟩ := po_ofO h1
        obtain ⟨a, vs, k1, k2, k3⟩ := peek_lst I1 q
        rw [hv0] at k1; cases k1
        cases y <;> simp only [idxD] at hd2 <;> first | (cases hd2; done) | skip
        obtain ⟨v, h4, h5⟩ := atI_map k3 hd2
        simp only [RE, Rep] at r1
        subst r1
        exact ⟨a, vs, _, v, rfl, rfl, SqL.of k2, h4, h3.ok I1 h5⟩
      · exact False.elim h1
    · exact False.elim h
theorem v_lenO {i : Nat} {x : Str} {p p' pos : Pos} (hN : X.N[i]? = some x) (hv : Vis X.env.scope x) (hd : (x == ("__debug__" : Str)) = false) (hcd : (x == ("__classdict__" : Str)) = false) (hg : Gl X "len") (hm : X.mg "len" = none)
    (hs : starEach [.Name x p] X.env = (false, eval (.Name x p) X.env) :: starEach [] X.env) : PEv X CT G W CF Φ (.Call (.Name "len" p') [.Name x p] [] pos) (.lenO i) :=
  (pe_callB call_len hg hm PySem.boot_len (pa_cons (pe_var hN hv hd hcd) pa_nil hs)).imp fun σ H Q ⟨S, F, I, h⟩ => by
    simp only [evE] at h
    split at h
    · rename_i xs q
      obtain ⟨a, vs, k1, k2, k3⟩ := peek_lst I q
      refine ⟨.ref a, k1, ?_⟩
      refine ⟨.ref a, vs.length, rfl, .inl ⟨vs, SqL.of k2, rfl⟩, ?_⟩
      refine h.ok I ?_
      simp only [RE, Rep]
      rw [k3.length]
    · exact False.elim h
/-! ### slices -/
theorem cut_of {K : PySem.W.Frag} {F : Hp} {ds : List D} {vs : List V} (r : Reps K CT F ds vs) (lo hi : Option Int) : Reps K CT F (cutD ds lo hi) (cutV vs lo hi) := by
  unfold cutD cutV
  rw [r.length]
  exact (r.drop _).take _
abbrev RO : Hp → Option D → Option Int → Prop := fun _ d o => optI d = some o
theorem _root_.L2.PO.imp {e : Option Expr} {t t' : TO} (h : PO X e t) (i : ∀ σ H Q, t' σ H Q → t σ H Q) : PO X e t' := ⟨fun pins s σ H Q I q => h.run pins s σ H Q I (i σ H Q q)⟩
variable (X CT G W CF Φ) in
/-- a part of a slice: an int, or left out; anything else ends it -/
def evOI (c : E) (S : List SD) : Res (Option Int) := (evO CF Φ c S).bind fun d S1 => match optI d with | some o => .ok o S1 | none => .stuck
variable (X CT G W CF Φ) in
abbrev POv (e : Option Expr) (c : E) : Prop := PO X e (hX X.K CT G W (fun _ a b => a = b) (evOI CF Φ c))
theorem o_none : POv X CT G W CF Φ none .hole := po_none.imp fun σ H Q ⟨S, F, I, h⟩ => by
  simp only [evOI, evO, Res.bind, optI] at h
  exact h.ok I rfl
theorem o_some {c : E} {e : Expr} (h : PEv X CT G W CF Φ e c) (hc : ∀ S, evO CF Φ c S = (evE CF Φ c S).bind fun d S1 => .ok (some d) S1) : POv X CT G W CF Φ (some e) c := (po_some h).imp fun σ H Q ⟨S, F, I, h⟩ => by
  simp only [evOI, hc] at h
  have h' : Po X.K CT G W (fun _ a b => a = b) ((evE CF Φ c S).bind fun d S1 => match optI (some d) with | some o => .ok o S1 | none => .stuck) F σ Q := by
    cases e : evE CF Φ c S <;> rw [e] at h <;> exact h
  refine hX_bind I h' fun d S1 F1 v H1 I1 e1 r1 h1 => ?_
  cases d <;> first | exact False.elim h1 | skip
  simp only [RE, Rep] at r1; subst r1
  exact ⟨_, rfl, h1.ok I1 rfl⟩
theorem n_slc {a lo hi : E} {ea : Expr} {elo ehi : Option Expr} {p2 pos : Pos} (ha : PEv X CT G W CF Φ ea a) (hl : POv X CT G W CF Φ elo lo) (hh : POv X CT G W CF Φ ehi hi) : PE X (.Subscript ea (.Slice elo ehi none p2) pos) (hN CT G W X.K (evE CF Φ (.slc a lo hi))) :=
  (pe_slice sl_list ha hl hh).imp fun σ H Q ⟨S, F, I, h⟩ => by
    have h' : Pn CT G W X.K ((evE CF Φ a S).bind fun x S1 => (evOI CF Φ lo S1).bind fun l S2 => (evOI CF Φ hi S2).bind fun u S3 => ofO (slcD x l u) S3) F σ Q := by
      simp only [evE, evOI] at h ⊢
      cases e1 : evE CF Φ a S with
      | stuck => rw [e1] at h; exact h
      | exc cn fn vs S1 => rw [e1] at h; exact h
      | ok x S1 =>
        simp only [e1, Res.bind] at h ⊢
        cases e2 : evO CF Φ lo S1 with
        | stuck => simp only [e2] at h; exact False.elim h
        | exc cn fn vs S2 => simp only [e2] at h ⊢; exact h
        | ok l S2 =>
          simp only [e2] at h ⊢
          cases e4 : optI l with
          | none => simp only [e4] at h; exact False.elim h
          | some l' =>
            simp only [e4] at h ⊢
            cases e3 : evO CF Φ hi S2 with
            | stuck => simp only [e3] at h; exact False.elim h
            | exc cn fn vs S3 => simp only [e3] at h ⊢; exact h
            | ok u S3 =>
              simp only [e3] at h ⊢
              cases e5 : optI u with
              | none => simp only [e5] at h; exact False.elim h
              | some u' => simp only [e5] at h ⊢; exact h
    refine hX_bindN I h' fun x S1 F1 v H1 I1 e1 r1 h1 => hX_bindN I1 h1 fun l S2 F2 l' H2 I2 e2 r2 h2 => hX_bindN I2 h2 fun u S3 F3 u' H3 I3 e3 r3 h3 => ?_
    subst r2 r3
    cases x <;> simp only [slcD, ofO] at h3 <;> first | exact False.elim h3 | skip
    simp only [RE, Rep] at r1
    obtain ⟨p, vs, rfl, q1, q2⟩ := r1
    obtain ⟨_, e5, h4⟩ := h3
    cases e5
    refine ⟨p, vs, rfl, SqL.of (I3.sub _ _ ((e2.trans e3) _ _ q1)), fun t ht => ?_⟩
    exact h4 F3 _ _ (Same.refl F3) (I3.laid ht) (newL I3 ht (cut_of (q2.mono (e2.trans e3) _) _ _))
/-- the slice of whatever has one -/
def rSlV (K : PySem.W.Frag) : V → Option Int → Option Int → Hp → VK → Prop := fun x lo hi H Q => rSlL K x lo hi H Q ∨ rSlA K x lo hi H Q ∨ C8.rSlX x lo hi H Q
theorem sl_any : SlR X (rSlV X.K) := fun pins s σ H x v vl vu lo hi sl Q I r a b c h => by
  rcases h with h | h | h
  · exact sl_list pins s σ H x v vl vu lo hi sl Q I r a b c h
  · exact sl_tupA pins s σ H x v vl vu lo hi sl Q I r a b c h
  · exact C8.sl_txt pins s σ H x v vl vu lo hi sl Q I r a b c h
theorem v_slV {a lo hi : E} {ea : Expr} {elo ehi : Option Expr} {p2 pos : Pos} (ha : PEv X CT G W CF Φ ea a) (hl : POv X CT G W CF Φ elo lo) (hh : POv X CT G W CF Φ ehi hi) : PEv X CT G W CF Φ (.Subscript ea (.Slice elo ehi none p2) pos) (.slV a lo hi) :=
  (pe_slice sl_any ha hl hh).imp fun σ H Q ⟨S, F, I, h⟩ => by
    have h' : Po X.K CT G W (RE X.K CT) ((evE CF Φ a S).bind fun x S1 => (evOI CF Φ lo S1).bind fun l S2 => (evOI CF Φ hi S2).bind fun u S3 => ofO (slvD x l u) S3) F σ Q := by
      simp only [evE, evOI] at h ⊢
      cases e1 : evE CF Φ a S with
      | stuck => rw [e1] at h; exact h
      | exc cn fn vs S1 => rw [e1] at h; exact h
      | ok x S1 =>
        simp only [e1, Res.bind] at h ⊢
        cases e2 : evO CF Φ lo S1 with
        | stuck => simp only [e2] at h; exact False.elim h
        | exc cn fn vs S2 => simp only [e2] at h ⊢; exact h
        | ok l S2 =>
          simp only [e2] at h ⊢
          cases e4 : optI l with
          | none => simp only [e4] at h; exact False.elim h
          | some l' =>
            simp only [e4] at h ⊢
            cases e3 : evO CF Φ hi S2 with
            | stuck => simp only [e3] at h; exact False.elim h
            | exc cn fn vs S3 => simp only [e3] at h ⊢; exact h
            | ok u S3 =>
              simp only [e3] at h ⊢
              cases e5 : optI u with
              | none => simp only [e5] at h; exact False.elim h
              | some u' => simp only [e5] at h ⊢; exact h
    refine hX_bind I h' fun x S1 F1 v H1 I1 e1 r1 h1 => hX_bind I1 h1 fun l S2 F2 l' H2 I2 e2 r2 h2 => hX_bind I2 h2 fun u S3 F3 u' H3 I3 e3 r3 h3 => ?_
    subst r2 r3
    obtain ⟨d, hd, h4⟩ := po_ofO h3
    cases x <;> simp only [slvD] at hd <;> first | (cases hd; done) | skip
    · rename_i z
      split at hd
      · rename_i hz
        cases hd
        simp only [RE, Rep] at r1; subst r1
        exact .inr (.inr ⟨z, rfl, cap_le hz, h4.ok I3 (by simp only [RE, Rep])⟩)
      · cases hd
    · rename_i xs
      · cases hd
        simp only [RE, Rep] at r1
        obtain ⟨p, vs, rfl, q1, q2⟩ := r1
        refine .inr (.inl ⟨p, vs, rfl, same_sqT (e2.trans e3 |>.trans I3.sub) q1, fun hw => ?_, fun hn t ht => ?_⟩)
        · have ec : cutD xs l u = xs := by
            rw [← q2.length] at hw
            unfold cutD
            rw [hw.1, hw.2, List.drop_zero, Nat.sub_zero, List.take_length]
          refine h4 F3 _ _ (Same.refl F3) I3 ?_
          simp only [RE, Rep]
          rw [ec]
          exact ⟨p, vs, rfl, same_sqT (e2.trans e3) q1, q2.mono (e2.trans e3) _⟩
        refine h4 (upd F3 t (.tup (cutV vs l u))) _ _ (same_upd (I3.freshF ht)) (I3.settle ht) ?_
        simp only [RE, Rep]
        exact ⟨t, _, rfl, SqT.of upd_same, (cut_of (q2.mono (e2.trans e3) _) _ _).mono (same_upd (I3.freshF ht)) _⟩
    · rename_i xs
      cases hd
      simp only [RE, Rep] at r1
      obtain ⟨p, vs, rfl, q1, q2⟩ := r1
      refine .inl ⟨p, vs, rfl, SqL.of (I3.sub _ _ ((e2.trans e3) _ _ q1)), fun t ht => ?_⟩
      refine h4 (upd F3 t (.lst (cutV vs l u))) _ _ (same_upd (I3.freshF ht)) (I3.settle ht) ?_
      simp only [RE, Rep]
      exact ⟨t, _, rfl, upd_same, (cut_of (q2.mono (e2.trans e3) _) _ _).mono (same_upd (I3.freshF ht)) _⟩
end

set_option Elab.async false
set_option linter.all false
set_option maxRecDepth 100000
set_option maxHeartbeats 4000000
open PySem PySem.Spec PyProof.Rows L2

/-! ### sum(t), of a tuple -/
theorem sum_rawT {prog : Program} {w : World} {A : Around} {E : Value → Shared → Prop} {s : Shared} {l : Addr} {its : List Value} {ns : List Int} {Q : Value → Shared → Prop} (hh : A.handled = none) (hl : s.heap.IsTuple l its.toArray) (hi : IntsAre its ns)
    (h : ∀ h' tk t', (∀ b o, s.heap.get? b = some o → h'.get? b = some o) → Q (.int ns.sum t') { s with heap := h', toks := tk }) : wpAny (model prog w) A (call (.builtin "sum") [.ref l]) Q E s := by
  obtain ⟨xs, e⟩ := hi.allInts.items
  have hn : numsOf (intItems xs).toList = ns := by rw [← e]; exact hi.numsOf
  rw [nums_intItems] at hn
  rw [e] at hl
  refine PySem.W.ktm_sumG hh hl fun h' tk t' hk => ?_
  have := h h' tk t' hk
  rw [preSum_eq, List.take_of_length_le (by simp), hn]; exact this
theorem cr_sumT {X : Cx} (hc : X.calm = true) : CallR X (.builtin "sum") (fun vs H Q => ∃ (a : Addr) (ns : List Int), vs = [V.ref a] ∧ SqT X.K H a (ns.map V.int) ∧ Q (.int ns.sum) H) := by
  intro pins s σ H vs us Q I r h
  obtain ⟨a, ns, rfl, hs, q⟩ := h
  obtain ⟨its, rv, hl, _⟩ := I.tuple hs
  rw [Vals.ref1 r]
  exact sum_rawT (I.ok.hd hc) hl rv.ints fun h' tk t' hk => ⟨.int _, H, I.kept hk, ⟨_, rfl⟩, q⟩
/-! ### min(xs), of data -/
theorem isP_mem : ∀ {xs : List D}, isPs xs = true → ∀ d ∈ xs, isP d = true
  | x :: xs, h, d, hd => by
    simp only [isPs, Bool.and_eq_true] at h
    rcases List.mem_cons.1 hd with rfl | hd
    · exact h.1
    · exact isP_mem h.2 d hd
mutual
theorem toP_inj : ∀ (a b : D), isP a = true → isP b = true → toP a = toP b → a = b
  | .non, b, _, hb, h => by cases b <;> simp [toP, isP] at hb h ⊢
  | .bl x, b, _, hb, h => by cases b <;> simp [toP, isP] at hb h ⊢ <;> exact h
  | .int x, b, _, hb, h => by cases b <;> simp [toP, isP] at hb h ⊢ <;> exact h
  | .str x, b, _, hb, h => by cases b <;> simp [toP, isP] at hb h ⊢ <;> exact h
  | .tup xs, b, ha, hb, h => by
    cases b <;> simp [toP, isP] at ha hb h ⊢
    exact toPs_inj xs _ ha hb h
  | .lst xs, b, ha, hb, h => by
    cases b <;> simp [toP, isP] at ha hb h ⊢
    exact toPs_inj xs _ ha hb h
  | .dct _ _, _, ha, _, _ => by simp [isP] at ha
  | .obj _ _ _, _, ha, _, _ => by simp [isP] at ha
  | .scr _, _, ha, _, _ => by simp [isP] at ha
  | .fnv _, _, ha, _, _ => by simp [isP] at ha
theorem toPs_inj : ∀ (a b : List D), isPs a = true → isPs b = true → toPs a = toPs b → a = b
  | [], b, _, _, h => by cases b <;> simp [toPs] at h ⊢
  | x :: xs, b, ha, hb, h => by
    cases b with
    | nil => simp [toPs] at h
    | cons y ys =>
      simp [toPs, isPs] at ha hb h
      rw [toP_inj x y ha.1 hb.1 h.1, toPs_inj xs ys ha.2 hb.2 h.2]
end
theorem minDD_toP : ∀ (xs : List D) (x : D), toP (minDD x xs) = PySem.W.minD (toP x) (toPs xs)
  | [], _ => rfl
  | y :: ys, x => by
    have ih := minDD_toP ys (if PySem.W.dataLt (toP y) (toP x) = true then y else x)
    unfold minDD PySem.W.minD at ih ⊢
    rw [toPs, List.foldl_cons, List.foldl_cons, ih]
    congr 1
    split <;> rfl
theorem minDD_mem : ∀ (xs : List D) (x : D), minDD x xs ∈ x :: xs
  | [], _ => List.mem_cons_self
  | y :: ys, x => by
    have ih := minDD_mem ys (if PySem.W.dataLt (toP y) (toP x) = true then y else x)
    unfold minDD at ih ⊢
    rw [List.foldl_cons]
    rcases List.mem_cons.1 ih with h | h
    · rw [h]
      split
      · exact List.mem_cons_of_mem _ List.mem_cons_self
      · exact List.mem_cons_self
    · exact List.mem_cons_of_mem _ (List.mem_cons_of_mem _ h)
theorem toPs_map : ∀ xs : List D, toPs xs = xs.map toP
  | [] => rfl
  | x :: xs => by rw [toPs, toPs_map xs]; rfl
section
variable {X : Cx} {CT : Nat → Option Addr}
def rMinD (X : Cx) (CT : Nat → Option Addr) : List V → Hp → VK → Prop := fun vs H Q => ∃ (a : Addr) (xs : List V) (d : D) (ds : List D) (F : Hp), vs = [V.ref a] ∧ H a = some (.lst xs) ∧ Same F H ∧ Reps X.K CT F (d :: ds) xs ∧ minOk (d :: ds) = true ∧ X.A.units + 64 < cLine ∧
  ∀ v, Rep X.K CT F (minDD d ds) v → Q v H
theorem cr_minD (hc : X.calm = true) : CallR X (.builtin "min") (rMinD X CT) := by
  intro pins s σ H vs us Q I r h
  obtain ⟨a, xs, d, ds, F, rfl, hs, sub, rp, ok, hu, q⟩ := h
  obtain ⟨its, rv, hl, hz⟩ := I.list (SqL.of hs)
  rw [Vals.ref1 r]
  simp only [minOk, srtOk, Bool.and_eq_true, decide_eq_true_eq, List.all_eq_true] at ok
  obtain ⟨⟨⟨⟨⟨k1, k2⟩, k3⟩, k4⟩, k5⟩, k6⟩ := ok
  obtain ⟨as, hr⟩ := Dp.readsAll I _ _ _ (dps_of sub _ rp k2) rv
  have hr' : ReadsAll s.heap its.toArray.toList (toP d :: toPs ds) as := hr
  have al : PySem.W.AlikeAll (toP d :: toPs ds) := by
    have e : toP d :: toPs ds = (d :: ds).map toP := by rw [toPs_map]; rfl
    rw [e]
    refine ⟨fun x hx y hy => ?_, fun x hx => ?_⟩
    · obtain ⟨x1, hx1, rfl⟩ := List.mem_map.1 hx
      obtain ⟨y1, hy1, rfl⟩ := List.mem_map.1 hy
      exact k3 _ hx1 _ hy1
    · obtain ⟨x1, hx1, rfl⟩ := List.mem_map.1 hx
      have := k4 _ hx1
      split at this
      · simp only [toP]; exact fun z => nomatch z
      · cases this
  refine PySem.W.min_list_data (I.ok.hd hc) hl.isList hr' al (by have : PyData.depthAll (toP d :: toPs ds) ≤ 60 := k6; omega) fun i v h' tk bs hi rd hk => ?_
  have hi2 : its[i]? = some v := by simpa using hi
  obtain ⟨x, hx, rx⟩ : ∃ x, xs[i]? = some x ∧ RelV x v := by
    have hlen : i < xs.length := by
      have := (List.getElem?_eq_some_iff.1 hi2).1
      have e := Vals.length rv
      omega
    obtain ⟨u, hu2, ru⟩ := Vals.get rv (List.getElem?_eq_getElem hlen)
    rw [hi2] at hu2; cases hu2
    exact ⟨_, List.getElem?_eq_getElem hlen, ru⟩
  obtain ⟨e, he, re⟩ := rp.getV hx
  have me : e ∈ d :: ds := List.mem_of_getElem? he
  have pe : isP e = true := isP_mem k2 _ me
  obtain ⟨as2, r2⟩ := Dp.reads I _ _ _ (dp_of sub _ re pe) rx
  have eq := ((Reads.keeps hk r2).unique _ _ rd).1
  rw [← minDD_toP] at eq
  have := toP_inj _ _ pe (isP_mem k2 _ (minDD_mem ds d)) eq
  subst this
  exact ⟨x, H, I.kept hk, rx, q x re⟩
end
section
variable {X : Cx} {CT : Nat → Option Addr} {G : Gh} {W : WX} {CF : Nat → List Str} {Φ : Nat → Option OC → List D → FRes}
/-! ### built-ins by values -/
variable (CT) in
def rBi (K : PySem.W.Frag) (f : Bi) : List V → Hp → VK → Prop := fun vs H Q => ∃ ds d F, Same F H ∧ Reps K CT F ds vs ∧ biD f ds = some d ∧ Fin K CT d F H Q
def biId : Bi → String
  | .srt => "sorted" | .mind => "min" | .len => "len" | .min2 => "min" | .max2 => "max" | .minl => "min" | .maxl => "max" | .sum => "sum" | .all => "all" | .any => "any" | .int => "int" | .tup => "tuple" | .lst => "list"
theorem reps1 {K : PySem.W.Frag} {F : Hp} {d : D} {vs : List V} (h : Reps K CT F [d] vs) : ∃ v, vs = [v] ∧ Rep K CT F d v := by
  simp only [Reps] at h
  obtain ⟨v, ws, rfl, h1, rfl⟩ := h
  exact ⟨v, rfl, h1⟩
theorem reps2 {K : PySem.W.Frag} {F : Hp} {d e : D} {vs : List V} (h : Reps K CT F [d, e] vs) : ∃ v w, vs = [v, w] ∧ Rep K CT F d v ∧ Rep K CT F e w := by
  simp only [Reps] at h
  obtain ⟨v, ws, rfl, h1, w, us, rfl, h2, rfl⟩ := h
  exact ⟨v, w, rfl, h1, h2⟩
theorem len_call {pins : List (Addr × Obj)} {s : Shared} {σ : L2.St} {H : Hp} {vs : List V} {us : List Value} {Q : VK} (I : Inv X pins σ H s) (r : Vals vs us) {d : D} {F : Hp} {ds : List D} (e : Same F H) (rd : Reps X.K CT F ds vs) (h : biD .len ds = some d) (q : ∀ v, Rep X.K CT F d v → Q v H) :
    wpAny (model X.prog X.w) X.A (call (.builtin "len") us) (EP X pins σ Q) X.xe s := by
  unfold biD at h
  split at h <;> first | (rename_i z; cases z; done) | skip
  · cases h
    obtain ⟨v, rfl, h1⟩ := reps1 rd
    simp only [Rep] at h1
    obtain ⟨p, ws, rfl, h2, h3⟩ := h1
    exact call_len pins s σ H _ us Q I r ⟨_, ws.length, rfl, .inl ⟨ws, SqL.of (e _ _ h2), rfl⟩, q _ (by simp only [Rep]; rw [h3.length])⟩
  · cases h
    obtain ⟨v, rfl, h1⟩ := reps1 rd
    simp only [Rep] at h1
    obtain ⟨p, ws, rfl, h2, h3⟩ := h1
    exact call_len pins s σ H _ us Q I r ⟨_, ws.length, rfl, .inr ⟨ws, same_sqT e h2, rfl⟩, q _ (by simp only [Rep]; rw [h3.length])⟩
  · split at h
    · rename_i hz; cases h
      obtain ⟨v, rfl, h1⟩ := reps1 rd
      simp only [Rep] at h1; subst h1
      exact call_len pins s σ H _ us Q I r ⟨_, _, rfl, ⟨cap_le hz, rfl⟩, q _ (by simp only [Rep])⟩
    · cases h
  · cases h
theorem bi_fun (hu : X.A.units + 64 < cLine) (hc : X.calm = true) (f : Bi) (hf : f ≠ .int ∧ f ≠ .tup ∧ f ≠ .lst ∧ f ≠ .srt) : CallR X (.builtin (biId f)) (rBi CT X.K f) := by
  intro pins s σ H vs us Q I r ⟨ds, d, F, e, rd, h, q⟩
  cases f
  case len => exact len_call I r e rd h q.1
  case int => exact absurd rfl hf.1
  case tup => exact absurd rfl hf.2.1
  case lst => exact absurd rfl hf.2.2.1
  case srt => exact absurd rfl hf.2.2.2
  case mind =>
    unfold biD at h
    split at h <;> first | (rename_i z; cases z; done) | skip
    · split at h
      · rename_i ok
        cases h
        obtain ⟨v, rfl, h1⟩ := reps1 rd
        simp only [Rep] at h1
        obtain ⟨p, ws, rfl, h2, h3⟩ := h1
        exact cr_minD hc pins s σ H _ us Q I r ⟨p, ws, _, _, F, rfl, e _ _ h2, e, h3, ok, hu, fun v hv => q.1 v hv⟩
      · cases h
    · cases h
  case min2 =>
    unfold biD at h
    split at h <;> first | (rename_i z; cases z; done) | skip
    · cases h
      obtain ⟨v, w, rfl, h1, h2⟩ := reps2 rd
      simp only [Rep] at h1 h2; subst h1; subst h2
      exact call_min2 hc pins s σ H _ us Q I r ⟨_, _, rfl, q.1 _ (by simp only [Rep])⟩
    · cases h
  case max2 =>
    unfold biD at h
    split at h <;> first | (rename_i z; cases z; done) | skip
    · cases h
      obtain ⟨v, w, rfl, h1, h2⟩ := reps2 rd
      simp only [Rep] at h1 h2; subst h1; subst h2
      exact call_max2 hc pins s σ H _ us Q I r ⟨_, _, rfl, q.1 _ (by simp only [Rep])⟩
    · cases h
  case sum =>
    unfold biD at h
    split at h <;> first | (rename_i z; cases z; done) | skip
    · obtain ⟨ns, h0, rfl⟩ := Option.map_eq_some_iff.mp h
      obtain ⟨v, rfl, h1⟩ := reps1 rd
      simp only [Rep] at h1
      obtain ⟨p, ws, rfl, h2, h3⟩ := h1
      have := ints_of h3 h0
      subst this
      exact cr_sum hc pins s σ H _ us Q I r ⟨p, ns, rfl, SqL.of (e _ _ h2), q.1 _ (by simp only [Rep])⟩
    · obtain ⟨ns, h0, rfl⟩ := Option.map_eq_some_iff.mp h
      obtain ⟨v, rfl, h1⟩ := reps1 rd
      simp only [Rep] at h1
      obtain ⟨p, ws, rfl, h2, h3⟩ := h1
      have := ints_of h3 h0
      subst this
      exact cr_sumT hc pins s σ H _ us Q I r ⟨p, ns, rfl, same_sqT e h2, q.1 _ (by simp only [Rep])⟩
    · cases h
  case all =>
    unfold biD at h
    split at h <;> first | (rename_i z; cases z; done) | skip
    · obtain ⟨ns, h0, rfl⟩ := Option.map_eq_some_iff.mp h
      obtain ⟨v, rfl, h1⟩ := reps1 rd
      simp only [Rep] at h1
      obtain ⟨p, ws, rfl, h2, h3⟩ := h1
      have := bls_of h3 h0
      subst this
      exact cr_all hc pins s σ H _ us Q I r ⟨p, ns, rfl, SqL.of (e _ _ h2), q.1 _ (by simp only [Rep])⟩
    · cases h
  case any =>
    unfold biD at h
    split at h <;> first | (rename_i z; cases z; done) | skip
    · obtain ⟨ns, h0, rfl⟩ := Option.map_eq_some_iff.mp h
      obtain ⟨v, rfl, h1⟩ := reps1 rd
      simp only [Rep] at h1
      obtain ⟨p, ws, rfl, h2, h3⟩ := h1
      have := bls_of h3 h0
      subst this
      exact cr_any hc pins s σ H _ us Q I r ⟨p, ns, rfl, SqL.of (e _ _ h2), q.1 _ (by simp only [Rep])⟩
    · cases h
  case maxl =>
    unfold biD at h
    split at h <;> first | (rename_i z; cases z; done) | skip
    · obtain ⟨ns, h0, hm⟩ := Option.bind_eq_some_iff.mp h
      obtain ⟨M, hM, rfl⟩ := Option.map_eq_some_iff.mp hm
      obtain ⟨v, rfl, h1⟩ := reps1 rd
      simp only [Rep] at h1
      obtain ⟨p, ws, rfl, h2, h3⟩ := h1
      have := ints_of h3 h0
      subst this
      obtain ⟨g1, g2⟩ := List.max?_eq_some_iff.mp hM
      refine cr_max hc pins s σ H _ us Q I r ⟨p, ns, rfl, SqL.of (e _ _ h2), List.length_pos_of_mem g1, fun m hm1 hm2 => ?_⟩
      have : m = M := Int.le_antisymm (g2 m hm1) (hm2 M g1)
      exact q.1 _ (by simp only [Rep]; rw [this])
    · cases h
  case minl =>
    unfold biD at h
    split at h <;> first | (rename_i z; cases z; done) | skip
    · obtain ⟨ns, h0, hm⟩ := Option.bind_eq_some_iff.mp h
      obtain ⟨M, hM, rfl⟩ := Option.map_eq_some_iff.mp hm
      obtain ⟨v, rfl, h1⟩ := reps1 rd
      simp only [Rep] at h1
      obtain ⟨p, ws, rfl, h2, h3⟩ := h1
      have := ints_of h3 h0
      subst this
      obtain ⟨g1, g2⟩ := List.min?_eq_some_iff.mp hM
      refine cr_min hc pins s σ H _ us Q I r ⟨p, ns, rfl, SqL.of (e _ _ h2), List.length_pos_of_mem g1, fun m hm1 hm2 => ?_⟩
      have : m = M := Int.le_antisymm (hm2 M g1) (g2 m hm1)
      exact q.1 _ (by simp only [Rep]; rw [this])
    · cases h
theorem bi_int : CallR X (.type "int") (rBi CT X.K .int) := by
  intro pins s σ H vs us Q I r ⟨ds, d, F, e, rd, h, q⟩
  unfold biD at h
  split at h <;> first | (rename_i z; cases z; done) | skip
  · cases h
    obtain ⟨v, rfl, h1⟩ := reps1 rd
    simp only [Rep] at h1; subst h1
    exact call_int1 pins s σ H _ us Q I r (.inl ⟨_, rfl, q.1 _ (by simp only [Rep])⟩)
  · cases h
    obtain ⟨v, rfl, h1⟩ := reps1 rd
    simp only [Rep] at h1; subst h1
    exact call_int1 pins s σ H _ us Q I r (.inr ⟨_, rfl, q.1 _ (by simp only [Rep])⟩)
  · cases h
theorem bi_tup : CallR X (.type "tuple") (rBi CT X.K .tup) := by
  intro pins s σ H vs us Q I r ⟨ds, d, F, e, rd, h, q⟩
  unfold biD at h
  split at h <;> first | (rename_i z; cases z; done) | skip
  · cases h
    obtain ⟨v, rfl, h1⟩ := reps1 rd
    simp only [Rep] at h1
    obtain ⟨p, ws, rfl, h2, h3⟩ := h1
    exact call_tuple_of pins s σ H _ us Q I r ⟨p, ws, rfl, .inl ⟨SqL.of (e _ _ h2), fun l hl => q.2 l _ hl (fun _ z => nomatch z) (by simp only [Rep]; exact ⟨l, ws, rfl, SqT.of upd_same, h3.mono (same_upd (e.free hl)) _⟩)⟩⟩
  · cases h
    obtain ⟨v, rfl, h1⟩ := reps1 rd
    have h0 := h1
    simp only [Rep] at h1
    obtain ⟨p, ws, rfl, h2, h3⟩ := h1
    exact call_tuple_of pins s σ H _ us Q I r ⟨p, ws, rfl, .inr ⟨same_sqT e h2, q.1 _ h0⟩⟩
  · cases h
theorem v_biF {f : Bi} {es : Es} {e : Expr} {as : List Expr} {x : Str} {p pos : Pos} (hu : X.A.units + 64 < cLine) (hc : X.calm = true) (hf : f ≠ .int ∧ f ≠ .tup ∧ f ≠ .lst ∧ f ≠ .srt) (hx : x = Str.ofString (biId f)) (hg : Gl X x) (hm : X.mg x = none) (hv : bootBuiltins x = some (.builtin (biId f)))
    (ha : PAv X CT G W CF Φ (e :: as) es) (hn : x ≠ "__name__") (hdb : (x == ("__debug__" : Str)) = false)
    (he : starEach (e :: as) X.env = (false, eval e X.env) :: starEach as X.env) (hpl : (backTo pos (starEach as X.env)).any (·.1) = false) : PEv X CT G W CF Φ (.Call (.Name x p) (e :: as) [] pos) (.bi f es) :=
  (pe_callB (bi_fun (CT := CT) hu hc f hf) hg hm hv ha hn hdb he hpl).imp fun σ H Q ⟨S, F, I, h⟩ => by
    simp only [evE] at h
    refine hX_bind I h fun ds S1 F1 vs H1 I1 e1 r1 h1 => ?_
    obtain ⟨d, hd, h3⟩ := po_ofO h1
    exact ⟨ds, d, F1, I1.sub, r1, hd, fin_of I1 h3⟩
theorem v_biT {f : Bi} {es : Es} {e : Expr} {as : List Expr} {x : Str} {p pos : Pos} (hf : CallR X (.type (biId f)) (rBi CT X.K f)) (hg : Gl X x) (hm : X.mg x = none) (hv : bootBuiltins x = some (.type (biId f)))
    (ha : PAv X CT G W CF Φ (e :: as) es) (hn : x ≠ "__name__") (hdb : (x == ("__debug__" : Str)) = false)
    (he : starEach (e :: as) X.env = (false, eval e X.env) :: starEach as X.env) (hpl : (backTo pos (starEach as X.env)).any (·.1) = false) : PEv X CT G W CF Φ (.Call (.Name x p) (e :: as) [] pos) (.bi f es) :=
  (pe_callTy hf hg hm hv ha hn hdb he hpl).imp fun σ H Q ⟨S, F, I, h⟩ => by
    simp only [evE] at h
    refine hX_bind I h fun ds S1 F1 vs H1 I1 e1 r1 h1 => ?_
    obtain ⟨d, hd, h3⟩ := po_ofO h1
    exact ⟨ds, d, F1, I1.sub, r1, hd, fin_of I1 h3⟩
/-- list(range(n)): new -/
theorem n_lrg {a : E} {e : Expr} {p p2 pos pos2 : Pos} (hc : X.calm = true) (hg : Gl X "list") (hm : X.mg "list" = none) (hg2 : Gl X "range") (hm2 : X.mg "range" = none) (ha : PEv X CT G W CF Φ e a) (he : starEach [e] X.env = [(false, eval e X.env)]) :
    PE X (.Call (.Name "list" p) [.Call (.Name "range" p2) [e] [] pos2] [] pos) (hN CT G W X.K (evE CF Φ (.lrg a))) :=
  (pe_listRg hc hg hm (prg_1 hg2 hm2 ha he) rfl).imp fun σ H Q ⟨S, F, I, h⟩ => by
    simp only [evE] at h
    refine hX_bindN I h fun d S1 F1 v H1 I1 e1 r1 h1 => ?_
    cases d <;> first | exact False.elim h1 | skip
    rename_i n
    simp only [RE, Rep] at r1
    subst r1
    simp only at h1
    split at h1
    · rename_i hb
      obtain ⟨xs, e2, h2⟩ := h1
      cases e2
      refine ⟨n, rfl, ⟨by omega, by omega, by omega, by omega, by omega⟩, fun q hq => ?_⟩
      refine h2 F1 _ _ (Same.refl F1) (I1.laid hq) (newL I1 hq ?_)
      have : rgV 0 n = (List.range n.toNat).map fun (i : Nat) => V.int (0 + (i : Int)) := by unfold rgV; rw [Int.sub_zero]
      rw [this]
      have all : ∀ (l : List Nat), Reps X.K CT F1 (l.map fun (k : Nat) => D.int (0 + (k : Int))) (l.map fun (i : Nat) => V.int (0 + (i : Int))) := fun l => by
        induction l with
        | nil => exact Reps.nil
        | cons x l ih => exact Reps.cons (by simp only [Rep]) ih
      exact all _
    · exact False.elim h1
/-- list(xs): new -/
theorem n_lstOf {es : Es} {e : Expr} {as : List Expr} {x : Str} {p pos : Pos} (hg : Gl X x) (hm : X.mg x = none) (hv : bootBuiltins x = some (.type "list"))
    (ha : PAv X CT G W CF Φ (e :: as) es) (hn : x ≠ "__name__") (hdb : (x == ("__debug__" : Str)) = false)
    (he : starEach (e :: as) X.env = (false, eval e X.env) :: starEach as X.env) (hpl : (backTo pos (starEach as X.env)).any (·.1) = false) : PE X (.Call (.Name x p) (e :: as) [] pos) (hN CT G W X.K (evE CF Φ (.bi .lst es))) :=
  (pe_callTy call_list_of hg hm hv ha hn hdb he hpl).imp fun σ H Q ⟨S, F, I, h⟩ => by
    simp only [evE] at h
    refine hX_bindN I h fun ds S1 F1 vs H1 I1 e1 r1 h1 => ?_
    cases hd : biD .lst ds with
    | none => rw [hd] at h1; exact False.elim h1
    | some d =>
      rw [hd] at h1
      obtain ⟨_, e3, h3⟩ := h1
      unfold biD at hd
      split at hd <;> first | (rename_i z; cases z; done) | skip
      · cases hd; cases e3
        obtain ⟨v, rfl, h1⟩ := reps1 r1
        simp only [Rep] at h1
        obtain ⟨p, ws, rfl, h2, h4⟩ := h1
        exact ⟨p, ws, rfl, .inl (SqL.of (I1.sub _ _ h2)), fun l hl => h3 F1 _ _ (Same.refl F1) (I1.laid hl) (newL I1 hl h4)⟩
      · cases hd; cases e3
        obtain ⟨v, rfl, h1⟩ := reps1 r1
        simp only [Rep] at h1
        obtain ⟨p, ws, rfl, h2, h4⟩ := h1
        exact ⟨p, ws, rfl, .inr (same_sqT I1.sub h2), fun l hl => h3 F1 _ _ (Same.refl F1) (I1.laid hl) (newL I1 hl h4)⟩
      · cases hd
theorem pair_up {F : Hp} : ∀ {ds : List D} {vs : List V} {us : List Value}, Reps X.K CT F ds vs → Vals vs us → PySem.W.EachIs (fun (u : Value) (b : V × D) => RelV b.1 u ∧ Rep X.K CT F b.2 b.1) us (vs.zip ds)
  | [], vs, us, r, h => by
    simp only [Reps] at r; subst r
    cases h
    exact .nil
  | d :: ds, vs, us, r, h => by
    simp only [Reps] at r
    obtain ⟨v, ws, rfl, r1, r2⟩ := r
    cases h with
    | cons h1 h2 => exact .cons ⟨h1, r1⟩ (pair_up r2 h2)
theorem pair_dn {F : Hp} : ∀ {us : List Value} {bs : List (V × D)}, PySem.W.EachIs (fun (u : Value) (b : V × D) => RelV b.1 u ∧ Rep X.K CT F b.2 b.1) us bs → Vals (bs.map (·.1)) us ∧ Reps X.K CT F (bs.map (·.2)) (bs.map (·.1))
  | _, _, .nil => ⟨.nil, Reps.nil⟩
  | _, _, .cons h t => ⟨.cons h.1 (pair_dn t).1, Reps.cons h.2 (pair_dn t).2⟩
theorem zip_snd {α β : Type} : ∀ {xs : List α} {ys : List β}, xs.length = ys.length → (xs.zip ys).map (·.2) = ys
  | [], [], _ => rfl
  | x :: xs, y :: ys, h => by
    rw [List.zip_cons_cons, List.map_cons, zip_snd (by simpa using h)]
def rSrtD (X : Cx) (CT : Nat → Option Addr) : List V → Hp → VK → Prop := fun vs H Q => ∃ (a : Addr) (xs : List V) (ds : List D) (F : Hp), vs = [V.ref a] ∧ H a = some (.lst xs) ∧ Same F H ∧ Reps X.K CT F ds xs ∧ srtOk ds = true ∧ X.A.units + 64 < cLine ∧
  ∀ (ys : List V) (l : Addr), Reps X.K CT F (ds.mergeSort leD) ys → H l = none → Q (.ref l) (upd H l (.lst ys))
theorem cr_srtD : CallR X (.builtin "sorted") (rSrtD X CT) := by
  intro pins s σ H vs us Q I r h
  obtain ⟨a, xs, ds, F, rfl, hs, sub, rp, ok, hu, q⟩ := h
  obtain ⟨its, rv, hl, hz⟩ := I.list (SqL.of hs)
  obtain ⟨u, rfl, ru⟩ := vals1 r
  obtain rfl : u = Value.ref a := ru
  simp only [srtOk, Bool.and_eq_true, decide_eq_true_eq, List.all_eq_true] at ok
  obtain ⟨⟨⟨⟨k1, k2⟩, k3⟩, k4⟩, k5⟩ := ok
  have ll := rp.length
  have e := pair_up rp rv
  have zs : (xs.zip ds).map (·.2) = ds := zip_snd ll.symm
  have mem : ∀ b ∈ xs.zip ds, b.2 ∈ ds := fun b hb => by rw [← zs]; exact List.mem_map_of_mem hb
  have er : PySem.W.EachIs (fun v (b : V × D) => ∃ as, Reads s.heap v (toP b.2) as) its (xs.zip ds) := by
    have : ∀ {us : List Value} {bs : List (V × D)}, (∀ b ∈ bs, b.2 ∈ ds) → PySem.W.EachIs (fun (u : Value) (b : V × D) => RelV b.1 u ∧ Rep X.K CT F b.2 b.1) us bs → PySem.W.EachIs (fun v (b : V × D) => ∃ as, Reads s.heap v (toP b.2) as) us bs := fun {us bs} hm t => by
      induction t with
      | nil => exact .nil
      | cons h t ih => exact .cons (Dp.reads I _ _ _ (dp_of sub _ h.2 (isP_mem k2 _ (hm _ List.mem_cons_self))) h.1) (ih fun b hb => hm b (List.mem_cons_of_mem _ hb))
    exact this mem e
  refine PySem.W.sorted_data (enc := fun b : V × D => toP b.2) hl.isList e er ?_ ?_ ?_ ?_ fun out ho eo => ?_
  · intro d hd d' hd'
    obtain ⟨b, hb, rfl⟩ := List.mem_map.1 hd
    obtain ⟨b', hb', rfl⟩ := List.mem_map.1 hd'
    exact k3 _ (mem b hb) _ (mem b' hb')
  · refine .inl fun d hd => ?_
    obtain ⟨b, hb, rfl⟩ := List.mem_map.1 hd
    have := k4 _ (mem b hb)
    obtain ⟨v, dd⟩ := b
    simp only at this ⊢
    split at this
    · exact ⟨_, _, by simp only [toP, toPs]; rfl⟩
    · cases this
  · rw [List.length_zip, ll, sizeLine_eq]; unfold cap at k1; omega
  · intro b hb
    have := k5 _ (mem b hb)
    omega
  · obtain ⟨n, hn⟩ := sortedAll_at s.heap its out.toArray
    obtain ⟨p1, p2⟩ := pair_dn eo
    have me : ((xs.zip ds).mergeSort (PySem.W.dataLe false fun b : V × D => toP b.2)).map (·.2) = ds.mergeSort leD := by
      have z := List.map_mergeSort (r := PySem.W.dataLe false fun b : V × D => toP b.2) (s := leD) (f := fun b : V × D => b.2) (l := xs.zip ds) (fun a _ b _ => rfl)
      exact z.trans (congrArg (fun l => List.mergeSort l leD) zs)
    rw [me] at p2
    refine ⟨.ref (s.heap.objs.size + 1), upd H (s.heap.objs.size + 1) (.lst (((xs.zip ds).mergeSort (PySem.W.dataLe false fun b : V × D => toP b.2)).map (·.1))), I.laid (t' := s.toks) (fun _ _ => sortedAll_old) (Nat.le_succ _) ⟨?_, out, n, p1, hn⟩, rfl, q _ _ p2 (I.hok.fresh (Nat.le_succ _))⟩
    rw [List.length_map, List.length_mergeSort, List.length_zip, ll, sizeLine_eq]; unfold cap at k1; omega
/-- sorted(xs): new -/
theorem n_srtOf {es : Es} {e : Expr} {as : List Expr} {x : Str} {p pos : Pos} (hu : X.A.units + 64 < cLine) (hg : Gl X x) (hm : X.mg x = none) (hv : bootBuiltins x = some (.builtin "sorted"))
    (ha : PAv X CT G W CF Φ (e :: as) es) (hn : x ≠ "__name__") (hdb : (x == ("__debug__" : Str)) = false)
    (he : starEach (e :: as) X.env = (false, eval e X.env) :: starEach as X.env) (hpl : (backTo pos (starEach as X.env)).any (·.1) = false) : PE X (.Call (.Name x p) (e :: as) [] pos) (hN CT G W X.K (evE CF Φ (.bi .srt es))) :=
  (pe_callB (cr_srtD (CT := CT)) hg hm hv ha hn hdb he hpl).imp fun σ H Q ⟨S, F, I, h⟩ => by
    simp only [evE] at h
    refine hX_bindN I h fun ds S1 F1 vs H1 I1 e1 r1 h1 => ?_
    cases hd : biD .srt ds with
    | none => rw [hd] at h1; exact False.elim h1
    | some d =>
      rw [hd] at h1
      obtain ⟨_, e3, h3⟩ := h1
      unfold biD at hd
      split at hd <;> first | (rename_i z; cases z; done) | skip
      · split at hd
        · rename_i ok
          cases hd; cases e3
          obtain ⟨v, rfl, h1⟩ := reps1 r1
          simp only [Rep] at h1
          obtain ⟨p, ws, rfl, h2, h4⟩ := h1
          exact ⟨p, ws, _, F1, rfl, I1.sub _ _ h2, I1.sub, h4, ok, hu, fun ys l hy hl => h3 F1 _ _ (Same.refl F1) (I1.laid hl) (newL I1 hl hy)⟩
        · cases hd
      · cases hd
/-! ### isinstance -/
def kdN : Kd → String
  | .non => "NoneType" | .bl => "bool" | .int => "int" | .str => "str" | .tup => "tuple" | .lst => "list" | .dct => "dict"
def tyN : Ty → String
  | .int => "int" | .bool => "bool" | .str => "str" | .tup => "tuple" | .lst => "list" | .dct => "dict"
theorem kit_all (k : Kd) (t : Ty) : kitB (kdN k) (tyN t) = some (isiK k t) := by
  cases k <;> cases t <;> decide +kernel
theorem tyx_of {K : PySem.W.Frag} {F H : Hp} {d : D} {v : V} {k : Kd} (e : Same F H) (r : Rep K CT F d v) (h : kdD d = some k) : TyX K H v (.type (kdN k)) := by
  cases d <;> simp only [kdD] at h <;> first | (cases h; done) | skip
  all_goals (cases h; simp only [Rep] at r)
  · subst r; exact .base .non
  · subst r; exact .base (.bl _)
  · subst r; exact .base (.int _)
  · subst r; exact .base (.str _)
  · obtain ⟨a, vs, rfl, h1, h2⟩ := r
    rcases same_sqT e h1 with (z | ⟨o, z⟩) | ⟨o, its, n, z, c, _⟩
    · exact .base (.tup z)
    · exact .fTuple z
    · exact .kTuple z c
  · obtain ⟨a, vs, rfl, h1, h2⟩ := r
    exact .base (.lst (e _ _ h1))
  · obtain ⟨a, vs, rfl, h1, h2⟩ := r
    exact .base (.dK (e _ _ h1))
theorem kitAny_of {K : PySem.W.Frag} (k : Kd) : ∀ ts : List Ty, PySem.W.kitAny K (.type (kdN k)) (ts.map fun t => .type (tyN t)) = some (ts.any fun t => isiK k t)
  | [] => kitAny_nil
  | t :: ts => by
    rw [List.map_cons, List.any_cons]
    refine kitAny_cons (kit_ty (kit_all k t)) (fun z => ?_) fun z => ?_
    · rw [z, Bool.false_or]; exact kitAny_of k ts
    · rw [z, Bool.true_or]
theorem v_isi1 {a : E} {t : Ty} {ea : Expr} {T : Str} {p p' pos : Pos} (ha : PEv X CT G W CF Φ ea a) (hg : Gl X "isinstance") (hm : X.mg "isinstance" = none) (hgT : Gl X T) (hmT : X.mg T = none) (hvT : bootBuiltins T = some (.type (tyN t))) (hnT : T ≠ "__name__") (hdT : (T == ("__debug__" : Str)) = false)
    (he : starEach [ea, .Name T p'] X.env = (false, eval ea X.env) :: starEach [.Name T p'] X.env) (hpl : (backTo pos (starEach [.Name T p'] X.env)).any (·.1) = false) (hs : starEach [.Name T p'] X.env = (false, eval (.Name T p') X.env) :: starEach [] X.env) :
    PEv X CT G W CF Φ (.Call (.Name "isinstance" p) [ea, .Name T p'] [] pos) (.isi a [t]) :=
  (pe_callB call_isi hg hm (by decide +kernel) (pa_cons ha (pa_cons (pe_bltn (v := .ty (tyN t)) hgT hmT hvT rfl hnT hdT) pa_nil hs) he) (by decide) (by decide) he hpl).imp fun σ H Q ⟨S, F, I, h⟩ => by
    simp only [evE] at h
    refine hX_bind I h fun d S1 F1 v H1 I1 e1 r1 h1 => ?_
    cases hk : kdD d with
    | none => simp only [hk] at h1; exact False.elim h1
    | some k =>
      simp only [hk] at h1
      refine ⟨v, .ty (tyN t), _, _, isiK k t, rfl, .ty _, tyx_of I1.sub r1 hk, kit_ty (kit_all k t), ?_⟩
      refine h1.ok I1 ?_
      simp only [RE, Rep, List.any_cons, List.any_nil, Bool.or_false]
/-- the classes as a written tuple -/
theorem pa_tys : ∀ {ts : List Ty} {es : List Expr}, List.length es = ts.length → (∀ (i : Nat) (t : Ty) (e : Expr), ts[i]? = some t → es[i]? = some e → ∃ T p, e = .Name T p ∧ Gl X T ∧ X.mg T = none ∧ bootBuiltins T = some (.type (tyN t)) ∧ T ≠ "__name__" ∧ (T == ("__debug__" : Str)) = false) →
    PA X es (fun σ H Q => Q (ts.map fun t => .ty (tyN t)) H)
  | [], [], _, _ => pa_nil
  | [], _ :: _, h, _ => by simp at h
  | _ :: _, [], h, _ => by simp at h
  | t :: ts, e :: es, hl, h => by
    obtain ⟨T, p, rfl, h1, h2, h3, h4, h5⟩ := h 0 t e rfl rfl
    have ih := pa_tys (ts := ts) (es := es) (by simpa using hl) (fun i t e a b => h (i + 1) t e (by simpa using a) (by simpa using b))
    exact (pa_cons (pe_bltn (v := .ty (tyN t)) h1 h2 h3 rfl h4 h5) ih rfl)
theorem v_isiT {a : E} {ts : List Ty} {ea : Expr} {es : List Expr} {x1 : Nat} {p p' pos : Pos} (ha : PEv X CT G W CF Φ ea a) (hg : Gl X "isinstance") (hm : X.mg "isinstance" = none)
    (ht : PA X es (fun σ H Q => Q (ts.map fun t => .ty (tyN t)) H)) (hz : ts.length ≤ cap)
    (he : starEach [ea, .Tuple es x1 p'] X.env = (false, eval ea X.env) :: starEach [.Tuple es x1 p'] X.env) (hpl : (backTo pos (starEach [.Tuple es x1 p'] X.env)).any (·.1) = false) :
    PEv X CT G W CF Φ (.Call (.Name "isinstance" p) [ea, .Tuple es x1 p'] [] pos) (.isi a ts) :=
  (pe_callB call_isiT hg hm (by decide +kernel) (pa_cons ha (pa_cons (pe_tup ht) pa_nil rfl) he) (by decide) (by decide) he hpl).imp fun σ H Q ⟨S, F, I, h⟩ => by
    simp only [evE] at h
    refine hX_bind I h fun d S1 F1 v H1 I1 e1 r1 h1 => ?_
    cases hk : kdD d with
    | none => simp only [hk] at h1; exact False.elim h1
    | some k =>
      simp only [hk] at h1
      refine ⟨by simpa using cap_le hz, fun tp htp => ?_⟩
      have I2 := I1.settle (o := .tup (ts.map fun t => V.ty (tyN t))) htp
      have s2 : Same F1 (upd F1 tp (.tup (ts.map fun t => V.ty (tyN t)))) := same_upd (I1.freshF htp)
      have pc : ∀ l : List Ty, Paired ClsV (l.map fun t => V.ty (tyN t)) (l.map fun t => Value.type (tyN t)) := by
        intro l
        induction l with
        | nil => exact .nil
        | cons t l ih => exact .cons (.ty _) ih
      refine ⟨v, tp, _, _, ts.map fun t => .type (tyN t), ts.any fun t => isiK k t, rfl, upd_same, pc ts, tyx_of I2.sub (Rep.mono s2 _ r1) hk, kitAny_of k ts, ?_⟩
      exact (h1.mono s2).ok I2 (by simp only [RE, Rep])
/-! ### fields -/
theorem zip_lookup {K : PySem.W.Frag} {F : Hp} : ∀ {fn : List Str} {ds : List D} {vs : List V} {f : Str} {d : D}, Reps K CT F ds vs → (fn.zip ds).lookup f = some d → ∃ v, (fn.zip vs).lookup f = some v ∧ Rep K CT F d v
  | [], _, _, _, _, _, h => by simp at h
  | _ :: _, [], _, _, _, _, h => by simp at h
  | g :: fn, d₀ :: ds, vs, f, d, r, h => by
    simp only [Reps] at r
    obtain ⟨v, ws, rfl, r1, r2⟩ := r
    simp only [List.zip_cons_cons, List.lookup_cons] at h ⊢
    split at h
    · cases h; exact ⟨v, rfl, r1⟩
    · exact zip_lookup r2 h
theorem v_fld {a : E} {f : Str} {ea : Expr} {pos : Pos} (ha : PEv X CT G W CF Φ ea a) (hb : attributeBase ea f X.env (eval ea X.env) = eval ea X.env)
    (hC : ∀ c C g, c < 500 → CT c = some C → g ∈ CF c → Cls X.K C ∧ NoAttr X.K C g) : PEv X CT G W CF Φ (.Attribute ea f pos) (.fld a f) :=
  (pe_fld ha hb).imp fun σ H Q ⟨S, F, I, h⟩ => by
    simp only [evE] at h
    refine hX_bind I h fun d S1 F1 v H1 I1 e1 r1 h1 => ?_
    split at h1
    · rename_i c fn vs
      split at h1
      · rename_i hf
        obtain ⟨d, hd, h3⟩ := po_ofO h1
        simp only [RE, Rep] at r1
        obtain ⟨p, C, dx, ws, rfl, q1, q2, q3, q4⟩ := r1
        obtain ⟨v, h4, h5⟩ := zip_lookup q4 hd
        obtain ⟨k1, k2⟩ := hC c C f hf.1 q1 hf.2
        exact ⟨p, C, dx, _, v, rfl, I1.sub _ _ q2, k1, k2, h4, h3.ok I1 h5⟩
      · exact False.elim h1
    · exact False.elim h1
theorem v_fldO {i : Nat} {f x : Str} {p pos : Pos} (hN : X.N[i]? = some x) (hv : Vis X.env.scope x) (hd : (x == ("__debug__" : Str)) = false) (hcd : (x == ("__classdict__" : Str)) = false)
    (hC : ∀ c C g, c < 500 → CT c = some C → g ∈ CF c → Cls X.K C ∧ NoAttr X.K C g) : PEv X CT G W CF Φ (.Attribute (.Name x p) f pos) (.fldO i f) :=
  (pe_fld (pe_var hN hv hd hcd) (by rfl)).imp fun σ H Q ⟨S, F, I, h⟩ => by
    simp only [evE] at h
    split at h
    · rename_i fz c fn vs q
      split at h
      · rename_i hf
        obtain ⟨d, hd2, h3⟩ := po_ofO h
        obtain ⟨a, h1, h2, _⟩ := I.own i _ _ q
        obtain ⟨_, C, dx, ws, q0, q1, q2, q3⟩ := h2
        obtain ⟨v, h4, h5⟩ := zip_lookup q3 hd2
        obtain ⟨k1, k2⟩ := hC c C f hf.1 q0 hf.2
        exact ⟨_, h1, a, C, dx, _, v, rfl, q1, k1, k2, h4, h3.ok I h5⟩
      · exact False.elim h
    · exact False.elim h
end

set_option Elab.async false
set_option linter.all false
set_option maxRecDepth 100000
set_option maxHeartbeats 4000000
open PySem PySem.Spec PyProof.Rows L2

section
variable (K : PySem.W.Frag) (CT : Nat → Option Addr) (T : List Addr)
/-- behind a call: what was settled stays, what was there and not handed over stays -/
structure Aft (io : Option Addr) (F H F' H' : Hp) : Prop where
  sF : Same F F'
  sub : Same F' H'
  new : ∀ b, F b = none → H b ≠ none → F' b = none
  keep : ∀ b o, H b = some o → io ≠ some b → b ∉ T → H' b = some o
  tab : ∀ P ∈ T, TabV H' P
/-- a new list is handed back -/
def NewL (H F' H' : Hp) (xs : List D) (v : V) : Prop := ∃ a vs, v = .ref a ∧ H a = none ∧ F' a = none ∧ H' a = some (.lst vs) ∧ Reps K CT F' xs vs
def FinF (io : Option Addr) (r : FRes) (F H : Hp) (Q : VK) (E : XK) : Prop :=
  match io, r with
  | none, .ret d none => ∀ F' v H', Aft T none F H F' H' → Rep K CT F' d v → Q v H'
  | none, .retN xs => ∀ F' v H', Aft T none F H F' H' → NewL K CT H F' H' xs v → Q v H'
  | some a, .ret d (some o) => ∀ F' v H', Aft T (some a) F H F' H' → Own K CT F' H' a o → Rep K CT F' d v → Q v H'
  | none, .exc cn fn ws none => ∀ F' H' cls dx, Aft T none F H F' H' → ExcR K CT F' H' cn fn ws cls dx → E cls dx H'
  | some a, .exc cn fn ws (some o) => ∀ F' H' cls dx, Aft T (some a) F H F' H' → Own K CT F' H' a o → ExcR K CT F' H' cn fn ws cls dx → E cls dx H'
  | _, _ => False
/-- a def's promise: it does what φ says of the trees -/
def spF (φ : Option OC → List D → FRes) (io : Bool) (np : Nat) : Sp := fun vs H Q E =>
  vs.length = np ∧ ∃ F ds, Same F H ∧ (∀ P ∈ T, TabV H P ∧ F P = none) ∧
    ((io = false ∧ Reps K CT F ds vs ∧ FinF K CT T none (φ none ds) F H Q E) ∨
     (io = true ∧ ∃ a o ws, vs = .ref a :: ws ∧ Own K CT F H a o ∧ Reps K CT F ds ws ∧ FinF K CT T (some a) (φ (some o) ds) F H Q E))
end
section
variable {K : PySem.W.Frag} {CT : Nat → Option Addr} {G : Gh} {S : List SD} {F F' H H' : Hp} {σ : L2.St}
theorem aft_T {io : Option Addr} (I : SR K CT G S F σ H) (A : Aft G.T io F H F' H') {P : Addr} (t : P ∈ G.T) : F' P = none :=
  A.new P (I.tabF P t) (by obtain ⟨ps, h1, _⟩ := I.tab P t; rw [h1]; simp)
theorem SR.aft (I : SR K CT G S F σ H) (A : Aft G.T none F H F' H') : SR K CT G S F' σ H' where
  len := I.len
  sub := A.sub
  val := fun i d h => by
    obtain ⟨v, h1, h2⟩ := I.val i d h
    exact ⟨v, h1, Rep.mono A.sF d h2⟩
  own := fun i fz o h => by
    obtain ⟨a, h1, h2, h3⟩ := I.own i fz o h
    obtain ⟨u, hu⟩ := Option.ne_none_iff_exists'.mp h2.tracked
    exact ⟨a, h1, h2.mono A.sF (A.new a h2.1 h2.tracked) (by rw [A.keep a u hu (by simp) (I.notab h2), hu]), h3⟩
  inj := I.inj
  keep := fun b o e n t => A.keep b o (I.keep b o e n t) (by simp) t
  iot := fun a e => by
    by_cases t : a ∈ G.T
    · obtain ⟨ps, h1, _⟩ := A.tab a t; rw [h1]; simp
    · obtain ⟨u, hu⟩ := Option.ne_none_iff_exists'.mp (I.iot a e)
      rw [A.keep a u hu (by simp) t]; simp
  tab := A.tab
  tabF := fun P t => aft_T I A t
  frz := fun b h1 h2 => A.new b (I.frz b h1 h2) (I.H0t h2)
  F0 := I.F0.trans A.sF
/-- .. where the thing at a, of no slot and new, may have changed -/
theorem SR.aftN {a : Addr} (I : SR K CT G S F σ H) (A : Aft G.T (some a) F H F' H') (h0 : G.H0 a = none) (hio : G.io ≠ some a)
    (no : ∀ (i : Nat) (fz : Bool) (oc : OC), S[i]? = some (SD.own fz oc) → σ[i]? ≠ some (some (V.ref a))) : SR K CT G S F' σ H' where
  len := I.len
  sub := A.sub
  val := fun i d h => by
    obtain ⟨v, h1, h2⟩ := I.val i d h
    exact ⟨v, h1, Rep.mono A.sF d h2⟩
  own := fun i fz o h => by
    obtain ⟨b, h1, h2, h3⟩ := I.own i fz o h
    obtain ⟨u, hu⟩ := Option.ne_none_iff_exists'.mp h2.tracked
    have ne : some a ≠ some b := fun z => by cases z; exact no i fz o h h1
    exact ⟨b, h1, h2.mono A.sF (A.new b h2.1 h2.tracked) (by rw [A.keep b u hu ne (I.notab h2), hu]), h3⟩
  inj := I.inj
  keep := fun b o e n t => A.keep b o (I.keep b o e n t) (fun z => by cases z; rw [h0] at e; cases e) t
  iot := fun b e => by
    by_cases t : b ∈ G.T
    · obtain ⟨ps, h1, _⟩ := A.tab b t; rw [h1]; simp
    · obtain ⟨u, hu⟩ := Option.ne_none_iff_exists'.mp (I.iot b e)
      rw [A.keep b u hu (fun z => by cases z; exact hio e) t]; simp
  tab := A.tab
  tabF := fun P t => aft_T I A t
  frz := fun b h1 h2 => A.new b (I.frz b h1 h2) (I.H0t h2)
  F0 := I.F0.trans A.sF
/-- .. where the thing in slot i has changed -/
theorem SR.aftO {a : Addr} {i : Nat} {fz : Bool} {o o' : OC} (I : SR K CT G S F σ H) (hs : S[i]? = some (SD.own fz o)) (ha : σ[i]? = some (some (V.ref a)))
    (A : Aft G.T (some a) F H F' H') (r : Own K CT F' H' a o') : SR K CT G (S.set i (.own fz o')) F' σ H' where
  len := by rw [List.length_set]; exact I.len
  sub := A.sub
  val := fun j d h => by
    rcases set_own h with ⟨_, z, _⟩ | ⟨_, q⟩
    · cases z
    · obtain ⟨v, h1, h2⟩ := I.val j d q
      exact ⟨v, h1, Rep.mono A.sF d h2⟩
  own := fun j fz' oc h => by
    obtain ⟨a', g1, g2, g3⟩ := I.own i fz o hs
    rw [ha] at g1; cases g1
    rcases set_own h with ⟨z, e, _⟩ | ⟨z, q⟩
    · subst z; cases e
      exact ⟨a, ha, r, g3⟩
    · obtain ⟨b, h1, h2, h3⟩ := I.own j fz' oc q
      have ne : a ≠ b := fun e => by subst e; exact z (I.inj i j a fz o fz' oc hs q ha h1)
      obtain ⟨u, hu⟩ := Option.ne_none_iff_exists'.mp h2.tracked
      exact ⟨b, h1, h2.mono A.sF (A.new b h2.1 h2.tracked) (by rw [A.keep b u hu (fun e => ne (Option.some.inj e)) (I.notab h2), hu]), h3⟩
  inj := fun j l b f1 o1 f2 o2 q1 q2 q3 q4 => by
    have c : ∀ (m : Nat) (f : Bool) (u : OC), (S.set i (SD.own fz o'))[m]? = some (SD.own f u) → ∃ (f : Bool) (u : OC), S[m]? = some (SD.own f u) := fun m f u h => by
      rcases set_own h with ⟨z, e, _⟩ | ⟨_, q⟩
      · subst z; exact ⟨_, _, hs⟩
      · exact ⟨_, _, q⟩
    obtain ⟨_, _, w1⟩ := c j f1 o1 q1
    obtain ⟨_, _, w2⟩ := c l f2 o2 q2
    exact I.inj j l b _ _ _ _ w1 w2 q3 q4
  keep := fun b u e n t => by
    obtain ⟨a', g1, g2, g3, g4⟩ := I.own i fz o hs
    rw [ha] at g1; cases g1
    have hb : some a ≠ some b := fun z => by
      cases z
      cases fz with
      | true => rw [g3 rfl] at e; cases e
      | false => exact n (g4 rfl)
    exact A.keep b u (I.keep b u e n t) hb t
  iot := fun b e => by
    by_cases t : b ∈ G.T
    · obtain ⟨ps, h1, _⟩ := A.tab b t; rw [h1]; simp
    · by_cases z : a = b
      · subst z; exact r.tracked
      · obtain ⟨u, hu⟩ := Option.ne_none_iff_exists'.mp (I.iot b e)
        rw [A.keep b u hu (fun e => z (Option.some.inj e)) t]; simp
  tab := A.tab
  tabF := fun P t => aft_T I A t
  frz := fun b h1 h2 => A.new b (I.frz b h1 h2) (I.H0t h2)
  F0 := I.F0.trans A.sF
end

/-! ### calls -/
def eslen : Es → Nat
  | .nil => 0
  | .cons _ r => eslen r + 1
theorem evEs_len {CF : Nat → List Str} {Φ : Nat → Option OC → List D → FRes} : ∀ {es : Es} {S S' : List SD} {ds : List D}, evEs CF Φ es S = .ok ds S' → ds.length = eslen es
  | .nil, S, S', ds, h => by simp only [evEs] at h; cases h; rfl
  | .cons e r, S, S', ds, h => by
    simp only [evEs] at h
    obtain ⟨x, S1, _, h⟩ := bind_ok h
    obtain ⟨y, S2, h2, h⟩ := bind_ok h
    cases h
    rw [List.length_cons, evEs_len h2]; rfl
section
variable {X : Cx} {CT : Nat → Option Addr} {G : Gh} {W : WX} {CF : Nat → List Str} {Φ : Nat → Option OC → List D → FRes}
/-- hX_bind with the evaluation in hand -/
theorem hX_bind' {K : PySem.W.Frag} {S : List SD} {F H : Hp} {σ : L2.St} {α β γ δ : Type} {R : Hp → α → β → Prop} {R' : Hp → γ → δ → Prop} {ev : List SD → Res α} {k : α → List SD → Res γ} {Q : β → Hp → Prop} {Q' : δ → Hp → Prop} (I : SR K CT G S F σ H)
    (h : Po K CT G W R' ((ev S).bind k) F σ Q') (c : ∀ a S' F' b H', ev S = .ok a S' → SR K CT G S' F' σ H' → Same F F' → R F' a b → Po K CT G W R' (k a S') F' σ Q' → Q b H') : hX K CT G W R ev σ H Q := by
  refine ⟨S, F, I, ?_⟩
  cases e : ev S with
  | ok a S' =>
    rw [e] at h
    exact fun F' b H' e' I' r => c a S' F' b H' e I' e' r (h.mono e')
  | exc cn fn vs S' => rw [e] at h; exact h
  | stuck => rw [e] at h; exact h
/-- the facts of a def -/
structure FnF (X : Cx) (CT : Nat → Option Addr) (T : List Addr) (k : Nat) (φ : Option OC → List D → FRes) (io : Bool) (np : Nat) (fa : Addr) (fd : FuncData) (ps : List Str) : Prop where
  kp : PySem.W.keepIn X.K (.ref fa) = true
  bd : Binds X.K fd ps []
  ok : FnOk X.prog X.w X.K X.mg X.base (L2.CX X.prog X.w) k fa fd ps (spF X.K CT T φ io np)
theorem tabs_of {K : PySem.W.Frag} {S : List SD} {F H : Hp} {σ : L2.St} (I : SR K CT G S F σ H) : ∀ P ∈ G.T, TabV H P ∧ F P = none := fun P t => ⟨I.tab P t, I.tabF P t⟩
theorem SR.newNo {K : PySem.W.Frag} {S : List SD} {F H : Hp} {σ : L2.St} (I : SR K CT G S F σ H) {a : Addr} (h0 : H a = none) : ∀ (i : Nat) (fz : Bool) (oc : OC), S[i]? = some (SD.own fz oc) → σ[i]? ≠ some (some (V.ref a)) := fun i fz oc h z => by
  obtain ⟨b, g1, g2, _⟩ := I.own i fz oc h
  rw [z] at g1; cases g1
  exact g2.tracked h0
/-- what is wanted behind a call without a changed argument, from the caller's side -/
theorem fin_call {K : PySem.W.Frag} {S : List SD} {F H : Hp} {σ : L2.St} {Q : VK} {r : FRes} (I : SR K CT G S F σ H) (h : Po K CT G W (RE K CT) (ofF r S) F σ Q) : FinF K CT G.T none r F H Q (fun cls d H' => W cls d σ H') := by
  cases r with
  | stuck => exact h
  | ret d o => cases o with
    | none => exact fun F' v H' A r => h F' v H' A.sF (I.aft A) r
    | some o => exact h
  | retN xs =>
    intro F' v H' A ⟨a, vs, e, h0, h1, h2, h3⟩
    subst e
    refine h (upd F' a (.lst vs)) (.ref a) H' (A.sF.trans (same_upd h1)) ((I.aft A).settle' h1 (I.fresh h0) h2 (I.tabNe h0) (I.newNo h0)) ?_
    simp only [RE, Rep]
    exact ⟨a, vs, rfl, upd_same, h3.mono (same_upd h1) xs⟩
  | exc cn fn ws o => cases o with
    | none => exact fun F' H' cls dx A x => h F' H' cls dx A.sF (I.aft A) x
    | some o => exact h
theorem fin_callO {K : PySem.W.Frag} {S : List SD} {F H : Hp} {σ : L2.St} {Q : VK} {r : FRes} {a : Addr} {i : Nat} {fz : Bool} {o : OC} (I : SR K CT G S F σ H) (hs : S[i]? = some (SD.own fz o)) (ha : σ[i]? = some (some (V.ref a)))
    (h : Po K CT G W (RE K CT) (ofFO r i fz S) F σ Q) : FinF K CT G.T (some a) r F H Q (fun cls d H' => W cls d σ H') := by
  cases r with
  | stuck => exact h
  | ret d o => cases o with
    | some o => exact fun F' v H' A ow r => h F' v H' A.sF (I.aftO hs ha A ow) r
    | none => exact h
  | retN xs => exact h
  | exc cn fn ws o => cases o with
    | some o => exact fun F' H' cls dx A ow x => h F' H' cls dx A.sF (I.aftO hs ha A ow) x
    | none => exact h
theorem v_call {f : Nat} {es : Es} {e : Expr} {as : List Expr} {x : Str} {p pos : Pos} {k np : Nat} {fa : Addr} {fd : FuncData} {ps : List Str} (FF : FnF X CT G.T k (Φ f) false np fa fd ps) (hr : Room k X.A) (tk : Takes X W) (hg : Gl X x) (hm : X.mg x = some (.ref fa))
    (hn : eslen es = np) (ha : PAv X CT G W CF Φ (e :: as) es) (hdb : (x == ("__debug__" : Str)) = false) (he : starEach (e :: as) X.env = (false, eval e X.env) :: starEach as X.env) (hpl : (backTo pos (starEach as X.env)).any (·.1) = false) :
    PEv X CT G W CF Φ (.Call (.Name x p) (e :: as) [] pos) (.call f es) :=
  (pe_callSD FF.ok hr hg hm FF.kp FF.bd .nil (fun σ => passAt tk σ) ha hdb he hpl).imp fun σ H Q ⟨S, F, I, h⟩ => by
    simp only [evE] at h
    refine hX_bind' I h fun ds S1 F1 vs H1 ev I1 e1 r1 h1 => ?_
    refine ⟨by rw [List.append_nil, ← r1.length, evEs_len ev, hn], F1, ds, I1.sub, tabs_of I1, .inl ⟨rfl, by rw [List.append_nil]; exact r1, ?_⟩⟩
    exact fin_call I1 h1
theorem v_call0 {f : Nat} {x : Str} {p pos : Pos} {k : Nat} {fa : Addr} {fd : FuncData} {ps : List Str} (FF : FnF X CT G.T k (Φ f) false 0 fa fd ps) (hr : Room k X.A) (tk : Takes X W) (hg : Gl X x) (hm : X.mg x = some (.ref fa)) (hdb : (x == ("__debug__" : Str)) = false) :
    PEv X CT G W CF Φ (.Call (.Name x p) [] [] pos) (.call f .nil) := by
  refine ⟨fun pins s σ H Q I0 ⟨S, F, I, h⟩ => ?_⟩
  refine wpAny_Call_Name_kw (ld_glob I0 hg hm ?_ hdb)
  refine PySem.W.callWith_K0 I0.kIn FF.kp (run_fnSD (us := []) (vs := []) (dvs := []) (E := fun σ => WE W σ) FF.ok hr FF.bd .nil (passAt tk σ) I0 .nil ?_)
  simp only [evE, evEs, Res.bind] at h
  exact ⟨rfl, F, [], I.sub, tabs_of I, .inl ⟨rfl, Reps.nil, fin_call I h⟩⟩
/-- a call of what a slot holds -/
theorem v_callV {i : Nat} {es : Es} {e : Expr} {as : List Expr} {x : Str} {p pos : Pos} {k : Nat} (hr : Room k X.A) (tk : Takes X W) (hN : X.N[i]? = some x) (hv : Vis X.env.scope x) (hd : (x == ("__debug__" : Str)) = false) (hcd : (x == ("__classdict__" : Str)) = false)
    (ha : PAv X CT G W CF Φ (e :: as) es) (he : starEach (e :: as) X.env = (false, eval e X.env) :: starEach as X.env) (hpl : (backTo pos (starEach as X.env)).any (·.1) = false)
    (kp : ∀ c a, 1000 ≤ c → CT c = some a → PySem.W.keepIn X.K (.ref a) = true)
    (FV : ∀ c a, 1000 ≤ c → CT c = some a → ∀ ds, Φ (c - 1000) none ds ≠ .stuck → ∃ np fd ps, np = ds.length ∧ FnF X CT G.T k (Φ (c - 1000)) false np a fd ps) : PEv X CT G W CF Φ (.Call (.Name x p) (e :: as) [] pos) (.callV i es) := by
  refine ⟨fun pins s σ H Q I0 ⟨S, F, I, h⟩ => ?_⟩
  simp only [evE] at h
  split at h
  · rename_i c q
    split at h
    · rename_i hc
      obtain ⟨v, g1, g2⟩ := I.val i _ q
      simp only [Rep] at g2
      obtain ⟨a, rfl, g3⟩ := g2
      refine wpAny_Call_Name_kw (thn ((pe_var hN hv hd hcd).run pins s σ H (fun v H' => v = .ref a ∧ H' = H) I0 ⟨_, g1, rfl, rfl⟩) fun u s1 hh => ?_)
      obtain ⟨v, H1, I1, rv, rfl, rfl⟩ := hh
      obtain rfl : u = Value.ref a := rv
      refine PySem.W.callWith_K (h₀ := X.base) (first := []) I1.ok.mod.kin (kp c a hc g3) (thn (ha.run pos pins s1 σ H1 (fun vs2 H2 => ∃ np fd ps, FnF X CT G.T k (Φ (c - 1000)) false np a fd ps ∧ spF X.K CT G.T (Φ (c - 1000)) false np (vs2 ++ []) H2 Q (WE W σ)) I1 (hX_bind' I h fun ds S1 F1 vs H2 ev I2 e2 r2 h2 => ?_)) fun us s2 ⟨vs2, H2, J2, rr, np, fd, ps, FF, q⟩ => ⟨J2.kIn, ?_⟩) he hpl
      · have ns : Φ (c - 1000) none ds ≠ .stuck := fun z => by rw [z] at h2; exact h2
        obtain ⟨np, fd, ps, en, FF⟩ := FV c a hc g3 ds ns
        exact ⟨np, fd, ps, FF, by rw [List.append_nil, ← r2.length, en], F1, ds, I2.sub, tabs_of I2, .inl ⟨rfl, by rw [List.append_nil]; exact r2, fin_call I2 h2⟩⟩
      · exact run_fnSD (us := us) (vs := vs2) (dvs := []) (E := fun σ => WE W σ) FF.ok hr FF.bd .nil (passAt tk σ) J2 rr q
    · exact False.elim h
  · exact False.elim h
theorem v_callO {f i : Nat} {es : Es} {as : List Expr} {x y : Str} {p p' pos : Pos} {k np : Nat} {fa : Addr} {fd : FuncData} {ps : List Str} (FF : FnF X CT G.T k (Φ f) true np fa fd ps) (hr : Room k X.A) (tk : Takes X W) (hg : Gl X x) (hm : X.mg x = some (.ref fa))
    (hn : eslen es + 1 = np) (hN : X.N[i]? = some y) (hv : Vis X.env.scope y) (hd : (y == ("__debug__" : Str)) = false) (hcd : (y == ("__classdict__" : Str)) = false) (ha : PAv X CT G W CF Φ as es) (hdb : (x == ("__debug__" : Str)) = false)
    (he : starEach (.Name y p' :: as) X.env = (false, eval (.Name y p') X.env) :: starEach as X.env) (hpl : (backTo pos (starEach as X.env)).any (·.1) = false) :
    PEv X CT G W CF Φ (.Call (.Name x p) (.Name y p' :: as) [] pos) (.callO f i es) :=
  (pe_callSD FF.ok hr hg hm FF.kp FF.bd .nil (fun σ => passAt tk σ) (pa_cons (pe_var hN hv hd hcd) ha he) hdb he hpl).imp fun σ H Q ⟨S, F, I, h⟩ => by
    simp only [evE] at h
    split at h
    · rename_i hs
      obtain ⟨v0, hv0⟩ := peek_some I hs
      refine ⟨v0, hv0, ?_⟩
      refine hX_bind' I h fun ds S1 F1 vs H1 ev I1 e1 r1 h1 => ?_
      split at h1
      · rename_i fz o q
        obtain ⟨a, g1, g2, g3⟩ := I1.own i fz o q
        rw [hv0] at g1; cases g1
        refine ⟨by rw [List.append_nil, List.length_cons, ← r1.length, evEs_len ev, hn], F1, ds, I1.sub, tabs_of I1, .inr ⟨rfl, a, o, vs, by rw [List.append_nil], g2, r1, ?_⟩⟩
        exact fin_callO I1 q hv0 h1
      · exact False.elim h1
    · exact False.elim h
/-! ### methods of a settled instance -/
theorem zip_none : ∀ {fn : List Str} {vs : List V} {m : Str}, m ∉ fn → (fn.zip vs).lookup m = none
  | [], _, _, _ => by simp
  | _ :: _, [], _, _ => by simp
  | g :: fn, v :: vs, m, h => by
    simp only [List.mem_cons, not_or] at h
    rw [List.zip_cons_cons, List.lookup_cons]
    have : (m == g) = false := by simpa using h.1
    rw [this]
    exact zip_none h.2
theorem v_mth {cn f : Nat} {m : Str} {a : E} {es : Es} {eo e : Expr} {as : List Expr} {apos pos : Pos} {k np : Nat} {C fa : Addr} {fd : FuncData} {ps : List Str} {pl : Sem Bool} (FF : FnF X CT G.T k (Φ f) false np fa fd ps) (hr : Room k X.A) (hC : CT cn = some C) (c : Cls X.K C) (hm : Meth X.K C m fa)
    (hn : eslen es + 1 = np) (ho : PEv X CT G W CF Φ eo a) (ha : PAv X CT G W CF Φ (e :: as) es) (tk : Takes X W)
    (he : starEach (e :: as) X.env = (false, eval e X.env) :: starEach as X.env) (hpl : (backTo pos (starEach as X.env)).any (·.1) = false)
    (ht : eval (.Call (.Attribute eo m apos) (e :: as) [] pos) X.env = (do
      let ov ← eval eo X.env
      standAt apos.atName
      let (f, first) ← holding [ov] (getMethod ov m pl)
      callWith pos f first (backTo pos (starEach (e :: as) X.env)) (backToKw pos (keywordEach [] X.env)))) : PEv X CT G W CF Φ (.Call (.Attribute eo m apos) (e :: as) [] pos) (.mth cn f m a es) := by
  refine ⟨fun pins s σ H Q I0 ⟨S, F, I, h⟩ => ?_⟩
  simp only [evE] at h
  refine PySem.W.methodCall_KW (pl := pl) (thn (ho.run pins s σ H (fun v H' => ∃ d S1 F1, SR X.K CT G S1 F1 σ H' ∧ Rep X.K CT F1 d v ∧ Po X.K CT G W (RE X.K CT) (match d with
      | .obj c fn vs => if c = cn ∧ m ∉ fn then (evEs CF Φ es S1).bind fun ds S2 => ofF (Φ f none (.obj c fn vs :: ds)) S2 else .stuck
      | _ => .stuck) F1 σ Q) I0 (hX_bind I h fun d S1 F1 v H1 I1 e1 r1 h1 => ⟨d, S1, F1, I1, r1, h1⟩)) fun u s1 ⟨v, H1, J1, rv, d, S1, F1, I1, r1, h1⟩ => ?_) ht
  split at h1
  · rename_i c' fn vs
    split at h1
    · rename_i hcm
      obtain ⟨rfl, hfn⟩ := hcm
      have r0 := r1
      simp only [Rep] at r1
      obtain ⟨p, C', dx, ws, rfl, q1, q2, q3, q4⟩ := r1
      rw [hC] at q1; cases q1
      obtain rfl : u = Value.ref p := rv
      refine getmeth_ok J1 (I1.sub _ _ q2) c hm (zip_none hfn) ?_
      refine PySem.W.callWith_K (first := [.ref p]) (h₀ := X.base) J1.ok.mod.kin hm.kp (thn (ha.run pos pins s1 σ H1 (fun vs2 H2 => spF X.K CT G.T (Φ f) false np (V.ref p :: vs2 ++ []) H2 Q (WE W σ)) J1 (hX_bind' I1 h1 fun ds S2 F2 us H2 ev I2 e2 r2 h2 => ?_)) fun us s2 ⟨vs2, H2, J2, rr, q⟩ => ⟨J2.kIn, ?_⟩) he hpl
      · refine ⟨?_, F2, .obj c' fn vs :: ds, I2.sub, tabs_of I2, .inl ⟨rfl, ?_, fin_call I2 h2⟩⟩
        · rw [List.append_nil, List.length_cons, ← r2.length, evEs_len ev, hn]
        · rw [List.append_nil]; exact Reps.cons (Rep.mono e2 _ r0) r2
      · exact run_fnSD (us := .ref p :: us) (vs := .ref p :: vs2) (dvs := []) (E := fun σ => WE W σ) FF.ok hr FF.bd .nil (passAt tk σ) J2 (.cons rfl rr) q
    · exact False.elim h1
  · exact False.elim h1
/-! ### a new instance -/
theorem v_mk {cn f : Nat} {es : Es} {e : Expr} {as : List Expr} {x : Str} {p pos : Pos} {k np : Nat} {C fa : Addr} {fd : FuncData} {ps : List Str} (M : Mk X.K C fa) (FF : FnF X CT G.T k (Φ f) true np fa fd ps) (hr : Room (k + 1) X.A) (hC : CT cn = some C) (tk : Takes X W) (hg : Gl X x) (hm : X.mg x = some (.ref C))
    (hn : eslen es + 1 = np) (ha : PAv X CT G W CF Φ (e :: as) es) (hdb : (x == ("__debug__" : Str)) = false) (he : starEach (e :: as) X.env = (false, eval e X.env) :: starEach as X.env) (hpl : (backTo pos (starEach as X.env)).any (·.1) = false) :
    PEv X CT G W CF Φ (.Call (.Name x p) (e :: as) [] pos) (.mk cn f es) := by
  refine ⟨fun pins s σ H Q I0 ⟨S, F, I, h⟩ => ?_⟩
  simp only [evE] at h
  refine wpAny_Call_Name_kw (ld_glob I0 hg hm ?_ hdb)
  refine PySem.W.callWith_K (h₀ := X.base) I0.ok.mod.kin M.kp (thn (ha.run pos pins s σ H (fun vs H1 => ∃ ds S1 F1, ds.length = eslen es ∧ SR X.K CT G S1 F1 σ H1 ∧ Reps X.K CT F1 ds vs ∧ Po X.K CT G W (RE X.K CT) (match Φ f (some (.ins cn [] [])) ds with
      | .ret .non (some (.ins c fn vs)) => .ok (.obj c fn vs) S1
      | .exc c fn vs (some _) => .exc c fn vs S1
      | _ => .stuck) F1 σ Q) I0 (hX_bind' I h fun ds S1 F1 vs H1 ev I1 e1 r1 h1 => ⟨ds, S1, F1, evEs_len ev, I1, r1, h1⟩)) fun us s1 ⟨vs, H1, J1, rr, ds, S1, F1, hl, I1, r1, h1⟩ => ⟨J1.kIn, ?_⟩) he hpl
  have fx : H1 (s1.heap.objs.size + 1) = none := J1.hok.fresh (Nat.le_succ _)
  have fd2 : H1 s1.heap.objs.size = none := J1.hok.fresh (Nat.le_refl _)
  have nd : s1.heap.objs.size ≠ s1.heap.objs.size + 1 := Nat.ne_of_lt (Nat.lt_succ_self _)
  have J2 := Inv.made (C := C) J1
  have Ia : SR X.K CT G S1 F1 σ (upd (upd H1 s1.heap.objs.size (.own (s1.heap.objs.size + 1))) (s1.heap.objs.size + 1) (.ins C s1.heap.objs.size [])) :=
    (I1.laid (o := .own (s1.heap.objs.size + 1)) fd2).laid (by rw [upd_ne nd.symm]; exact fx)
  have hsp : spF X.K CT G.T (Φ f) true np (.ref (s1.heap.objs.size + 1) :: (vs ++ [])) (upd (upd H1 s1.heap.objs.size (.own (s1.heap.objs.size + 1))) (s1.heap.objs.size + 1) (.ins C s1.heap.objs.size [])) (fun v H2 => v = .non ∧ Q (.ref (s1.heap.objs.size + 1)) H2) (WE W σ) := by
    refine ⟨by rw [List.append_nil, List.length_cons, ← r1.length, hl, hn], F1, ds, Ia.sub, tabs_of Ia, .inr ⟨rfl, _, .ins cn [] [], vs, by rw [List.append_nil], ⟨I1.freshF fx, C, _, [], hC, upd_same, rfl, Reps.nil⟩, r1, ?_⟩⟩
    have h0 : G.H0 (s1.heap.objs.size + 1) = none := I1.fresh fx
    have hio : G.io ≠ some (s1.heap.objs.size + 1) := fun z => I1.iot _ z fx
    have no : ∀ (i : Nat) (fz : Bool) (oc : OC), S1[i]? = some (SD.own fz oc) → σ[i]? ≠ some (some (V.ref (s1.heap.objs.size + 1))) := fun i fz oc h z => by
      obtain ⟨a, g1, g2, _⟩ := I1.own i fz oc h
      rw [z] at g1; cases g1
      exact g2.tracked fx
    generalize Φ f (some (.ins cn [] [])) ds = r at h1 ⊢
    cases r with
    | stuck => exact h1
    | retN xs => exact h1
    | exc c fn ws o => cases o with
      | none => exact h1
      | some o => exact fun F' H' cls dx A ow x => h1 F' H' cls dx A.sF (Ia.aftN A h0 hio no) x
    | ret d o => cases o with
      | none => cases d <;> exact h1
      | some o =>
        cases d <;> first | exact False.elim h1 | skip
        cases o with
        | lst xs => exact False.elim h1
        | ins c fn ws =>
          intro F' v H' A ow r
          simp only [Rep] at r
          refine ⟨r, ?_⟩
          have I3 := Ia.aftN A h0 hio no
          have hnT := I3.notab ow
          obtain ⟨o1, C', dx', us', k1, k2, k3, k4⟩ := ow
          refine h1 (upd F' (s1.heap.objs.size + 1) (.ins C' dx' (fn.zip us'))) _ H' (A.sF.trans (same_upd o1)) (I3.settle' o1 h0 k2 hnT no) ?_
          simp only [RE, Rep]
          exact ⟨_, C', dx', us', rfl, k1, upd_same, k3, k4.mono (same_upd o1) _⟩
  have r2 : Vals (V.ref (s1.heap.objs.size + 1) :: (vs ++ [])) (Value.ref (s1.heap.objs.size + 1) :: (us ++ [])) := .cons rfl (by rw [List.append_nil, List.append_nil]; exact rr)
  have hlen : (Value.ref (s1.heap.objs.size + 1) :: us ++ []).length = ps.length := by
    have e := r2.length
    rw [FF.ok.len _ _ _ _ hsp] at e
    exact e.symm
  refine wpAny_call (make_map (f := fa) J1.kIn M.makes M.init (beq_iff_eq.mp M.fn) (codeAny_mono (FF.ok.run _ X.stack _ _ ⟨Value.ref (s1.heap.objs.size + 1) :: us, []⟩ (Value.ref (s1.heap.objs.size + 1) :: (us ++ [])) _ _ (WE W σ) (hr.make C us [])
    (J2.env0.make C us []) (by simpa only [List.cons_append] using FF.bd { s1 with heap := (s1.heap.push PySem.W.emptyDict).push (PySem.W.instObj C s1.heap.objs.size) } (Value.ref (s1.heap.objs.size + 1) :: us) J2.kIn hlen) r2 hsp) fun r s' hq' => ?_))
  cases r with
  | error e => exact passAt tk σ pins _ _ e s' J2 hq'
  | ok fl =>
    cases fl with
    | ret u =>
      obtain ⟨v, H', J3, rv, ev, q3⟩ := J2.after hq'
      subst ev
      exact ⟨rv, ⟨V.ref (s1.heap.objs.size + 1), H', J3, rfl, q3⟩⟩
    | next => exact False.elim hq'
    | brk => exact False.elim hq'
    | cont => exact False.elim hq'
end

set_option Elab.async false
set_option linter.all false
set_option maxRecDepth 100000
set_option maxHeartbeats 4000000
open PySem PySem.Spec PyProof.Rows L2

theorem _root_.L2.PI.imp {X : Cx} {tg e : Expr} {t t' : TI} (h : PI X tg e t) (i : ∀ σ H R, t' σ H R → t σ H R) : PI X tg e t' := ⟨fun pins s σ H R I q => h.run pins s σ H R I (i σ H R q)⟩
theorem pi_or2 {X : Cx} {tg e : Expr} {t u : TI} (h : PI X tg e t) (h' : PI X tg e u) : PI X tg e (fun σ H R => t σ H R ∨ u σ H R) := ⟨fun pins s σ H R I q => q.elim (h.run pins s σ H R I) (h'.run pins s σ H R I)⟩
section
variable (K : PySem.W.Frag) (CT : Nat → Option Addr)
/-- the iterator J hands out the trees xs, whatever is laid meanwhile -/
def Wlk (J : It) (xs : List D) (F : Hp) : Prop :=
  ∀ F1 H1, Same F F1 → Same F1 H1 → ∀ i, (i = xs.length → J.stop i H1) ∧ ∀ d, xs[i]? = some d → J.go i H1 ∧ ∀ x H2, J.yld i H1 x H2 →
    (H2 = H1 ∧ Rep K CT F1 d x) ∨ ∃ p u, H1 p = none ∧ H2 = upd H1 p u ∧ x = .ref p ∧ Rep K CT (upd F1 p u) d x
end
section
variable {K : PySem.W.Frag} {CT : Nat → Option Addr} {F : Hp}
theorem wlk_list {a : Addr} {xs : List D} {vs : List V} (h : SqL K F a vs) (r : Reps K CT F xs vs) : Wlk K CT (Itl K a) xs F := fun F1 H1 e1 e2 i => by
  have hs : SqL K H1 a vs := (e1.trans e2).seq h
  refine ⟨fun hi => ⟨vs, hs, by rw [← r.length, hi]; exact Nat.le_refl _⟩, fun d hd => ?_⟩
  obtain ⟨v, hv, rv⟩ := r.get hd
  refine ⟨⟨vs, v, hs, hv⟩, fun x H2 y => .inl ?_⟩
  obtain ⟨rfl, y⟩ := y
  have := y vs hs
  rw [hv] at this; cases this
  exact ⟨rfl, Rep.mono e1 d rv⟩
theorem wlk_tup {a : Addr} {xs : List D} {vs : List V} (h : SqT K F a vs) (r : Reps K CT F xs vs) : Wlk K CT (Itt K a) xs F := fun F1 H1 e1 e2 i => by
  have hs : SqT K H1 a vs := same_sqT (e1.trans e2) h
  refine ⟨fun hi => ⟨vs, hs, by rw [← r.length, hi]; exact Nat.le_refl _⟩, fun d hd => ?_⟩
  obtain ⟨v, hv, rv⟩ := r.get hd
  refine ⟨⟨vs, v, hs, hv⟩, fun x H2 y => .inl ?_⟩
  obtain ⟨rfl, y⟩ := y
  have := y vs hs
  rw [hv] at this; cases this
  exact ⟨rfl, Rep.mono e1 d rv⟩
theorem wlk_str {s : Str} : Wlk K CT (Its s) (s.cps.toList.map fun c => .str ⟨#[c]⟩) F := fun F1 H1 e1 e2 i => by
  refine ⟨fun hi => ?_, fun d hd => ?_⟩
  · rw [List.length_map] at hi
    show s.cps.size ≤ i
    rw [hi]; simp
  · rw [List.getElem?_map] at hd
    cases q : s.cps.toList[i]? with
    | none => rw [q] at hd; cases hd
    | some c =>
      rw [q] at hd; cases hd
      have hlt := (List.getElem?_eq_some_iff.mp q).1
      refine ⟨(by show i < s.cps.size; simpa using hlt), fun x H2 y => .inl ?_⟩
      obtain ⟨rfl, c', hc, rfl⟩ := y
      have : s.cps.toList[i]? = some c' := by rw [Array.getElem?_toList]; exact hc
      rw [q] at this; cases this
      exact ⟨rfl, by simp only [Rep]⟩
theorem wlk_rng {lo : Int} {n : Nat} : Wlk K CT (Itr lo n) ((List.range n).map fun (k : Nat) => .int (lo + (k : Int))) F := fun F1 H1 e1 e2 i => by
  refine ⟨fun hi => ?_, fun d hd => ?_⟩
  · rw [List.length_map, List.length_range] at hi
    show n ≤ i
    omega
  · rw [List.getElem?_map] at hd
    cases q : (List.range n)[i]? with
    | none => rw [q] at hd; cases hd
    | some c =>
      rw [q] at hd; cases hd
      obtain ⟨h1, h2⟩ := List.getElem?_eq_some_iff.mp q
      rw [List.getElem_range] at h2
      subst h2
      refine ⟨(by show i < n; simpa using h1), fun x H2 y => .inl ?_⟩
      obtain ⟨rfl, rfl⟩ := y
      exact ⟨rfl, by simp only [Rep]⟩
theorem wlk_enum {a : Addr} {xs : List D} {vs : List V} (h : SqL K F a vs) (r : Reps K CT F xs vs) : Wlk K CT (Ite K a) (xs.zipIdx.map fun p => .tup [.int (p.2 : Nat), p.1]) F := fun F1 H1 e1 e2 i => by
  have hs : SqL K H1 a vs := (e1.trans e2).seq h
  refine ⟨fun hi => ⟨vs, hs, by rw [List.length_map, List.length_zipIdx] at hi; rw [← r.length, hi]; exact Nat.le_refl _⟩, fun d hd => ?_⟩
  rw [List.getElem?_map, List.getElem?_zipIdx] at hd
  cases q : xs[i]? with
  | none => rw [q] at hd; cases hd
  | some d0 =>
    rw [q] at hd; cases hd
    obtain ⟨v, hv, rv⟩ := r.get q
    refine ⟨⟨vs, v, hs, hv⟩, fun x H2 y => .inr ?_⟩
    obtain ⟨T, x', rfl, hT, rfl, y⟩ := y
    have := y vs hs
    rw [hv] at this; cases this
    have sT : Same F1 (upd F1 T (.tup [.int (i : Nat), v])) := same_upd (e2.free hT)
    refine ⟨T, _, hT, rfl, rfl, ?_⟩
    simp only [Rep, Reps]
    refine ⟨T, _, rfl, SqT.of upd_same, _, _, rfl, by simp, v, [], rfl, Rep.mono (e1.trans sT) _ rv, rfl⟩
end
section
variable (X : Cx) (CT : Nat → Option Addr) (G : Gh) (W : WX) (CF : Nat → List Str) (Φ : Nat → Option OC → List D → FRes)
def Pw (r : Res (List D)) (F : Hp) (σ : L2.St) (R : It → Hp → Prop) : Prop :=
  match r with
  | .ok xs S' => ∀ F' J H', Same F F' → SR X.K CT G S' F' σ H' → Wlk X.K CT J xs F' → R J H'
  | .exc cn fn vs S' => ∀ F' H' cls d, Same F F' → SR X.K CT G S' F' σ H' → ExcR X.K CT F' H' cn fn vs cls d → W cls d σ H'
  | .stuck => False
/-- what is walked, by its trees -/
def hI (ev : List SD → Res (List D)) : TI := fun σ H R => ∃ S F, SR X.K CT G S F σ H ∧ Pw X CT G W (ev S) F σ R
end
section
variable {X : Cx} {CT : Nat → Option Addr} {G : Gh} {W : WX} {CF : Nat → List Str} {Φ : Nat → Option OC → List D → FRes}
abbrev PIv (X : Cx) (CT : Nat → Option Addr) (G : Gh) (W : WX) (CF : Nat → List Str) (Φ : Nat → Option OC → List D → FRes) (tg e : Expr) (c : E) : Prop := PI X tg e (hI X CT G W (evI CF Φ c))
/-- a value that is walked -/
theorem i_val {c : E} {tg e : Expr} (h : PEv X CT G W CF Φ e c) (hc : ∀ S, evI CF Φ c S = (evE CF Φ c S).bind fun d S1 => match elmD d with | some xs => .ok xs S1 | none => .stuck) : PIv X CT G W CF Φ tg e c :=
  (pi_or2 (pi_list h) (pi_or2 (pi_tup h) (pi_str h))).imp fun σ H R ⟨S, F, I, q⟩ => by
    rw [hc] at q
    cases e1 : evE CF Φ c S with
    | stuck => rw [e1] at q; exact False.elim q
    | exc cn fn vs S1 => rw [e1] at q; exact .inl ⟨S, F, I, by rw [e1]; exact q⟩
    | ok d S1 =>
      rw [e1] at q
      simp only [Res.bind] at q
      cases d <;> simp only [elmD] at q <;> first | exact False.elim q | skip
      · refine .inr (.inr ⟨S, F, I, ?_⟩)
        rw [e1]
        intro F' v H' e I' r
        simp only [RE, Rep] at r; subst r
        exact ⟨_, rfl, q F' _ H' e I' wlk_str⟩
      · refine .inr (.inl ⟨S, F, I, ?_⟩)
        rw [e1]
        intro F' v H' e I' r
        simp only [RE, Rep] at r
        obtain ⟨a, vs, rfl, h1, h2⟩ := r
        exact ⟨a, rfl, ⟨vs, same_sqT I'.sub h1⟩, q F' _ H' e I' (wlk_tup h1 h2)⟩
      · refine .inl ⟨S, F, I, ?_⟩
        rw [e1]
        intro F' v H' e I' r
        simp only [RE, Rep] at r
        obtain ⟨a, vs, rfl, h1, h2⟩ := r
        exact ⟨a, rfl, ⟨vs, SqL.of (I'.sub _ _ h1)⟩, q F' _ H' e I' (wlk_list (SqL.of h1) h2)⟩
      · refine .inl ⟨S, F, I, ?_⟩
        rw [e1]
        intro F' v H' e I' r
        simp only [RE, Rep] at r
        obtain ⟨a, vs, rfl, h1, h2⟩ := r
        exact ⟨a, rfl, ⟨vs, I'.sub.seq h1⟩, q F' _ H' e I' (wlk_list h1 h2)⟩
theorem i_rng1 {a : E} {tg e : Expr} {p pos : Pos} (hg : Gl X "range") (hm : X.mg "range" = none) (ha : PAv X CT G W CF Φ [e] (.cons a .nil)) (hs : starEach [e] X.env = [(false, eval e X.env)]) : PIv X CT G W CF Φ tg (.Call (.Name "range" p) [e] [] pos) (.rng (.cons a .nil)) :=
  (pi_range1 hg hm ha hs).imp fun σ H R ⟨S, F, I, q⟩ => by
    simp only [evI] at q
    refine ⟨S, F, I, ?_⟩
    cases e1 : evEs CF Φ (.cons a .nil) S with
    | stuck => rw [e1] at q; exact False.elim q
    | exc cn fn vs S1 => rw [e1] at q; exact q
    | ok ds S1 =>
      rw [e1] at q
      simp only [Res.bind] at q
      intro F' vs H' e I' r
      have hl := evEs_len e1
      match ds, hl with
      | [d], _ =>
        obtain ⟨v, rfl, rv⟩ := reps1 r
        cases d <;> simp only [rngD] at q <;> first | exact False.elim q | skip
        simp only [Rep] at rv; subst rv
        rename_i i1 _
        by_cases hb : -(2 ^ 62) ≤ i1 ∧ i1 < 2 ^ 62
        · rw [if_pos hb] at q
          exact ⟨_, rfl, hb.1, hb.2, q F' _ H' e I' wlk_rng⟩
        · rw [if_neg hb] at q; exact False.elim q
theorem i_rng2 {a b : E} {tg e f : Expr} {p pos : Pos} (hg : Gl X "range") (hm : X.mg "range" = none) (ha : PAv X CT G W CF Φ [e, f] (.cons a (.cons b .nil))) (hs : starEach [e, f] X.env = [(false, eval e X.env), (false, eval f X.env)]) (hs2 : starEach [f] X.env = [(false, eval f X.env)]) :
    PIv X CT G W CF Φ tg (.Call (.Name "range" p) [e, f] [] pos) (.rng (.cons a (.cons b .nil))) :=
  (pi_range2 hg hm ha hs hs2).imp fun σ H R ⟨S, F, I, q⟩ => by
    simp only [evI] at q
    refine ⟨S, F, I, ?_⟩
    cases e1 : evEs CF Φ (.cons a (.cons b .nil)) S with
    | stuck => rw [e1] at q; exact False.elim q
    | exc cn fn vs S1 => rw [e1] at q; exact q
    | ok ds S1 =>
      rw [e1] at q
      simp only [Res.bind] at q
      intro F' vs H' e I' r
      have hl := evEs_len e1
      match ds, hl with
      | [d, d2], _ =>
        obtain ⟨v, w, rfl, rv, rw_⟩ := reps2 r
        cases d <;> cases d2 <;> simp only [rngD] at q <;> first | exact False.elim q | skip
        simp only [Rep] at rv rw_; subst rv; subst rw_
        rename_i i1 i2 _
        by_cases hb : (-(2 ^ 62) ≤ i1 ∧ i1 < 2 ^ 62) ∧ -(2 ^ 62) ≤ i2 ∧ i2 < 2 ^ 62
        · rw [if_pos hb] at q
          exact ⟨_, _, rfl, ⟨hb.1.1, hb.1.2, hb.2⟩, q F' _ H' e I' wlk_rng⟩
        · rw [if_neg hb] at q; exact False.elim q
end

set_option Elab.async false
set_option linter.all false
set_option maxRecDepth 100000
set_option maxHeartbeats 4000000
open PySem PySem.Spec PyProof.Rows L2

/-! ### statements -/
inductive RS where
  | nx (S : List SD) | bk (S : List SD) | ct (S : List SD)
  | rt (d : D) (S : List SD)
  | rtN (xs : List D) (S : List SD)
  | exc (cn : Nat) (fn : List Str) (vs : List D) (S : List SD)
  | stuck
def onE {α : Type} (r : Res α) (k : α → List SD → RS) : RS :=
  match r with
  | .ok a S => k a S
  | .exc c fn vs S => .exc c fn vs S
  | .stuck => .stuck
/-- the next statement -/
def RS.andThen (r : RS) (k : List SD → RS) : RS :=
  match r with
  | .nx S => k S
  | r => r
def loopF (f : D → List SD → RS) : List D → List SD → RS
  | [], S => .nx S
  | x :: xs, S => match f x S with
    | .nx S1 => loopF f xs S1
    | .ct S1 => loopF f xs S1
    | .bk S1 => .nx S1
    | r => r
def putD (f : Str) (v : D) : List Str → List D → Option (List Str × List D)
  | [], [] => some ([f], [v])
  | g :: fn, x :: vs => if g = f then some (g :: fn, v :: vs) else (putD f v fn vs).map fun p => (g :: p.1, x :: p.2)
  | _, _ => none
/-- the first clause that names the class -/
def triH (CF : Nat → List Str) (cn : Nat) (fn : List Str) (vs : List D) (S : List SD) : List (Str × Nat × HX) → RS
  | [] => .exc cn fn vs S
  | q :: r => if q.1 ∈ CF cn then if q.2.1 < S.length then match evH CF cn fn vs q.2.2 with | some d => .rt d (S.set q.2.1 .un) | none => .stuck else .stuck else triH CF cn fn vs S r
section
variable (CF : Nat → List Str) (Φ : Nat → Option OC → List D → FRes)
mutual
def evB : B → List SD → RS
  | .asg i e, S => onE (evE CF Φ e S) fun d S1 => .nx (S1.set i (.val d))
  | .asgN i e, S => onE (evE CF Φ e S) fun d S1 => match d with | .lst xs => .nx (S1.set i (.own true (.lst xs))) | _ => .stuck
  | .aug i o e, S => match S[i]? with
      | some (.val (.int x)) => onE (evE CF Φ e S) fun d S1 => match d with
        | .int y => match o with
          | .add => .nx (S1.set i (.val (.int (x + y))))
          | .sub => .nx (S1.set i (.val (.int (x - y))))
          | _ => .stuck
        | _ => .stuck
      | _ => .stuck
  | .unp ts e, S => onE (evE CF Φ e S) fun d S1 => match bindT ts d S1 with | some S2 => .nx S2 | none => .stuck
  | .six i ix e, S => onE (evE CF Φ e S) fun d S1 => if (peekS S1 i).isSome = true then onE (evE CF Φ ix S1) fun y S2 => match S2[i]?, y with
      | some (.own fz (.lst xs)), .int k => match ixN xs.length k with
        | some j => .nx (S2.set i (.own fz (.lst (xs.set j d))))
        | none => .stuck
      | _, _ => .stuck
      else .stuck
  | .sfl i f e, S => onE (evE CF Φ e S) fun d S1 => match S1[i]? with
      | some (.own fz (.ins c fn vs)) => if c < 500 ∧ f ∈ CF c ∧ fn.length < 1000 then match putD f d fn vs with
        | some p => .nx (S1.set i (.own fz (.ins c p.1 p.2)))
        | none => .stuck
        else .stuck
      | _ => .stuck
  | .exp e, S => onE (evE CF Φ e S) fun _ S1 => .nx S1
  | .iff c a b, S => onE (evT CF Φ c S) fun k S1 => if k = true then evBs a S1 else evBs b S1
  | .for ts it b, S => onE (evI CF Φ it S) fun xs S1 => loopF (fun x S => match bindT ts x S with | some S2 => evBs b S2 | none => .stuck) xs S1
  | .brk, S => .bk S
  | .cnt, S => .ct S
  | .pas, S => .nx S
  | .ret e, S => onE (evE CF Φ e S) fun d S1 => .rt d S1
  | .retN, S => .rt .non S
  | .retL e, S => onE (evE CF Φ e S) fun d S1 => match d with | .lst xs => .rtN xs S1 | _ => .stuck
  | .asgF i f es, S => onE (evEs CF Φ es S) fun ds S1 => match Φ f none ds with
      | .retN xs => .nx (S1.set i (.own true (.lst xs)))
      | .exc c fn vs none => .exc c fn vs S1
      | _ => .stuck
  | .rse cn fs es, S => onE (evEs CF Φ es S) fun ds S1 => if ds.length = fs.length then .exc cn fs.reverse ds.reverse S1 else .stuck
  | .rsp cn es, S => onE (evEs CF Φ es S) fun ds S1 => if ds.length ≤ 1000 then .exc cn [] [] S1 else .stuck
  | .tri b hs, S => match evBs b S with
    | .exc cn fn vs S1 => if 500 ≤ cn ∧ cn < 1000 then triH CF cn fn vs S1 hs else .stuck
    | r => r
def evBs : Bs → List SD → RS
  | .nil, S => .nx S
  | .cons b r, S => (evB b S).andThen fun S1 => evBs r S1
end
end
section
variable (K : PySem.W.Frag) (CT : Nat → Option Addr) (G : Gh) (W : WX)
def PoS (r : RS) (F : Hp) (D : Ends) : Prop :=
  match r with
  | .nx S => ∀ F' σ' H', Same F F' → SR K CT G S F' σ' H' → D.nx σ' H'
  | .bk S => ∀ F' σ' H', Same F F' → SR K CT G S F' σ' H' → D.bk σ' H'
  | .ct S => ∀ F' σ' H', Same F F' → SR K CT G S F' σ' H' → D.ct σ' H'
  | .rt d S => ∀ F' v σ' H', Same F F' → SR K CT G S F' σ' H' → Rep K CT F' d v → D.rt v H'
  | .rtN xs S => ∀ F' v σ' H', Same F F' → SR K CT G S F' σ' H' → RN CT G S K σ' F' H' xs v → D.rt v H'
  | .exc cn fn vs S => ∀ F' σ' H' cls d, Same F F' → SR K CT G S F' σ' H' → ExcR K CT F' H' cn fn vs cls d → W cls d σ' H'
  | .stuck => False
def hS (ev : List SD → RS) : TS := fun D σ H => ∃ S F, SR K CT G S F σ H ∧ PoS K CT G W (ev S) F D
end
section
variable {K : PySem.W.Frag} {CT : Nat → Option Addr} {G : Gh} {W : WX} {S : List SD} {F F' H : Hp} {σ : L2.St} {α β : Type}
theorem PoS.mono {r : RS} {D : Ends} (e : Same F F') (h : PoS K CT G W r F D) : PoS K CT G W r F' D := by
  cases r with
  | nx S => exact fun a b c e' => h a b c (e.trans e')
  | bk S => exact fun a b c e' => h a b c (e.trans e')
  | ct S => exact fun a b c e' => h a b c (e.trans e')
  | rt d S => exact fun a b c d e' => h a b c d (e.trans e')
  | rtN xs S => exact fun a b c d e' => h a b c d (e.trans e')
  | exc cn fn vs S => exact fun a b c d f e' => h a b c d f (e.trans e')
  | stuck => exact h
theorem hX_onE {R : Hp → α → β → Prop} {ev : List SD → Res α} {k : α → List SD → RS} {Q : β → Hp → Prop} {D : Ends} (I : SR K CT G S F σ H)
    (h : PoS K CT G W (onE (ev S) k) F D) (c : ∀ a S' F' b H', SR K CT G S' F' σ H' → Same F F' → R F' a b → PoS K CT G W (k a S') F' D → Q b H') : hX K CT G W R ev σ H Q := by
  refine ⟨S, F, I, ?_⟩
  cases e : ev S with
  | ok a S' =>
    rw [e] at h
    exact fun F' b H' e' I' r => c a S' F' b H' I' e' r (h.mono e')
  | exc cn fn vs S' => rw [e] at h; exact fun F' H' cls d e' I' x => h F' σ H' cls d e' I' x
  | stuck => rw [e] at h; exact h
theorem hN_onE {ev : List SD → Res D} {k : List D → List SD → RS} {Q : VK} {D' : Ends} (I : SR K CT G S F σ H)
    (h : PoS K CT G W (onE (ev S) fun d S1 => match d with | .lst xs => k xs S1 | _ => .stuck) F D') (c : ∀ a S' F' b H', SR K CT G S' F' σ H' → Same F F' → RN CT G S' K σ F' H' a b → PoS K CT G W (k a S') F' D' → Q b H') : hN CT G W K ev σ H Q := by
  refine ⟨S, F, I, ?_⟩
  cases e : ev S with
  | ok a S' =>
    rw [e] at h
    simp only [onE] at h
    cases a <;> first | exact False.elim h | skip
    rename_i xs
    exact ⟨xs, rfl, fun F' b H' e' I' r => c xs S' F' b H' I' e' r (h.mono e')⟩
  | exc cn fn vs S' => rw [e] at h; exact fun F' H' cls d e' I' x => h F' σ H' cls d e' I' x
  | stuck => rw [e] at h; exact h
end
/-! ### targets -/
def gsOf : List Nat → TGs
  | [] => gNil
  | i :: r => gCons (gName i) (gsOf r)
def gOf (K : PySem.W.Frag) (ts : List Nat) : TG := match ts with
  | [i] => gName i
  | ts => fun v σ H Q => gTup K ts.length (gsOf ts) v σ H Q ∨ gLst K ts.length (gsOf ts) v σ H Q
theorem pg_or2 {X : Cx} {tg : Expr} {t u : TG} (h : PG X tg t) (h' : PG X tg u) : PG X tg (fun v σ H Q => t v σ H Q ∨ u v σ H Q) := ⟨fun pins s σ H v w Q I r q => q.elim (h.run pins s σ H v w Q I r) (h'.run pins s σ H v w Q I r)⟩
theorem wipe_set {σ : L2.St} {i : Nat} {x : Option V} : ∀ {vs : List Nat}, i ∈ vs → wipe (σ.set i x) vs = wipe σ vs
  | [], h => by cases h
  | v :: vs, h => by
    simp only [wipe]
    by_cases hi : i ∈ vs
    · rw [wipe_set hi]
    · rcases List.mem_cons.mp h with e | e
      · subst e
        have : ∀ (us : List Nat) (τ : L2.St), i ∉ us → wipe (τ.set i x) us = (wipe τ us).set i x := by
          intro us
          induction us with
          | nil => intro τ _; rfl
          | cons u us ih =>
            intro τ hu
            simp only [List.mem_cons, not_or] at hu
            simp only [wipe]
            rw [ih τ hu.2, List.set_comm _ _ hu.1]
        rw [this vs σ hi, List.set_set]
      · exact absurd e hi
section
variable {K : PySem.W.Frag} {CT : Nat → Option Addr} {G : Gh}
theorem gs_run {F H : Hp} {Q : L2.St → Hp → Prop} : ∀ {ts : List Nat} {ds : List D} {vs : List V} {S : List SD} {σ : L2.St}, SR K CT G S F σ H → Reps K CT F ds vs → ds.length = ts.length →
    (∀ σ', SR K CT G ((ts.zip ds).foldl (fun S p => S.set p.1 (.val p.2)) S) F σ' H → (∀ us : List Nat, (∀ i ∈ ts, i ∈ us) → wipe σ' us = wipe σ us) → Q σ' H) → gsOf ts vs σ H Q
  | [], [], vs, S, σ, I, r, _, c => by
    simp only [Reps] at r
    exact ⟨r, c σ I fun _ _ => rfl⟩
  | [], _ :: _, _, _, _, _, _, h, _ => by simp at h
  | _ :: _, [], _, _, _, _, _, h, _ => by simp at h
  | t :: ts, d :: ds, vs, S, σ, I, r, h, c => by
    simp only [Reps] at r
    obtain ⟨v, ws, rfl, r1, r2⟩ := r
    refine ⟨v, ws, rfl, ?_⟩
    refine gs_run (ts := ts) (ds := ds) (I.setVal r1) r2 (by simpa using h) fun σ' I' hw => c σ' I' fun us hu => ?_
    rw [hw us fun i hi => hu i (List.mem_cons_of_mem _ hi), wipe_set (hu t (List.mem_cons_self ..))]
theorem g_run {F H : Hp} {Q : L2.St → Hp → Prop} {ts : List Nat} {d : D} {v : V} {S S' : List SD} {σ : L2.St} (I : SR K CT G S F σ H) (r : Rep K CT F d v) (h : bindT ts d S = some S')
    (c : ∀ σ', SR K CT G S' F σ' H → (∀ us : List Nat, (∀ i ∈ ts, i ∈ us) → wipe σ' us = wipe σ us) → Q σ' H) : gOf K ts v σ H Q := by
  match ts, h with
  | [i], h =>
    simp only [bindT, Option.some.injEq] at h
    subst h
    exact c _ (I.setVal r) fun us hu => wipe_set (hu i (List.mem_cons_self ..))
  | [], h =>
    simp only [bindT] at h
    cases d <;> simp only at h <;> first | (cases h; done) | skip
    · split at h
      · rename_i hl
        cases h
        simp only [Rep] at r
        obtain ⟨a, vs, rfl, h1, h2⟩ := r
        exact .inl ⟨a, vs, rfl, same_sqT I.sub h1, by rw [← h2.length, hl], gs_run I h2 hl c⟩
      · cases h
    · split at h
      · rename_i hl
        cases h
        simp only [Rep] at r
        obtain ⟨a, vs, rfl, h1, h2⟩ := r
        exact .inr ⟨a, vs, rfl, SqL.of (I.sub _ _ h1), by rw [← h2.length, hl], gs_run I h2 hl c⟩
      · cases h
  | i :: j :: ts, h =>
    simp only [bindT] at h
    cases d <;> simp only at h <;> first | (cases h; done) | skip
    · split at h
      · rename_i hl
        cases h
        simp only [Rep] at r
        obtain ⟨a, vs, rfl, h1, h2⟩ := r
        exact .inl ⟨a, vs, rfl, same_sqT I.sub h1, by rw [← h2.length, hl], gs_run I h2 hl c⟩
      · cases h
    · split at h
      · rename_i hl
        cases h
        simp only [Rep] at r
        obtain ⟨a, vs, rfl, h1, h2⟩ := r
        exact .inr ⟨a, vs, rfl, SqL.of (I.sub _ _ h1), by rw [← h2.length, hl], gs_run I h2 hl c⟩
      · cases h
end
section
variable {X : Cx} {CT : Nat → Option Addr} {G : Gh} {W : WX} {CF : Nat → List Str} {Φ : Nat → Option OC → List D → FRes}
abbrev PSv (X : Cx) (CT : Nat → Option Addr) (G : Gh) (W : WX) (CF : Nat → List Str) (Φ : Nat → Option OC → List D → FRes) (st : Stmt) (b : B) : Prop := PS X st (hS X.K CT G W (evB CF Φ b))
abbrev PBv (X : Cx) (CT : Nat → Option Addr) (G : Gh) (W : WX) (CF : Nat → List Str) (Φ : Nat → Option OC → List D → FRes) (sts : List Stmt) (b : Bs) : Prop := PSs X sts (hS X.K CT G W (evBs CF Φ b))
theorem b_nil : PBv X CT G W CF Φ [] .nil := pss_nil.imp fun D σ H ⟨S, F, I, h⟩ => by
  simp only [evBs] at h
  exact h F σ H (Same.refl F) I
theorem b_cons {b : B} {r : Bs} {st : Stmt} {sts : List Stmt} (h1 : PSv X CT G W CF Φ st b) (h2 : PBv X CT G W CF Φ sts r) : PBv X CT G W CF Φ (st :: sts) (.cons b r) :=
  (pss_cons h1 h2).imp fun D σ H ⟨S, F, I, h⟩ => by
    simp only [evBs] at h
    refine ⟨S, F, I, ?_⟩
    cases e : evB CF Φ b S with
    | nx S1 =>
      rw [e] at h
      exact fun F' σ' H' e' I' => ⟨S1, F', I', h.mono e'⟩
    | bk S1 => rw [e] at h; exact h
    | ct S1 => rw [e] at h; exact h
    | rt d S1 => rw [e] at h; exact h
    | rtN xs S1 => rw [e] at h; exact h
    | exc cn fn vs S1 => rw [e] at h; exact h
    | stuck => rw [e] at h; exact h
theorem s_asg {i : Nat} {e : E} {x : Str} {ex : Expr} {pos pos' : Pos} (hN : X.N.Nodup) (hi : X.N[i]? = some x) (hx : Loc X.env.scope x) (hf : X.fn x = true ∨ X.env.scope.names.lookup x = some .local)
    (he : PEv X CT G W CF Φ ex e) (hs : swapsWith ex (some (.Name x pos')) pos.line X.env = pure false) : PSv X CT G W CF Φ (.Assign [.Name x pos'] ex pos) (.asg i e) :=
  (ps_set hN hi hx he hs hf).imp fun D σ H ⟨S, F, I, h⟩ => by
    simp only [evB] at h
    exact hX_onE I h fun d S1 F1 v H1 I1 e1 r1 h1 => h1 F1 _ H1 (Same.refl F1) (I1.setVal r1)
/-- x += e, x -= e -/
theorem s_aug {i : Nat} {o : BOp} {op : Operator} {e : E} {x : Str} {ex : Expr} {pos pos' : Pos} (hN : X.N.Nodup) (hi : X.N[i]? = some x) (hx : Loc X.env.scope x) (hf : X.fn x = true ∨ X.env.scope.names.lookup x = some .local)
    (he : PEv X CT G W CF Φ ex e) (ho : (o = .add ∧ op = .Add) ∨ (o = .sub ∧ op = .Sub)) : PSv X CT G W CF Φ (.AugAssign (.Name x pos') op ex pos) (.aug i o e) := by
  have key : ∀ (f : Int → Int → Int) (k : Int → D → List SD → RS), (∀ a b S1, k a (.int b) S1 = .nx (S1.set i (.val (.int (f a b))))) → (∀ a d S1, (∀ b, d ≠ .int b) → k a d S1 = .stuck) →
      PIp X op (ipI f) → (∀ S, evB CF Φ (.aug i o e) S = match S[i]? with | some (.val (.int a)) => onE (evE CF Φ e S) (k a) | _ => .stuck) → PSv X CT G W CF Φ (.AugAssign (.Name x pos') op ex pos) (.aug i o e) := by
    intro f k hk hk2 hp hev
    refine (ps_aug hN hi hx he hp hf).imp fun D σ H ⟨S, F, I, h⟩ => ?_
    rw [hev] at h
    split at h
    · rename_i a q
      obtain ⟨v, hv, rv⟩ := I.val i _ q
      simp only [Rep] at rv; subst rv
      refine ⟨_, hv, hX_onE I h fun d S1 F1 w H1 I1 e1 r1 h1 => ?_⟩
      by_cases z : ∃ b, d = .int b
      · obtain ⟨b, rfl⟩ := z
        simp only [RE, Rep] at r1; subst r1
        rw [hk] at h1
        exact ⟨a, b, rfl, rfl, h1 F1 _ H1 (Same.refl F1) (I1.setVal rfl)⟩
      · rw [hk2 a d S1 fun b w => z ⟨b, w⟩] at h1
        exact False.elim h1
    · exact False.elim h
  rcases ho with ⟨rfl, rfl⟩ | ⟨rfl, rfl⟩
  · refine key _ (fun a d S1 => match d with | .int y => .nx (S1.set i (.val (.int (a + y)))) | _ => .stuck) (fun _ _ _ => rfl) (fun a d S1 h => by cases d <;> first | rfl | exact absurd rfl (h _)) ip_add fun S => ?_
    simp only [evB]
  · refine key _ (fun a d S1 => match d with | .int y => .nx (S1.set i (.val (.int (a - y)))) | _ => .stuck) (fun _ _ _ => rfl) (fun a d S1 h => by cases d <;> first | rfl | exact absurd rfl (h _)) ip_sub fun S => ?_
    simp only [evB]
theorem s_asgN {i : Nat} {e : E} {x : Str} {ex : Expr} {pos pos' : Pos} (hND : X.N.Nodup) (hi : X.N[i]? = some x) (hx : Loc X.env.scope x) (hf : X.fn x = true ∨ X.env.scope.names.lookup x = some .local)
    (he : PE X ex (hN CT G W X.K (evE CF Φ e))) (hs : swapsWith ex (some (.Name x pos')) pos.line X.env = pure false) : PSv X CT G W CF Φ (.Assign [.Name x pos'] ex pos) (.asgN i e) :=
  (ps_set hND hi hx he hs hf).imp fun D σ H ⟨S, F, I, h⟩ => by
    simp only [evB] at h
    refine hN_onE (k := fun xs S1 => .nx (S1.set i (.own true (.lst xs)))) I h fun xs S1 F1 v H1 I1 e1 r1 h1 => ?_
    obtain ⟨p, vs, rfl, q1, q2, q3, q4, q5, q6⟩ := r1
    exact h1 F1 _ H1 (Same.refl F1) (I1.setOwn ⟨q1, vs, q4, q5⟩ q2 q6)
theorem s_unp {ts : List Nat} {e : E} {tg ex : Expr} {pos : Pos} (hg : PG X tg (gOf X.K ts)) (he : PEv X CT G W CF Φ ex e) (hs : swapsWithSole [tg] ex pos.line X.env = pure false) (hw : swappedStores [tg] ex X.env = pure none)
    (h1 : (assignEach [tg] X.env).map (·.2) = [assign tg X.env]) : PSv X CT G W CF Φ (.Assign [tg] ex pos) (.unp ts e) :=
  (ps_asg he hg hs hw h1).imp fun D σ H ⟨S, F, I, h⟩ => by
    simp only [evB] at h
    refine hX_onE I h fun d S1 F1 v H1 I1 e1 r1 h1 => ?_
    cases q : bindT ts d S1 with
    | none => simp only [q] at h1; exact False.elim h1
    | some S2 =>
      simp only [q] at h1
      exact g_run I1 r1 q fun σ' I' _ => h1 F1 σ' H1 (Same.refl F1) I'
theorem s_six {i : Nat} {ix e : E} {x : Str} {ei ex : Expr} {p pos pos' : Pos} (hN : X.N[i]? = some x) (hv : Vis X.env.scope x) (hd : (x == ("__debug__" : Str)) = false) (hcd : (x == ("__classdict__" : Str)) = false)
    (hi : PEv X CT G W CF Φ ei ix) (he : PEv X CT G W CF Φ ex e) (hs : swapsWithSole [.Subscript (.Name x p) ei pos'] ex pos.line X.env = pure false) (hw : swappedStores [.Subscript (.Name x p) ei pos'] ex X.env = pure none)
    (ha : ∀ v, assign (.Subscript (.Name x p) ei pos') X.env v = (do
      let ov ← holding [v] (eval (.Name x p) X.env)
      let iv ← holding [v, ov] (eval ei X.env)
      standAt pos'
      holding [v, ov, iv] (setItem ov iv v)
      release [v, ov, iv] []))
    (h1 : (assignEach [.Subscript (.Name x p) ei pos'] X.env).map (·.2) = [assign (.Subscript (.Name x p) ei pos') X.env]) : PSv X CT G W CF Φ (.Assign [.Subscript (.Name x p) ei pos'] ex pos) (.six i ix e) :=
  (ps_asg he (pg_sub (pe_var hN hv hd hcd) hi set_list ha) hs hw h1).imp fun D σ H ⟨S, F, I, h⟩ => by
    simp only [evB] at h
    refine hX_onE I h fun d S1 F1 v H1 I1 e1 r1 h1 => ?_
    split at h1
    · rename_i hp
      obtain ⟨v0, hv0⟩ := peek_some I1 hp
      refine ⟨v0, hv0, ?_⟩
      refine hX_onE I1 h1 fun y S2 F2 u H2 I2 e2 r2 h2 => ?_
      split at h2
      · rename_i fz xs k q
        obtain ⟨a, g1, g2, g3⟩ := I2.own i _ _ q
        rw [hv0] at g1; cases g1
        obtain ⟨g4, vs, g5, g6⟩ := g2
        simp only [RE, Rep] at r2; subst r2
        split at h2
        · rename_i j hj
          refine ⟨a, vs, k, j, rfl, rfl, g5, by rw [← g6.length]; exact hj, ?_⟩
          refine h2 F2 σ _ (Same.refl F2) (I2.chg q hv0 (fun b hb => upd_ne hb) ⟨g4, _, upd_same, g6.set j (Rep.mono e2 d r1)⟩)
        · exact False.elim h2
      · exact False.elim h2
    · exact False.elim h1
theorem putD_of {F : Hp} {K : PySem.W.Frag} {f : Str} {d : D} {v : V} : ∀ {fn : List Str} {ds : List D} {vs : List V} {p : List Str × List D}, Reps K CT F ds vs → fn.length = vs.length → Rep K CT F d v → putD f d fn ds = some p →
    ∃ ws, putF f v (fn.zip vs) = p.1.zip ws ∧ p.1.length = ws.length ∧ Reps K CT F p.2 ws
  | [], [], vs, p, r, hl, rd, h => by
    simp only [Reps] at r; subst r
    simp only [putD, Option.some.injEq] at h; subst h
    exact ⟨[v], rfl, rfl, Reps.cons rd Reps.nil⟩
  | [], _ :: _, _, _, r, hl, _, h => by simp [putD] at h
  | _ :: _, [], _, _, r, hl, _, h => by simp [putD] at h
  | g :: fn, x :: ds, vs, p, r, hl, rd, h => by
    simp only [Reps] at r
    obtain ⟨w, ws, rfl, r1, r2⟩ := r
    simp only [putD] at h
    simp only [List.zip_cons_cons, putF]
    by_cases e : g = f
    · rw [if_pos e] at h ⊢
      cases h
      exact ⟨v :: ws, rfl, by simpa using hl, Reps.cons rd r2⟩
    · rw [if_neg e] at h ⊢
      obtain ⟨q, h1, rfl⟩ := Option.map_eq_some_iff.mp h
      obtain ⟨us, h2, h3, h4⟩ := putD_of r2 (by simpa using hl) rd h1
      exact ⟨w :: us, by rw [h2]; rfl, by simpa using h3, Reps.cons r1 h4⟩
theorem s_sfl {i : Nat} {f x : Str} {e : E} {ex : Expr} {p pos pos' : Pos} (hN : X.N[i]? = some x) (hv : Vis X.env.scope x) (hd : (x == ("__debug__" : Str)) = false) (hcd : (x == ("__classdict__" : Str)) = false)
    (he : PEv X CT G W CF Φ ex e) (hC : ∀ c C g, c < 500 → CT c = some C → g ∈ CF c → Cls X.K C ∧ NoAttr X.K C g) (hs : swapsWith ex (some (.Attribute (.Name x p) f pos')) pos.line X.env = pure false) : PSv X CT G W CF Φ (.Assign [.Attribute (.Name x p) f pos'] ex pos) (.sfl i f e) :=
  (ps_fld (pe_var hN hv hd hcd) he hs).imp fun D σ H ⟨S, F, I, h⟩ => by
    simp only [evB] at h
    refine hX_onE I h fun d S1 F1 v H1 I1 e1 r1 h1 => ?_
    split at h1
    · rename_i fz c fn vs q
      split at h1
      · rename_i hf
        obtain ⟨a, g1, g2, g3⟩ := I1.own i _ _ q
        have g20 := g2
        obtain ⟨g4, C, dx, ws, g5, g6, g7, g8⟩ := g2
        obtain ⟨k1, k2⟩ := hC c C f hf.1 g5 hf.2.1
        cases hp : putD f d fn vs with
        | none => simp only [hp] at h1; exact False.elim h1
        | some p =>
          simp only [hp] at h1
          obtain ⟨us, u1, u2, u3⟩ := putD_of g8 g7 r1 hp
          refine ⟨_, g1, a, C, dx, _, rfl, g6, k1, k2, by rw [List.length_zip, ← g7, Nat.min_self]; exact hf.2.2, ?_⟩
          rw [u1]
          exact h1 F1 σ _ (Same.refl F1) (I1.chg q g1 (fun b hb => upd_ne hb) ⟨g4, C, dx, us, g5, upd_same, u2, u3⟩)
      · exact False.elim h1
    · exact False.elim h1
theorem s_exp {e : E} {ex : Expr} {pos : Pos} (he : PEv X CT G W CF Φ ex e) (hs : swapsWith ex none pos.line X.env = pure false) : PSv X CT G W CF Φ (.Expr ex pos) (.exp e) :=
  (ps_expr he hs).imp fun D σ H ⟨S, F, I, h⟩ => by
    simp only [evB] at h
    exact hX_onE I h fun d S1 F1 v H1 I1 e1 r1 h1 => h1 F1 σ H1 (Same.refl F1) I1
theorem s_ret {e : E} {ex : Expr} {pos : Pos} (he : PEv X CT G W CF Φ ex e) : PSv X CT G W CF Φ (.Return (some ex) pos) (.ret e) :=
  (ps_ret he).imp fun D σ H ⟨S, F, I, h⟩ => by
    simp only [evB] at h
    exact hX_onE I h fun d S1 F1 v H1 I1 e1 r1 h1 => h1 F1 v σ H1 (Same.refl F1) I1 r1
theorem s_retN {pos : Pos} : PSv X CT G W CF Φ (.Return none pos) .retN := ps_retN.imp fun D σ H ⟨S, F, I, h⟩ => by
  simp only [evB] at h
  exact h F .non σ H (Same.refl F) I (by simp only [Rep])
theorem s_retL {e : E} {ex : Expr} {pos : Pos} (he : PE X ex (hN CT G W X.K (evE CF Φ e))) : PSv X CT G W CF Φ (.Return (some ex) pos) (.retL e) :=
  (ps_ret he).imp fun D σ H ⟨S, F, I, h⟩ => by
    simp only [evB] at h
    refine hN_onE (k := fun xs S1 => .rtN xs S1) I h fun xs S1 F1 v H1 I1 e1 r1 h1 => ?_
    exact h1 F1 v σ H1 (Same.refl F1) I1 r1
theorem s_asgF {i f : Nat} {es : Es} {e : Expr} {as : List Expr} {x y : Str} {p pos pos' pos2 : Pos} {k np : Nat} {fa : Addr} {fd : FuncData} {ps : List Str} (hND : X.N.Nodup) (hi : X.N[i]? = some x) (hx : Loc X.env.scope x) (hf : X.fn x = true ∨ X.env.scope.names.lookup x = some .local)
    (FF : FnF X CT G.T k (Φ f) false np fa fd ps) (hr : Room k X.A) (tk : Takes X W) (hg : Gl X y) (hm : X.mg y = some (.ref fa))
    (hn : eslen es = np) (ha : PAv X CT G W CF Φ (e :: as) es) (hdb : (y == ("__debug__" : Str)) = false) (he : starEach (e :: as) X.env = (false, eval e X.env) :: starEach as X.env) (hpl : (backTo pos (starEach as X.env)).any (·.1) = false)
    (hs : swapsWith (.Call (.Name y p) (e :: as) [] pos) (some (.Name x pos')) pos2.line X.env = pure false) : PSv X CT G W CF Φ (.Assign [.Name x pos'] (.Call (.Name y p) (e :: as) [] pos) pos2) (.asgF i f es) :=
  (ps_set hND hi hx (pe_callSD FF.ok hr hg hm FF.kp FF.bd .nil (fun σ => passAt tk σ) ha hdb he hpl) hs hf).imp fun D σ H ⟨S, F, I, h⟩ => by
    simp only [evB] at h
    refine ⟨S, F, I, ?_⟩
    cases ev : evEs CF Φ es S with
    | stuck => rw [ev] at h; exact h
    | exc cn fn vs S1 => rw [ev] at h; exact fun F' H' cls d e' I' x => h F' σ H' cls d e' I' x
    | ok ds S1 =>
      rw [ev] at h
      intro F1 vs H1 f1 I1 r1
      refine ⟨by rw [List.append_nil, ← r1.length, evEs_len ev, hn], F1, ds, I1.sub, tabs_of I1, .inl ⟨rfl, by rw [List.append_nil]; exact r1, ?_⟩⟩
      simp only [onE] at h
      have h := h.mono f1
      generalize Φ f none ds = r at h ⊢
      cases r with
      | stuck => exact h
      | ret d o => exact False.elim h
      | retN xs =>
        intro F' v H' A ⟨a, us, e, h0, h1, h2, h3⟩
        subst e
        exact h F' _ H' A.sF ((I1.aft A).setOwn ⟨h1, us, h2, h3⟩ (I1.fresh h0) (I1.newNo h0))
      | exc cn fn ws o => cases o with
        | none => exact fun F' H' cls dx A x => h F' σ H' cls dx A.sF (I1.aft A) x
        | some o => exact False.elim h
theorem s_pas {pos : Pos} : PSv X CT G W CF Φ (.Pass pos) .pas := ps_pass.imp fun D σ H ⟨S, F, I, h⟩ => by
  simp only [evB] at h
  exact h F σ H (Same.refl F) I
theorem s_brk {pos : Pos} : PSv X CT G W CF Φ (.Break pos) .brk := ps_break.imp fun D σ H ⟨S, F, I, h⟩ => by
  simp only [evB] at h
  exact h F σ H (Same.refl F) I
theorem s_cnt {pos : Pos} : PSv X CT G W CF Φ (.Continue pos) .cnt := ps_continue.imp fun D σ H ⟨S, F, I, h⟩ => by
  simp only [evB] at h
  exact h F σ H (Same.refl F) I
theorem s_iff {c : E} {a b : Bs} {ec : Expr} {ea eb : List Stmt} {pos : Pos} (hc : PTv X CT G W CF Φ ec c) (ha : PBv X CT G W CF Φ ea a) (hb : PBv X CT G W CF Φ eb b) : PSv X CT G W CF Φ (.If ec ea eb pos) (.iff c a b) :=
  (ps_if hc ha hb).imp fun D σ H ⟨S, F, I, h⟩ => by
    simp only [evB] at h
    refine hX_onE I h fun k S1 F1 k' H1 I1 e1 r1 h1 => ?_
    cases r1
    cases k with
    | true => exact iteT ⟨S1, F1, I1, by simpa using h1⟩
    | false => exact iteF ⟨S1, F1, I1, by simpa using h1⟩
theorem PoS.sub {r : RS} {F : Hp} {D D' : Ends} {K : PySem.W.Frag} (h : PoS K CT G W r F D) (a : ∀ σ H, D.nx σ H → D'.nx σ H) (b : ∀ σ H, D.bk σ H → D'.bk σ H) (c : ∀ σ H, D.ct σ H → D'.ct σ H) (d : ∀ v H, D.rt v H → D'.rt v H) : PoS K CT G W r F D' := by
  cases r with
  | nx S => exact fun F' σ' H' e I => a _ _ (h F' σ' H' e I)
  | bk S => exact fun F' σ' H' e I => b _ _ (h F' σ' H' e I)
  | ct S => exact fun F' σ' H' e I => c _ _ (h F' σ' H' e I)
  | rt x S => exact fun F' v σ' H' e I r => d _ _ (h F' v σ' H' e I r)
  | rtN x S => exact fun F' v σ' H' e I r => d _ _ (h F' v σ' H' e I r)
  | exc cn fn vs S => exact h
  | stuck => exact h
theorem s_for {ts : List Nat} {it : E} {b : Bs} {tg ei : Expr} {body : List Stmt} {pos : Pos} (hp : PassesOwn (model X.prog X.w) X.A X.env X.xe) (hc : X.calm = true) (hi : PIv X CT G W CF Φ tg ei it) (hg : PG X tg (gOf X.K ts)) (hb : PBv X CT G W CF Φ body b) (hfs : ∀ x, foldedSetIterable ei X.env x = pure x) :
    PSv X CT G W CF Φ (.For tg ei body [] pos) (.for ts it b) :=
  (ps_for hp hc hi hg hb (hs := hfs)).imp fun D σ H ⟨S, F, I, h⟩ => by
    simp only [evB] at h
    refine ⟨S, F, I, ?_⟩
    cases e1 : evI CF Φ it S with
    | stuck => rw [e1] at h; exact False.elim h
    | exc cn fn vs S1 => rw [e1] at h; exact fun F' H' cls d e' I' x => h F' σ H' cls d e' I' x
    | ok xs S1 =>
      rw [e1] at h
      simp only [onE] at h
      intro F1 J H1 f1 I1 wk
      refine ⟨fun i m σ H => m = xs.length - i ∧ i ≤ xs.length ∧ ∃ S F, Same F1 F ∧ SR X.K CT G S F σ H ∧ PoS X.K CT G W (loopF (fun x S => match bindT ts x S with | some S2 => evBs CF Φ b S2 | none => .stuck) (xs.drop i) S) F D,
        ⟨xs.length, by simp, Nat.zero_le _, S1, F1, Same.refl F1, I1, by rw [List.drop_zero]; exact h.mono f1⟩, ?_⟩
      rintro i m σ1 H2 ⟨rfl, hi2, S2, F2, f2, I2, h2⟩
      have wi := wk F2 H2 f2 I2.sub i
      by_cases hlt : i < xs.length
      · have hd : xs.drop i = xs[i] :: xs.drop (i + 1) := List.drop_eq_getElem_cons hlt
        rw [hd] at h2
        obtain ⟨hgo, hy⟩ := wi.2 xs[i] (List.getElem?_eq_getElem hlt)
        refine .inr ⟨hgo, fun σ' H' => ∃ S F, Same F1 F ∧ SR X.K CT G S F σ' H' ∧ PoS X.K CT G W (loopF (fun x S => match bindT ts x S with | some S2 => evBs CF Φ b S2 | none => .stuck) (xs.drop (i + 1)) S) F D,
          fun σ' H' ⟨S, F, a1, a2, a3⟩ => ⟨xs.length - (i + 1), by omega, rfl, hlt, S, F, a1, a2, a3⟩, fun x H3 yl => ?_⟩
        simp only [loopF] at h2
        cases q : bindT ts xs[i] S2 with
        | none => simp only [q] at h2; exact False.elim h2
        | some S3 =>
          simp only [q] at h2
          -- the item has come; perhaps a new tuple was laid
          have go : ∀ F3 H4, Same F2 F3 → SR X.K CT G S2 F3 σ1 H4 → Rep X.K CT F3 xs[i] x → gOf X.K ts x σ1 H4 fun σ2 H5 => hS X.K CT G W (evBs CF Φ b) { D with nx := fun σ' H' => ∃ S F, Same F1 F ∧ SR X.K CT G S F σ' H' ∧ PoS X.K CT G W (loopF (fun x S => match bindT ts x S with | some S2 => evBs CF Φ b S2 | none => .stuck) (xs.drop (i + 1)) S) F D, ct := fun σ' H' => ∃ S F, Same F1 F ∧ SR X.K CT G S F σ' H' ∧ PoS X.K CT G W (loopF (fun x S => match bindT ts x S with | some S2 => evBs CF Φ b S2 | none => .stuck) (xs.drop (i + 1)) S) F D, bk := D.nx } σ2 H5 := by
            intro F3 H4 f3 I3 r3
            refine g_run I3 r3 q fun σ' I' _ => ⟨S3, F3, I', ?_⟩
            have h2 := h2.mono f3
            cases e4 : evBs CF Φ b S3 with
            | nx S4 => simp only [e4] at h2; exact fun F' σ'' H' e' I'' => ⟨S4, F', (f2.trans f3).trans e', I'', h2.mono e'⟩
            | ct S4 => simp only [e4] at h2; exact fun F' σ'' H' e' I'' => ⟨S4, F', (f2.trans f3).trans e', I'', h2.mono e'⟩
            | bk S4 => simp only [e4] at h2; exact h2
            | rt d S4 => simp only [e4] at h2; exact h2
            | rtN xs S4 => simp only [e4] at h2; exact h2
            | exc cn fn vs S4 => simp only [e4] at h2; exact h2
            | stuck => simp only [e4] at h2; exact h2
          rcases hy x H3 yl with ⟨rfl, r3⟩ | ⟨p, u, hp2, rfl, rfl, r3⟩
          · exact go F2 _ (Same.refl F2) I2 r3
          · exact go _ _ (same_upd (I2.freshF hp2)) (I2.settle hp2) r3
      · have e : i = xs.length := by omega
        refine .inl ⟨wi.1 e, ?_⟩
        rw [List.drop_eq_nil_of_le (by omega)] at h2
        exact h2 F2 σ1 H2 (Same.refl F2) I2
end

set_option Elab.async false
set_option linter.all false
set_option maxRecDepth 100000
set_option maxHeartbeats 4000000
open PySem PySem.Spec PyProof.Rows L2

/-! ### exceptions with fields -/
def revZ : List Str → List V → List (Str × V) → List (Str × V)
  | f :: fs, w :: ws, acc => revZ fs ws ((f, w) :: acc)
  | _, _, acc => acc
theorem revZ_eq : ∀ (fs : List Str) (ws : List V) (gs : List Str) (us : List V), fs.length = ws.length → gs.length = us.length → revZ fs ws (gs.zip us) = (fs.reverse ++ gs).zip (ws.reverse ++ us)
  | [], [], gs, us, _, _ => rfl
  | f :: fs, w :: ws, gs, us, h, h' => by
    have := revZ_eq fs ws (f :: gs) (w :: us) (by simpa using h) (by simpa using h')
    simp only [revZ, List.reverse_cons, List.append_assoc, List.cons_append, List.nil_append]
    simpa only [List.zip_cons_cons] using this
  | [], _ :: _, _, _, h, _ => by simp at h
  | _ :: _, [], _, _, h, _ => by simp at h
/-- what the __init__ of an exception with the fields fs does -/
def spX (K : PySem.W.Frag) (fs : List Str) : Sp := fun vs H Q _ => ∃ a C ws, vs = .ref a :: ws ∧ ws.length = fs.length ∧ fs.length ≤ 800 ∧ OexC K C ∧ (∀ f ∈ fs, PySem.W.findIn K (.ref C) f = some none) ∧ H a = some (exo a C none) ∧
  ∀ dx H', H dx = none → dx ≠ a → H' a = some (exo a C (some dx)) → H' dx = some (exd dx (revZ fs ws [])) → (∀ b, b ≠ a → b ≠ dx → H' b = H b) → Q .non H'
def tXI (K : PySem.W.Frag) : Nat → List Str → TS
  | _, [] => tNext
  | i, f :: fs => tSeq (tOst K f (tVar 0) (tVar i)) (tXI K (i + 1) fs)
def chkXI : List Str → List Stmt → Bool
  | [], [] => true
  | f :: fs, .Assign [.Attribute (.Name s _) g _] (.Name y _) _ :: r => decide (s = ("self" : Str)) && decide (g = f) && decide (y = f) && !(f == ("__debug__" : Str)) && !(f == ("__classdict__" : Str)) && chkXI fs r
  | _, _ => false
def stXI (H : Hp) (a C : Addr) (done : List (Str × V)) (H' : Hp) : Prop :=
  (done = [] ∧ H' = H) ∨ ∃ dx, H dx = none ∧ dx ≠ a ∧ H' a = some (exo a C (some dx)) ∧ H' dx = some (exd dx done) ∧ ∀ b, b ≠ a → b ≠ dx → H' b = H b
theorem xi_read {K : PySem.W.Frag} {H : Hp} {a C : Addr} {D : Ends} {σ : L2.St} (T : OexC K C) (h0 : σ[0]? = some (some (.ref a))) (hA : H a = some (exo a C none)) : ∀ (fs : List Str) (ws : List V) (i : Nat) (done : List (Str × V)) (H' : Hp), ws.length = fs.length → (∀ f ∈ fs, PySem.W.findIn K (.ref C) f = some none) →
    (∀ (j : Nat) w, ws[j]? = some w → σ[i + j]? = some (some w)) → done.length + fs.length ≤ 900 → stXI H a C done H' → (fs ≠ [] ∨ done ≠ []) →
    (∀ dx H'', H dx = none → dx ≠ a → H'' a = some (exo a C (some dx)) → H'' dx = some (exd dx (revZ fs ws done)) → (∀ b, b ≠ a → b ≠ dx → H'' b = H b) → D.nx σ H'') → tXI K i fs D σ H'
  | [], [], i, done, H', _, _, _, _, st, ne, q => by
    rcases st with ⟨e, _⟩ | ⟨dx, h1, h2, h3, h4, h5⟩
    · rcases ne with z | z
      · exact absurd rfl z
      · exact absurd e z
    · exact q dx H' h1 h2 h3 h4 h5
  | [], _ :: _, _, _, _, h, _, _, _, _, _, _ => by simp at h
  | _ :: _, [], _, _, _, h, _, _, _, _, _, _ => by simp at h
  | f :: fs, w :: ws, i, done, H', hl, hf, hw, hd, st, _, q => by
    refine ⟨w, by simpa using hw 0 w rfl, .ref a, h0, a, C, rfl, T, hf f List.mem_cons_self, ?_⟩
    have next : ∀ (H2 : Hp), stXI H a C ((f, w) :: done) H2 → tXI K (i + 1) fs D σ H2 := fun H2 s2 =>
      xi_read T h0 hA fs ws (i + 1) ((f, w) :: done) H2 (by simpa using hl) (fun g hg => hf g (List.mem_cons_of_mem _ hg)) (fun j u e => by
        have := hw (j + 1) u (by simpa using e)
        rw [← this]; congr 1; omega) (by simp only [List.length_cons] at hd ⊢; omega) s2 (.inr (by simp)) q
    rcases st with ⟨rfl, rfl⟩ | ⟨dx, h1, h2, h3, h4, h5⟩
    · refine .inl ⟨hA, fun dx hdx ne => next _ (.inr ⟨dx, hdx, ne, upd_same, by rw [upd_ne ne, upd_same], fun b hb hb2 => by rw [upd_ne hb, upd_ne hb2]⟩)⟩
    · refine .inr ⟨dx, done, h3, h4, by simp only [List.length_cons] at hd; omega, next _ (.inr ⟨dx, h1, h2, by rw [upd_ne (Ne.symm h2)]; exact h3, upd_same, fun b hb hb2 => by rw [upd_ne hb2]; exact h5 b hb hb2⟩)⟩
section
variable {PR : Program} {w : World} {K : PySem.W.Frag} {mg : Str → Option Value} {base : Heap}
theorem xi_body {X : Cx} (h0 : X.N[0]? = some ("self" : Str)) (v0 : Vis X.env.scope "self") : ∀ (fs : List Str) (i : Nat) (sts : List Stmt), (∀ (j : Nat) f, fs[j]? = some f → X.N[i + j]? = some f ∧ Vis X.env.scope f) → chkXI fs sts = true → PSs X sts (tXI X.K i fs)
  | [], i, sts, _, h => by
    cases sts with
    | nil => exact pss_nil
    | cons => simp [chkXI] at h
  | f :: fs, i, sts, hn, h => by
    unfold chkXI at h
    split at h
    · rename_i e; cases e
    · rename_i f' fs' s p g p2 y p3 p4 r e
      cases e
      simp only [Bool.and_eq_true, Bool.not_eq_true', decide_eq_true_eq] at h
      obtain ⟨⟨⟨⟨⟨rfl, rfl⟩, rfl⟩, h4⟩, h5⟩, h6⟩ := h
      obtain ⟨n1, n2⟩ := hn 0 _ rfl
      refine pss_cons (ps_ost (pe_var h0 v0 (by decide) (by decide)) (pe_var (by simpa using n1) n2 h4 h5) rfl) (xi_body h0 v0 fs (i + 1) r (fun j g e => ?_) h6)
      have := hn (j + 1) g (by simpa using e)
      rw [show i + 1 + j = i + (j + 1) by omega]
      exact this
    · cases h
end
structure XC (PR : Program) (w : World) (K : PySem.W.Frag) (mg : Str → Option Value) (base : Heap) (CT : Nat → Option Addr) (cn : Nat) (x : Str) (C fI : Addr) (fd : FuncData) (fs : List Str) : Prop where
  ct : CT cn = some C
  mgC : mg x = some (.ref C)
  T : OexC K C
  no : ∀ f ∈ fs, PySem.W.findIn K (.ref C) f = some none
  iC : PySem.W.findIn K (.ref C) "__init__" = some (some (.ref fI))
  tI : PySem.W.typeIn K (.ref fI) = some (.type "function")
  ok : FnOk PR w K mg base (L2.CX PR w) 1 fI fd (("self" : Str) :: fs) (spX K fs)
  bd : Binds K fd (("self" : Str) :: fs) []
  ne : fs ≠ [] ∧ fs.length ≤ 800
section
variable {X : Cx} {CT : Nat → Option Addr} {G : Gh} {W : WX} {CF : Nat → List Str} {Φ : Nat → Option OC → List D → FRes}
theorem Reps.reverse {K : PySem.W.Frag} {F : Hp} : ∀ {ds : List D} {vs : List V}, Reps K CT F ds vs → Reps K CT F ds.reverse vs.reverse
  | [], vs, h => by simp only [Reps] at h; subst h; exact Reps.nil
  | d :: ds, vs, h => by
    simp only [Reps] at h
    obtain ⟨v, ws, rfl, h2, h3⟩ := h
    rw [List.reverse_cons, List.reverse_cons]
    exact (Reps.reverse h3).append (Reps.cons h2 Reps.nil)
theorem s_rse {cn : Nat} {fs : List Str} {es : Es} {e : Expr} {as : List Expr} {x : Str} {p pos pos2 : Pos} {C fI : Addr} {fd : FuncData} (XX : XC X.prog X.w X.K X.mg X.base CT cn x C fI fd fs) (hc : X.calm = true) (hr : Room 2 X.A) (tk : Takes X W) (hg : Gl X x)
    (ha : PAv X CT G W CF Φ (e :: as) es) (hdb : (x == ("__debug__" : Str)) = false) (he : starEach (e :: as) X.env = (false, eval e X.env) :: starEach as X.env) (hpl : (backTo pos (starEach as X.env)).any (·.1) = false) :
    PSv X CT G W CF Φ (.Raise (some (.Call (.Name x p) (e :: as) [] pos)) none pos2) (.rse cn fs es) :=
  (ps_raise hc tk (pmk_oex XX.T XX.iC XX.tI XX.ok hr XX.bd .nil (fun pins σ H s u s' I z => by obtain ⟨_, _, _, _, _, _, _, _, _, _, _, _, z⟩ := z; exact z.elim) hg XX.mgC ha hdb he hpl)).imp fun D σ H ⟨S, F, R, h⟩ => by
    simp only [evB] at h
    refine hX_onE R h fun ds S1 F1 vs H1 R1 e1 r1 h1 => ?_
    split at h1
    · rename_i hl
      have hlv : vs.length = fs.length := by rw [← r1.length]; exact hl
      refine ⟨by rw [hlv]; have := XX.ne.2; omega, fun a hA => ?_⟩
      refine ⟨a, C, vs, by rw [List.append_nil], hlv, XX.ne.2, XX.T, XX.no, upd_same, fun dx H' hdx ne k1 k2 k3 => ?_⟩
      rw [upd_ne ne] at hdx
      refine ⟨rfl, dx, _, k1, k2, hdx, ?_⟩
      have eH : upd (del H' a) dx (.xd (revZ fs vs [])) = upd H1 dx (.xd (revZ fs vs [])) := by
        funext b
        by_cases hb : b = dx
        · subst hb; rw [upd_same, upd_same]
        · rw [upd_ne hb, upd_ne hb]
          unfold del
          by_cases hb2 : b = a
          · rw [if_pos hb2, hb2, hA]
          · rw [if_neg hb2, k3 b hb2 hb, upd_ne hb2]
      rw [eH]
      have sd : Same F1 (upd F1 dx (.xd (revZ fs vs []))) := same_upd (R1.freshF hdx)
      refine h1 _ σ _ _ _ sd (R1.settle hdx) ⟨C, XX.ct, rfl, .inr ⟨dx, vs.reverse, rfl, ?_, by rw [List.length_reverse, List.length_reverse]; exact hlv.symm, r1.reverse.mono sd⟩⟩
      have := revZ_eq fs vs [] [] hlv.symm rfl
      simp only [List.append_nil, List.zip_nil_left] at this
      rw [upd_same, this]
    · exact False.elim h1
/-- a class of exceptions without an own __init__ -/
structure XP (K : PySem.W.Frag) (mg : Str → Option Value) (CT : Nat → Option Addr) (cn : Nat) (x : Str) (C : Addr) : Prop where
  ct : CT cn = some C
  mgC : mg x = some (.ref C)
  q : PySem.W.excIn K C [.type "ValueError", .type "Exception", .type "BaseException", .type "object"] "ValueError.__new__" = true
  kC : PySem.W.keepIn K (.ref C) = true
  exC : PySem.W.subIn K (.ref C) (.type "BaseException") = some true
  tyC : PySem.W.typeIn K (.ref C) = some (.type "type")
theorem s_rsp {cn : Nat} {es : Es} {e : Expr} {as : List Expr} {x : Str} {p pos pos2 : Pos} {C : Addr} (XX : XP X.K X.mg CT cn x C) (hc : X.calm = true) (tk : Takes X W) (hg : Gl X x)
    (ha : PAv X CT G W CF Φ (e :: as) es) (hdb : (x == ("__debug__" : Str)) = false) (he : starEach (e :: as) X.env = (false, eval e X.env) :: starEach as X.env) (hpl : (backTo pos (starEach as X.env)).any (·.1) = false) :
    PSv X CT G W CF Φ (.Raise (some (.Call (.Name x p) (e :: as) [] pos)) none pos2) (.rsp cn es) :=
  (ps_raise hc tk (L2.pmk_ownA PySem.F.excBase_ValueError XX.q XX.mgC XX.kC (raises_own XX.exC XX.tyC) hg ha hdb he hpl)).imp fun D σ H ⟨S, F, R, h⟩ => by
    simp only [evB] at h
    refine hX_onE R h fun ds S1 F1 vs H1 R1 e1 r1 h1 => ?_
    split at h1
    · rename_i hl
      have hlv : vs.length ≤ 1000 := by rw [← r1.length]; exact hl
      exact ⟨by rw [sizeLine_eq]; omega, h1 F1 σ H1 _ _ (Same.refl F1) R1 ⟨C, XX.ct, rfl, .inl ⟨rfl, rfl⟩⟩⟩
    · exact False.elim h1
/-- either kind -/
def XA (PR : Program) (w : World) (K : PySem.W.Frag) (mg : Str → Option Value) (base : Heap) (CT : Nat → Option Addr) (cn : Nat) (x : Str) (C fI : Addr) (fd : FuncData) (fs : List Str) : Prop :=
  (fs ≠ [] → XC PR w K mg base CT cn x C fI fd fs) ∧ (fs = [] → XP K mg CT cn x C)
end

set_option Elab.async false
set_option linter.all false
set_option maxRecDepth 100000
set_option maxHeartbeats 4000000
open PySem PySem.Spec PyProof.Rows L2

/-! ### try with several clauses, each with a name -/
abbrev TsE := Addr → Value → Option Addr → TS
def endH (i : Nat) (D : Ends) : Ends := { nx := fun σ' H' => D.nx (σ'.set i none) H', rt := D.rt, bk := fun σ' H' => D.bk (σ'.set i none) H', ct := fun σ' H' => D.ct (σ'.set i none) H' }
def wAll (K : PySem.W.Frag) (Wout : WX) (D : Ends) : List (Value × Nat × TsE) → WX
  | [] => Wout
  | q :: r => fun cls d σ H => ∃ b, PySem.W.exmOne K cls q.1 = some b ∧ (b = true → ∀ a, H a = none → q.2.2 a cls d (endH q.2.1 D) (σ.set q.2.1 (some (.ref a))) H) ∧ (b = false → wAll K Wout D r cls d σ H)
inductive HdA (X : Cx) : List ExceptHandler → List (Value × Nat × TsE) → Prop
  | nil : HdA X [] []
  | cons {x n : Str} {c : Value} {i : Nat} {ts : TsE} {st₀ : Stmt} {sts : List Stmt} {np ps : Pos} {hds : List ExceptHandler} {l : List (Value × Nat × TsE)} (hc : Names X x c) (hi : X.N[i]? = some n) (hln : X.env.kindOf n = some .local)
      (hs : ∀ (a : Addr) (oe : Obj) (cls : Value) (d : Option Addr) (pn : List (Addr × Obj)), Zc cls d oe → (∃ fv, oe.data = .fields fv) → PSs (X.suite a ((a, oe) :: pn)) (st₀ :: sts) (ts a cls d)) (r : HdA X hds l) :
      HdA X (.ExceptHandler (some (.Name x np)) (some n) (st₀ :: sts) ps :: hds) ((c, i, ts) :: l)
section
variable {X : Cx} {body : List Stmt} {hd1 : ExceptHandler} {hds : List ExceptHandler} {l : List (Value × Nat × TsE)} {pos : Pos} {tb : WX → TS} {Wout : WX}
/-- the clauses, one after the other, of a caught exception -/
theorem clauses {pins : List (Addr × Obj)} {σ1 : L2.St} {H1 : Hp} {sI sO : Shared} {D : Ends} {cls : Value} {d : Option Addr} {a : Addr} {hC B : Heap} (hs : X.stack = X.env :: X.outer) (hf : X.env.frame = some X.env.locals) (hN : X.N.Nodup) (tk : Takes X Wout)
    (J : Inv X pins σ1 H1 sI) (nb : ∀ b o, sI.heap.get? b = some o → b ∉ frs X.stack → B.get? b = some o) (upC : sI.heap.UpToSlots hC) (na : H1 a = none) (os : sO.os = sI.os) (ag : AllBare sO.gens) (flC : HandSPX.FlyingZ B (X.env :: X.outer) a (Zc cls d) hC)
    {hds : List ExceptHandler} {l : List (Value × Nat × TsE)} (hk : HdA X hds l) :
    wAll X.K Wout D l cls d σ1 H1 → wpAny (model X.prog X.w) X.A (handleBy (.ref a) X.env hds) (SP X pins D) X.xe { sO with heap := hC } := by
  have ok := J.ok
  have JC : Inv X pins σ1 H1 { sO with heap := hC } := J.landed nb flC.1 upC os ag
  obtain ⟨oeC, fvC, heC, hzC, hdC⟩ := flC.there
  have off : a ∉ frs (X.env :: X.outer) := fun m => by
    obtain ⟨_, oF, eF, nF⟩ := flC.2.2.1.mem m
    rw [heC] at eF; cases eF
    exact nF _ hdC
  have nL : a ≠ X.env.locals := fun z => off (List.mem_filterMap.mpr ⟨X.env, List.mem_cons_self, hf.trans (congrArg some z.symm)⟩)
  have nF : a ∉ X.fs := fun m => by
    obtain ⟨eF, k1, k2⟩ := List.mem_filterMap.mp m
    exact off (List.mem_filterMap.mpr ⟨eF, .tail _ k1, k2⟩)
  have SC := JC.suite heC hdC na nL nF
  induction hk with
  | nil =>
    intro wo
    refine wpAny_handleBy_nil ?_
    obtain ⟨_, _, _, oeX, fvX, tX, _, _, heX, _, hdX, fX, _⟩ := id flC
    unfold PySem.passOn
    refine wpAny_bind (wpAny_field heX hdX fX ?_)
    rw [if_neg (show ¬ ((Value.ref tX == Value.none) = true) from by simp)]
    have fin : wpAny (model X.prog X.w) X.A (setFlight (.ref a) X.env.frame) (fun _ sE => wpAny (model X.prog X.w) X.A (throw (.ref a) : Sem Flow) (SP X pins D) X.xe sE) X.xe { sO with heap := hC } := by
      rw [hf]
      exact HandSPX.setFlight_upZ flC fun hE flE upE => wpAny_throw (tk _ _ ⟨a, B, sI, pins, σ1, H1, cls, d, rfl, J, nb, upC.trans upE, .inr (.inr (by rw [hs]; exact flE)), na, os, ag, wo⟩)
    first
      | exact wpAny_bind (wpAny_pure (wpAny_bind fin))
      | exact wpAny_bind fin
  | @cons x n c i ts st₀ sts np ps hds2 l2 hc hi hln hsu r ih =>
    rintro ⟨b, eb, yes, no⟩
    refine wpAny_handleBy_cons (codeAny_handlers_test ?_) (by intro q; cases q)
    have LM := PySem.W.exm_one (M := model X.prog X.w) JC.kIn (fun A Q E s k q => wpAny_typeOf_ref (k _ _ heC) (by rw [hzC.1]; exact q)) eb
    have test : ∀ {Q : Value → Shared → Prop} {E : Value → Shared → Prop}, Q c { sO with heap := hC } → wpAny (model X.prog X.w) (X.A.mark (some (.ref a))) (eval (.Name x np) X.env) Q E { sO with heap := hC } := fun {Q E} q => by
      obtain ⟨hg, hdb, m | ⟨m, bb, nn⟩⟩ := hc
      · exact ld_glob (X := X.suite a ((a, oeC) :: (X.pn ++ pins))) SC hg m q hdb
      · exact ld_blt (X := X.suite a ((a, oeC) :: (X.pn ++ pins))) SC hg m bb q nn hdb
    refine test (LM.here ?_)
    cases b with
    | false => exact ih (no rfl)
    | true =>
      refine codeAny_handlers_suite_as ?_
      refine HandSPX.lands_againZ flC fun hE flE upE => ?_
      have JE : Inv X pins σ1 H1 { sO with heap := hE } := J.landed nb flE.1 (upC.trans upE) os ag
      obtain ⟨oeE, fvE, heE, hzE, hdE⟩ := flE.there
      have SE := JE.suite heE hdE na nL nF
      refine store_ok (X := X.suite a ((a, oeE) :: (X.pn ++ pins))) (v := .ref a) SE hN hi (.inl hln) rfl (fun sB SB => ?_) (.inr hln)
      refine wpAny_mono ((hsu a oeE cls d (X.pn ++ pins) hzE ⟨_, hdE⟩).run [] sB _ H1 _ SB (yes rfl a na)) (fun f sZ r6 => ?_) fun _ _ z => z.elim
      have gone : ∀ {σ6 : L2.St} {H6 : Hp} {Q : Shared → Prop}, Inv (X.suite a ((a, oeE) :: (X.pn ++ pins))) [] σ6 H6 sZ → (∀ s7, Inv X pins (σ6.set i none) H6 s7 → Q s7) →
          wpAny (model X.prog X.w) X.A (do bindName X.env n .none; unbindBehindTheSuite X.env n ps) (fun _ s7 => Q s7) X.xe sZ := fun {σ6 H6 Q} S6 hq => gone_ok (S6.unsuite ok) hN hi hln hq
      cases f with
      | ret u =>
        obtain ⟨v6, σ6, H6, S6, rv, q6⟩ := r6
        exact gone S6 fun s7 J7 => ⟨v6, _, H6, J7, rv, q6⟩
      | next =>
        obtain ⟨σ6, H6, S6, q6⟩ := r6
        exact gone S6 fun s7 J7 => ⟨_, H6, J7, q6⟩
      | brk =>
        obtain ⟨σ6, H6, S6, q6⟩ := r6
        exact gone S6 fun s7 J7 => ⟨_, H6, J7, q6⟩
      | cont =>
        obtain ⟨σ6, H6, S6, q6⟩ := r6
        exact gone S6 fun s7 J7 => ⟨_, H6, J7, q6⟩
theorem ps_tryA (hs : X.stack = X.env :: X.outer) (hf : X.env.frame = some X.env.locals) (hN : X.N.Nodup) (tk : Takes X Wout)
    (hb : ∀ (W : WX) (pn : List (Addr × Obj)) (xe : Value → Shared → Prop), Takes (X.tr pn xe) W → PassesOwn (model X.prog X.w) X.A X.env xe → PSs (X.tr pn xe) body (tb W))
    (hh : HdA X (hd1 :: hds) l) : PS X (.Try body (hd1 :: hds) [] [] pos) (fun D σ H => tb (wAll X.K Wout D l) D σ H) := by
  refine ⟨fun pins s σ H D I h => wpAny_Try_except ?_⟩
  have ok := I.ok
  have back : ∀ {f : Flow} {s1 : Shared}, SP (X.tr (X.pn ++ pins) (fun e s₁ => wpAny (model X.prog X.w) X.A (noteFrame e X.env) (fun _ s₂ => wpAny (model X.prog X.w) X.A (setFlight e none) (fun _ s₃ => wpAny (model X.prog X.w) X.A (handleBy e X.env (hd1 :: hds)) (SP X pins D) X.xe s₃) X.xe s₂) X.xe s₁)) [] D f s1 → SP X pins D f s1 := fun {f s1} z => by
    cases f with
    | ret u => obtain ⟨v, σ2, H2, J2, rv, q⟩ := z; exact ⟨v, σ2, H2, J2.ofTry ok, rv, q⟩
    | next => obtain ⟨σ2, H2, J2, q⟩ := z; exact ⟨σ2, H2, J2.ofTry ok, q⟩
    | brk => obtain ⟨σ2, H2, J2, q⟩ := z; exact ⟨σ2, H2, J2.ofTry ok, q⟩
    | cont => obtain ⟨σ2, H2, J2, q⟩ := z; exact ⟨σ2, H2, J2.ofTry ok, q⟩
  refine wpAny_mono ((hb (wAll X.K Wout D l) (X.pn ++ pins) _ (fun u s' xx => ?_) PassesOwn.looking).run [] s σ H D (I.toTry _) h) (fun f s1 z => ?_) (fun e s1 he => he)
  · obtain ⟨a, B, sI, pins2, σ2, H2, cls, d, rfl, J2, nb, up, sky, na, os, ag, wo⟩ := xx
    refine Sky.land Zc.steady (by rw [ok.frames, hs]) hf (show Sky B (X.env :: X.outer) a (Zc cls d) X.env.locals s'.heap by rw [← hs]; exact sky) fun hC flC upC => ?_
    exact clauses hs hf hN tk (J2.ofTry ok) nb (up.trans upC) na os ag flC hh wo
  · have z2 := back z
    cases f with
    | next => exact wpAny_execs_nil z2
    | brk => exact z2
    | cont => exact z2
    | ret u => exact z2
end

/-! ### what a clause hands back -/
inductive NmC (mg : Str → Option Value) (x : Str) : Value → Prop
  | own {c : Addr} (h : mg x = some (.ref c)) : NmC mg x (.ref c)
  | bt {t : String} (h : mg x = none) (hb : bootBuiltins x = some (.type t)) (hn : x ≠ "__name__") : NmC mg x (.type t)
theorem NmC.names {X : Cx} {x : Str} {c : Value} (h : NmC X.mg x c) (hg : Gl X x) (hd : (x == ("__debug__" : Str)) = false) : Names X x c := by
  cases h with
  | own h => exact ⟨hg, hd, .inl h⟩
  | bt h hb hn => exact ⟨hg, hd, .inr ⟨h, hb, hn⟩⟩
theorem NmC.pe {X : Cx} {x : Str} {c : Value} {p : Pos} (h : NmC X.mg x c) (hg : Gl X x) (hd : (x == ("__debug__" : Str)) = false) : ∃ v : V, (∀ u, RelV v u → u = c) ∧ PE X (.Name x p) (tC v) := by
  cases h with
  | own h => exact ⟨.ref _, fun u r => r, pe_glob hg h rfl hd⟩
  | bt h hb hn => exact ⟨.ty _, fun u r => r, pe_bltn hg h hb rfl hn hd⟩
/-- what is known of the classes of exceptions, of the names hn that clauses and isinstance name, of the fields hf -/
structure XFacts (K : PySem.W.Frag) (mg : Str → Option Value) (CT : Nat → Option Addr) (CF : Nat → List Str) (hn hf : List Str) : Prop where
  cl : ∀ cn C, 500 ≤ cn → cn < 1000 → CT cn = some C → XfC K C ∧ ExcC K C ∧ ∀ f ∈ hf, PySem.W.findIn K (.ref C) f = some none
  nm : ∀ x ∈ hn, ∃ c, NmC mg x c ∧ ∀ cn C, 500 ≤ cn → cn < 1000 → CT cn = some C → PySem.W.exmOne K (.ref C) c = some (decide (x ∈ CF cn)) ∧ PySem.W.kitOne K (.ref C) c = some (decide (x ∈ CF cn))
def rIsX (K : PySem.W.Frag) (D a : Addr) (d : Option Addr) : List V → Hp → VK → Prop := fun xs H Q => ∃ (c : V) (cv : Value) (b : Bool), xs = [.ref a, c] ∧ (∀ u, RelV c u → u = cv) ∧ (d = none ∨ ∃ dx fs, d = some dx ∧ H dx = some (.xd fs)) ∧ PySem.W.kitOne K (.ref D) cv = some b ∧ Q (.bl b) H
theorem call_isX {X : Cx} {a D : Addr} {oe : Obj} {d : Option Addr} {pn : List (Addr × Obj)} (C : ExcC X.K D) (hz : Zc (.ref D) d oe) (hf : ∃ vs, oe.data = .fields vs) : CallR (X.suite a ((a, oe) :: pn)) (.builtin "isinstance") (rIsX X.K D a d) := by
  intro pins s σ H xs us Q I r ⟨c, cv, b, exs, hcv, hd, ek, q⟩
  subst exs
  cases r with
  | cons rx rr =>
  cases rr with
  | cons rt rr =>
  cases rr
  cases rx
  have ec := hcv _ rt
  subst ec
  obtain ⟨hget, _⟩ := I.pin (a, oe) (List.mem_append_left _ List.mem_cons_self)
  obtain ⟨fv, hv⟩ := hf
  have hnc : PySem.W.notCls oe = true := by unfold PySem.W.notCls; rw [hv] <;> rfl
  have J : ∃ od, PySem.W.InstAt s.heap a oe D od := by
    rcases hd with rfl | ⟨dx, fs, rfl, hx⟩
    · refine ⟨none, hget, hz.1, hnc, ?_⟩
      rw [hz.2]; trivial
    · obtain ⟨mA, hns, _⟩ := (show ObjOk X.prog X.w H s.heap dx (.xd fs) from I.hok dx _ hx)
      obtain ⟨od, ho, _⟩ := lookIn_ns hns
      exact ⟨some od, hget, hz.1, hnc, by rw [hz.2]; exact ho⟩
  obtain ⟨od, J⟩ := J
  obtain ⟨cd, hc, _⟩ := PySem.W.any_some C.hd
  exact PySem.W.kia_one (PySem.W.kitx_exc (by rw [hc] <;> rfl) C.hg C.hk C.hs C.ha C.hn C.ht C.hm) I.kIn J ek (fun z => nomatch z) fun tk => ⟨.bl b, H, I.kept (t' := tk) fun _ _ z => z, rfl, q⟩
section
variable (X : Cx) (CT : Nat → Option Addr) (G : Gh)
structure HC (F : Hp) (σ : L2.St) (i : Nat) (a : Addr) (cls : Value) (d : Option Addr) (cn : Nat) (fn : List Str) (vs : List D) : Prop where
  slot : σ[i]? = some (some (.ref a))
  xr : ExcR X.K CT F F cn fn vs cls d
  lo : 500 ≤ cn
  up : cn < 1000
def PH {α β : Type} (R : Hp → α → β → Prop) (o : Option α) (S : List SD) (F : Hp) (σ : L2.St) (Q : β → Hp → Prop) : Prop :=
  match o with
  | some r => ∀ F' b H', Same F F' → SR X.K CT G S F' σ H' → R F' r b → Q b H'
  | none => False
def hH {α β : Type} (i : Nat) (a : Addr) (cls : Value) (d : Option Addr) (R : Hp → α → β → Prop) (ev : Nat → List Str → List D → Option α) : L2.St → Hp → (β → Hp → Prop) → Prop := fun σ H Q =>
  ∃ S F cn fn vs, SR X.K CT G S F σ H ∧ HC X CT F σ i a cls d cn fn vs ∧ PH X CT G R (ev cn fn vs) S F σ Q
end
section
variable {X : Cx} {CT : Nat → Option Addr} {G : Gh} {CF : Nat → List Str} {i : Nat} {a : Addr} {cls : Value} {d : Option Addr} {oe : Obj} {pn : List (Addr × Obj)} {hn hf : List Str}
theorem HC.mono {F F' : Hp} {σ : L2.St} {cn : Nat} {fn : List Str} {vs : List D} (e : Same F F') (h : HC X CT F σ i a cls d cn fn vs) : HC X CT F' σ i a cls d cn fn vs := by
  obtain ⟨h1, ⟨C, c1, c2, c3⟩, h3, h4⟩ := h
  refine ⟨h1, ⟨C, c1, c2, c3.imp id ?_⟩, h3, h4⟩
  rintro ⟨dx, ws, e1, e2, e3, e4⟩
  exact ⟨dx, ws, e1, e _ _ e2, e3, e4.mono e⟩
variable (X CT G CF i a cls d oe pn) in
abbrev PHv (t : Expr) (h : HX) : Prop := PE (X.suite a ((a, oe) :: pn)) t (hH X CT G i a cls d (RE X.K CT) fun cn fn vs => evH CF cn fn vs h)
variable (X CT G CF i a cls d oe pn) in
abbrev PHa (ts : List Expr) (h : HXs) : Prop := PA (X.suite a ((a, oe) :: pn)) ts (hH X CT G i a cls d (RA X.K CT) fun cn fn vs => evHs CF cn fn vs h)
variable (X CT G CF i a cls d oe pn) in
abbrev PHt (t : Expr) (h : HX) : Prop := PT (X.suite a ((a, oe) :: pn)) t (hH X CT G i a cls d RB fun cn fn vs => (evH CF cn fn vs h).bind isBlD)
theorem PH.of {α β : Type} {R : Hp → α → β → Prop} {o : Option α} {r : α} {S : List SD} {F : Hp} {σ : L2.St} {Q : β → Hp → Prop} (e : o = some r) (k : ∀ F' b H', Same F F' → SR X.K CT G S F' σ H' → R F' r b → Q b H') : PH X CT G R o S F σ Q := by
  subst e; exact k
theorem PH.mono {α β : Type} {R : Hp → α → β → Prop} {o : Option α} {S : List SD} {F F1 : Hp} {σ : L2.St} {Q : β → Hp → Prop} (s : Same F F1) (k : PH X CT G R o S F σ Q) : PH X CT G R o S F1 σ Q := by
  cases o with
  | none => exact k
  | some r => exact fun F' b H' s' => k F' b H' (s.trans s')
theorem h_const {h : HX} {e : D} {t : Expr} {v : V} (p : PE (X.suite a ((a, oe) :: pn)) t (tC v)) (hc : ∀ cn fn vs, evH CF cn fn vs h = some e) (r : ∀ F, Rep X.K CT F e v) : PHv X CT G CF i a cls d oe pn t h :=
  p.imp fun σ H Q ⟨S, F, cn, fn, vs, I, c, q⟩ => by
    have q : PH X CT G (RE X.K CT) (evH CF cn fn vs h) S F σ Q := q
    rw [hc] at q
    exact q F v H (Same.refl F) I (r F)
theorem h_fld {f n : Str} {p pos : Pos} (XF : XFacts X.K X.mg CT CF hn hf) (hm : f ∈ hf) (hz : Zc cls d oe) (hfl : ∃ vs, oe.data = .fields vs) (hN : X.N[i]? = some n) (hv : Vis X.env.scope n) (hd : (n == ("__debug__" : Str)) = false) (hcd : (n == ("__classdict__" : Str)) = false) :
    PHv X CT G CF i a cls d oe pn (.Attribute (.Name n p) f pos) (.fld f) := by
  refine ⟨fun pins s σ H Q I h => ?_⟩
  obtain ⟨S, F, cn, fn, vs, R, c, q⟩ := h
  obtain ⟨C, ct, ec, alt⟩ := c.xr
  simp only [evH] at q
  cases el : (fn.zip vs).lookup f with
  | none => rw [el] at q; exact q.elim
  | some e =>
    rw [el] at q
    rcases alt with ⟨rfl, _⟩ | ⟨dx, ws, ed, eF, _, rw_⟩
    · simp at el
    · obtain ⟨v, l, rv⟩ := zip_lookup rw_ el
      obtain ⟨x1, x2, x3⟩ := XF.cl cn C c.lo c.up ct
      exact (pe_xf x1 (x3 f hm) hz hfl (pe_var (X := X.suite a ((a, oe) :: pn)) hN hv hd hcd)).run pins s σ H Q I ⟨_, c.slot, rfl, ec, dx, _, v, ed, R.sub _ _ eF, l, q F v H (Same.refl F) R rv⟩
theorem h_inst {x n : Str} {p p1 p2 pos : Pos} (XF : XFacts X.K X.mg CT CF hn hf) (hm : x ∈ hn) (hz : Zc cls d oe) (hfl : ∃ vs, oe.data = .fields vs) (hN : X.N[i]? = some n) (hv : Vis X.env.scope n) (hd : (n == ("__debug__" : Str)) = false) (hcd : (n == ("__classdict__" : Str)) = false)
    (gi : Gl X "isinstance") (mi : X.mg "isinstance" = none) (gx : Gl X x) (dx : (x == ("__debug__" : Str)) = false) : PHv X CT G CF i a cls d oe pn (.Call (.Name "isinstance" p) [.Name n p1, .Name x p2] [] pos) (.inst x) := by
  refine ⟨fun pins s σ H Q I h => ?_⟩
  obtain ⟨S, F, cn, fn, vs, R, c, q⟩ := h
  obtain ⟨C, ct, ec, alt⟩ := c.xr
  obtain ⟨cv, nc, k⟩ := XF.nm x hm
  obtain ⟨v, rv, pv⟩ := nc.pe (X := X.suite a ((a, oe) :: pn)) (p := p2) gx dx
  obtain ⟨x1, x2, x3⟩ := XF.cl cn C c.lo c.up ct
  subst ec
  refine (pe_callB (X := X.suite a ((a, oe) :: pn)) (call_isX x2 hz hfl) gi mi (by decide +kernel) (pa_cons (pe_var (X := X.suite a ((a, oe) :: pn)) hN hv hd hcd) (pa_cons pv pa_nil rfl) rfl) (by decide) (by decide) rfl rfl).run pins s σ H Q I ?_
  refine ⟨_, c.slot, v, cv, _, rfl, rv, ?_, (k cn C c.lo c.up ct).2, ?_⟩
  · rcases alt with ⟨_, e⟩ | ⟨dx, ws, ed, eF, _⟩
    · exact .inl e
    · exact .inr ⟨dx, _, ed, R.sub _ _ eF⟩
  · simp only [evH] at q
    exact q F _ H (Same.refl F) R (by simp only [RE, Rep])
theorem h_nil : PHa X CT G CF i a cls d oe pn [] .nil := pa_nil.imp fun σ H Q ⟨S, F, cn, fn, vs, I, c, q⟩ => by
  simp only [evHs] at q
  exact q F [] H (Same.refl F) I Reps.nil
theorem h_cons {t : Expr} {ts : List Expr} {h : HX} {r : HXs} (p : PHv X CT G CF i a cls d oe pn t h) (q : PHa X CT G CF i a cls d oe pn ts r) (hs : starEach (t :: ts) X.env = (false, eval t X.env) :: starEach ts X.env) : PHa X CT G CF i a cls d oe pn (t :: ts) (.cons h r) :=
  (pa_cons (X := X.suite a ((a, oe) :: pn)) p q hs).imp fun σ H Q ⟨S, F, cn, fn, vs, I, c, q⟩ => by
    simp only [evHs] at q
    cases e1 : evH CF cn fn vs h with
    | none => rw [e1] at q; exact q.elim
    | some d1 =>
      cases e2 : evHs CF cn fn vs r with
      | none => rw [e1, e2] at q; exact q.elim
      | some ds =>
        rw [e1, e2] at q
        exact ⟨S, F, cn, fn, vs, I, c, PH.of e1 fun F1 v H1 s1 I1 r1 => ⟨S, F1, cn, fn, vs, I1, c.mono s1, PH.of e2 fun F2 us H2 s2 I2 r2 => q F2 (v :: us) H2 (s1.trans s2) I2 (Reps.cons (Rep.mono s2 _ r1) r2)⟩⟩
theorem h_tup {ts : List Expr} {h : HXs} {x1 : Nat} {pos : Pos} (p : PHa X CT G CF i a cls d oe pn ts h) : PHv X CT G CF i a cls d oe pn (.Tuple ts x1 pos) (.tup h) :=
  (pe_tup (X := X.suite a ((a, oe) :: pn)) p).imp fun σ H Q ⟨S, F, cn, fn, vs, I, c, q⟩ => by
    simp only [evH] at q
    cases e1 : evHs CF cn fn vs h with
    | none => rw [e1] at q; exact q.elim
    | some ds =>
      rw [e1] at q
      refine ⟨S, F, cn, fn, vs, I, c, PH.of e1 fun F1 us H1 s1 I1 r1 => ?_⟩
      by_cases hz : ds.length ≤ cap
      · simp only [if_pos hz] at q
        refine ⟨cap_le (by rw [← r1.length]; exact hz), fun pp hp => ?_⟩
        have s2 : Same F1 (upd F1 pp (.tup us)) := same_upd (I1.freshF hp)
        refine q _ _ _ (s1.trans s2) (I1.settle hp) ?_
        simp only [RE, Rep]
        exact ⟨pp, us, rfl, SqT.of upd_same, Reps.mono s2 ds r1⟩
      · simp only [if_neg hz] at q; exact q.elim
theorem h_conj {x y : Expr} {h k : HX} {pos : Pos} (p : PHv X CT G CF i a cls d oe pn x h) (q : PHv X CT G CF i a cls d oe pn y k) : PHv X CT G CF i a cls d oe pn (.BoolOp .And [x, y] pos) (.conj h k) :=
  (pe_and (X := X.suite a ((a, oe) :: pn)) p (pe_one q)).imp fun σ H Q ⟨S, F, cn, fn, vs, I, c, q⟩ => by
    simp only [evH] at q
    cases e1 : evH CF cn fn vs h with
    | none => rw [e1] at q; exact q.elim
    | some d1 =>
      rw [e1] at q
      refine ⟨S, F, cn, fn, vs, I, c, PH.of e1 fun F1 v H1 s1 I1 r1 => ?_⟩
      cases d1 with
      | bl b =>
        simp only [RE, Rep] at r1; subst r1
        refine ⟨b, rfl, ?_⟩
        cases b with
        | true =>
          exact iteT ⟨S, F1, cn, fn, vs, I1, c.mono s1, PH.mono s1 q⟩
        | false => exact iteF (q F1 _ H1 s1 I1 (by simp only [RE, Rep]))
      | _ => exact q.elim
theorem h_ite {z x y : Expr} {c0 h k : HX} {pos : Pos} (w : PHt X CT G CF i a cls d oe pn z c0) (p : PHv X CT G CF i a cls d oe pn x h) (q : PHv X CT G CF i a cls d oe pn y k) : PHv X CT G CF i a cls d oe pn (.IfExp z x y pos) (.ite c0 h k) :=
  (pe_ifExp (X := X.suite a ((a, oe) :: pn)) w p q).imp fun σ H Q ⟨S, F, cn, fn, vs, I, c, q⟩ => by
    simp only [evH] at q
    cases e1 : evH CF cn fn vs c0 with
    | none => rw [e1] at q; exact q.elim
    | some d1 =>
      rw [e1] at q
      cases d1 with
      | bl b =>
        refine ⟨S, F, cn, fn, vs, I, c, PH.of (r := b) (by dsimp only; rw [e1]; rfl) fun F1 b' H1 s1 I1 r1 => ?_⟩
        cases r1
        cases b with
        | true =>
          exact iteT ⟨S, F1, cn, fn, vs, I1, c.mono s1, PH.mono s1 q⟩
        | false =>
          exact iteF ⟨S, F1, cn, fn, vs, I1, c.mono s1, PH.mono s1 q⟩
      | _ => exact q.elim
theorem h_tst {x : Expr} {h : HX} (p : PHv X CT G CF i a cls d oe pn x h) (he : ∀ whole, isTrue x X.env whole = (do let v ← whole; standAt x.pos; holding [v] (truthy v))) : PHt X CT G CF i a cls d oe pn x h :=
  (pt_truth (X := X.suite a ((a, oe) :: pn)) p he).imp fun σ H Q ⟨S, F, cn, fn, vs, I, c, q⟩ => by
    have q : PH X CT G RB ((evH CF cn fn vs h).bind isBlD) S F σ Q := q
    cases e1 : evH CF cn fn vs h with
    | none => rw [e1] at q; exact q.elim
    | some d1 =>
      rw [e1] at q
      refine ⟨S, F, cn, fn, vs, I, c, PH.of e1 fun F1 v H1 s1 I1 r1 => ?_⟩
      cases d1 with
      | bl b =>
        simp only [RE, Rep] at r1; subst r1
        exact ⟨b, rfl, q F1 b H1 s1 I1 rfl⟩
      | _ => exact q.elim
theorem h_tconj {x y : Expr} {h k : HX} {pos : Pos} (p : PHt X CT G CF i a cls d oe pn x h) (q : PHt X CT G CF i a cls d oe pn y k) : PHt X CT G CF i a cls d oe pn (.BoolOp .And [x, y] pos) (.conj h k) :=
  (pw_and (X := X.suite a ((a, oe) :: pn)) p (pw_and1 q)).pt.imp fun σ H Q ⟨S, F, cn, fn, vs, I, c, q⟩ => by
    simp only [evH] at q
    cases e1 : evH CF cn fn vs h with
    | none => rw [e1] at q; exact q.elim
    | some d1 =>
      rw [e1] at q
      cases d1 with
      | bl b =>
        refine ⟨S, F, cn, fn, vs, I, c, PH.of (r := b) (by dsimp only; rw [e1]; rfl) fun F1 b' H1 s1 I1 r1 => ?_⟩
        cases r1
        cases b with
        | true =>
          exact iteT ⟨S, F1, cn, fn, vs, I1, c.mono s1, PH.mono s1 q⟩
        | false => exact iteF (q F1 _ H1 s1 I1 rfl)
      | _ => exact q.elim
/-- the suite: it hands back -/
def tsH (X : Cx) (CT : Nat → Option Addr) (G : Gh) (CF : Nat → List Str) (i : Nat) (h : HX) : TsE := fun a cls d D σ H => hH X CT G i a cls d (RE X.K CT) (fun cn fn vs => evH CF cn fn vs h) σ H fun v H' => D.rt v H'
theorem h_ret {t : Expr} {h : HX} {pos : Pos} (p : PHv X CT G CF i a cls d oe pn t h) : PSs (X.suite a ((a, oe) :: pn)) [.Return (some t) pos] (tsH X CT G CF i h a cls d) :=
  (pss_cons (ps_ret (X := X.suite a ((a, oe) :: pn)) p) pss_nil).imp fun D σ H q => q
end
section
variable {X : Cx} {CT : Nat → Option Addr} {G : Gh} {W : WX} {CF : Nat → List Str} {Φ : Nat → Option OC → List D → FRes} {hn hf : List Str}
variable (X CT G CF) in
inductive HdV : List ExceptHandler → List (Str × Nat × HX) → List (Value × Nat × TsE) → Prop
  | nil : HdV [] [] []
  | cons {x n : Str} {c : Value} {i : Nat} {h : HX} {t : Expr} {np rp ps : Pos} {hds : List ExceptHandler} {hs : List (Str × Nat × HX)} {l : List (Value × Nat × TsE)} (nc : NmC X.mg x c) (hg : Gl X x) (hd : (x == ("__debug__" : Str)) = false)
      (k : ∀ cn C, 500 ≤ cn → cn < 1000 → CT cn = some C → PySem.W.exmOne X.K (.ref C) c = some (decide (x ∈ CF cn))) (hi : X.N[i]? = some n) (hln : X.env.kindOf n = some .local)
      (he : ∀ (a : Addr) (oe : Obj) (cls : Value) (d : Option Addr) (pn : List (Addr × Obj)), Zc cls d oe → (∃ fv, oe.data = .fields fv) → PHv X CT G CF i a cls d oe pn t h) (r : HdV hds hs l) :
      HdV (.ExceptHandler (some (.Name x np)) (some n) [.Return (some t) rp] ps :: hds) ((x, i, h) :: hs) ((c, i, tsH X CT G CF i h) :: l)
theorem HdV.ok {hds : List ExceptHandler} {hs : List (Str × Nat × HX)} {l : List (Value × Nat × TsE)} (h : HdV X CT G CF hds hs l) : HdA X hds l := by
  induction h with
  | nil => exact .nil
  | cons nc hg hd k hi hln he r ih => exact .cons (nc.names hg hd) hi hln (fun a oe cls d pn z f => h_ret (he a oe cls d pn z f)) ih
/-- the clauses' wishes are kept -/
theorem tri_wish {D : Ends} {cn : Nat} {fn : List Str} {vs : List VI.D} {S : List SD} {F H : Hp} {σ : L2.St} {cls : Value} {d : Option Addr} (lo : 500 ≤ cn) (up : cn < 1000) (I : SR X.K CT G S F σ H) (xr : ExcR X.K CT F H cn fn vs cls d) {hds : List ExceptHandler} {hs : List (Str × Nat × HX)} {l : List (Value × Nat × TsE)}
    (hh : HdV X CT G CF hds hs l) : PoS X.K CT G W (triH CF cn fn vs S hs) F D → wAll X.K W D l cls d σ H := by
  induction hh with
  | nil => exact fun q => q F σ H cls d (Same.refl F) I xr
  | @cons x n c i h t np rp ps hds hs l nc hg hd k hi hln he r ih =>
    intro q
    simp only [triH] at q
    obtain ⟨C, ct, ec, xa⟩ := id xr
    refine ⟨_, by rw [ec]; exact k cn C lo up ct, fun y a na => ?_, fun y => ih ?_⟩
    · rw [if_pos (of_decide_eq_true y)] at q
      split at q
      · rename_i hl
        refine ⟨S.set i .un, F, cn, fn, vs, I.forget, ⟨List.getElem?_set_self (by rw [← I.len]; exact hl), ⟨C, ct, ec, xa⟩, lo, up⟩, ?_⟩
        cases e1 : evH CF cn fn vs h with
        | none => rw [e1] at q; exact q.elim
        | some e =>
          rw [e1] at q
          exact PH.of e1 fun F' v H' s I' rv => q F' v _ H' s I' rv
      · exact q.elim
    · rwa [if_neg (of_decide_eq_false y)] at q
theorem s_tri {b : Bs} {hs : List (Str × Nat × HX)} {hds : List ExceptHandler} {hd1 : ExceptHandler} {l : List (Value × Nat × TsE)} {body : List Stmt} {pos : Pos} (stk : X.stack = X.env :: X.outer) (frm : X.env.frame = some X.env.locals) (hND : X.N.Nodup) (tk : Takes X W)
    (hb : ∀ (W : WX) (pn : List (Addr × Obj)) (xe : Value → Shared → Prop), Takes (X.tr pn xe) W → PassesOwn (model X.prog X.w) X.A X.env xe → PBv (X.tr pn xe) CT G W CF Φ body b) (hh : HdV X CT G CF (hd1 :: hds) hs l) :
    PSv X CT G W CF Φ (.Try body (hd1 :: hds) [] [] pos) (.tri b hs) :=
  (ps_tryA (tb := fun W => hS X.K CT G W (evBs CF Φ b)) stk frm hND tk hb hh.ok).imp fun D σ H ⟨S, F, I, q⟩ => by
    refine ⟨S, F, I, ?_⟩
    simp only [evB] at q
    cases e : evBs CF Φ b S with
    | exc cn fn vs S1 =>
      rw [e] at q
      simp only at q
      split at q
      · rename_i hz
        exact fun F' σ' H' cls d s I' xr => tri_wish hz.1 hz.2 I' xr hh (q.mono s)
      · exact q.elim
    | _ => rw [e] at q; exact q
end

set_option Elab.async false
set_option linter.all false
set_option maxRecDepth 100000
set_option maxHeartbeats 4000000
open PySem PySem.Spec PyProof.Rows L2

section
variable {X : Cx} {CT : Nat → Option Addr} {G : Gh} {W : WX} {CF : Nat → List Str} {Φ : Nat → Option OC → List D → FRes}
/-! ### methods of an owned list -/
theorem peek_ty {S : List SD} {F H : Hp} {σ : L2.St} (I : SR X.K CT G S F σ H) {i : Nat} {xs : List D} (h : peekS S i = some (.lst xs)) : ∃ a, σ[i]? = some (some (V.ref a)) ∧ tyV X.K "list" (.ref a) H := by
  obtain ⟨a, vs, h1, h2, _⟩ := peek_lst I h
  exact ⟨a, h1, .inl ⟨rfl, vs, SqL.of h2⟩⟩
theorem v_app {i : Nat} {a : E} {x : Str} {ea : Expr} {p apos pos : Pos} (hN : X.N[i]? = some x) (hv : Vis X.env.scope x) (hd : (x == ("__debug__" : Str)) = false) (hcd : (x == ("__classdict__" : Str)) = false) (ha : PEv X CT G W CF Φ ea a)
    (he : starEach [ea] X.env = (false, eval ea X.env) :: starEach [] X.env) (hline : (apos.endLine == pos.line) = true) : PEv X CT G W CF Φ (.Call (.Attribute (.Name x p) "append" apos) [ea] [] pos) (.app i a) :=
  (pe_bm PySem.F.plainAttrs_list PySem.F.slot_list_append PySem.F.type_list_append mt_append (pe_var hN hv hd hcd) (pa_cons ha pa_nil he) (hfew := by rw [he]; rfl) (hline := hline) (hs := he)).imp fun σ H Q ⟨S, F, I, h⟩ => by
    simp only [evE] at h
    split at h
    · rename_i xs0 q0
      obtain ⟨b, k1, k2⟩ := peek_ty I q0
      refine ⟨_, k1, k2, ?_⟩
      refine hX_bind I h fun d S1 F1 v H1 I1 e1 r1 h1 => ?_
      split at h1
      · rename_i fz xs q
        obtain ⟨b', g1, g2, g3⟩ := I1.own i _ _ q
        rw [k1] at g1; cases g1
        obtain ⟨g4, vs, g5, g6⟩ := g2
        split at h1
        · rename_i hz
          refine ⟨b, vs, v, rfl, rfl, g5, cap_lt (by rw [← g6.length]; exact hz), ?_⟩
          refine h1.ok (I1.chg q k1 (fun c hc => upd_ne hc) ⟨g4, _, upd_same, g6.append (Reps.cons r1 Reps.nil)⟩) (by simp only [RE, Rep])
        · exact False.elim h1
      · exact False.elim h1
    · exact False.elim h
theorem v_pop1 {i : Nat} {es : Es} {x : Str} {ea : Expr} {p apos pos : Pos} (hN : X.N[i]? = some x) (hv : Vis X.env.scope x) (hd : (x == ("__debug__" : Str)) = false) (hcd : (x == ("__classdict__" : Str)) = false) (ha : PAv X CT G W CF Φ [ea] es) (hn1 : eslen es = 1)
    (he : starEach [ea] X.env = (false, eval ea X.env) :: starEach [] X.env) (hline : (apos.endLine == pos.line) = true) : PEv X CT G W CF Φ (.Call (.Attribute (.Name x p) "pop" apos) [ea] [] pos) (.pop i es) :=
  (pe_bm PySem.F.plainAttrs_list PySem.F.slot_list_pop PySem.F.type_list_pop mt_popAt (pe_var hN hv hd hcd) ha (hfew := by rw [he]; rfl) (hline := hline) (hs := he)).imp fun σ H Q ⟨S, F, I, h⟩ => by
    simp only [evE] at h
    split at h
    · rename_i xs0 q0
      obtain ⟨b, k1, k2⟩ := peek_ty I q0
      refine ⟨_, k1, k2, ?_⟩
      refine hX_bind' I h fun ds S1 F1 vs0 H1 ev0 I1 e1 r1 h1 => ?_
      split at h1
      · rename_i fz xs k q
        obtain ⟨b', g1, g2, g3⟩ := I1.own i _ _ q
        rw [k1] at g1; cases g1
        obtain ⟨g4, vs, g5, g6⟩ := g2
        obtain ⟨v, rfl, rv⟩ := reps1 r1
        simp only [Rep] at rv; subst rv
        split at h1
        · rename_i hb
          split at h1
          · rename_i j hj
            split at h1
            · rename_i d hd2
              obtain ⟨u, g7, g8⟩ := g6.get hd2
              refine ⟨b, vs, k, j, u, rfl, rfl, g5, hb.1, hb.2, by rw [← g6.length]; exact hj, g7, ?_⟩
              exact h1.ok (I1.chg q k1 (fun c hc => upd_ne hc) ⟨g4, _, upd_same, g6.eraseIdx j⟩) g8
            · exact False.elim h1
          · exact False.elim h1
        · exact False.elim h1
      · rename_i fz xs q
        exact absurd (evEs_len ev0) (by rw [hn1]; simp)
      · exact False.elim h1
    · exact False.elim h

/-! ### list comprehensions -/
theorem _root_.L2.PTs.imp {ifs : List Expr} {t t' : TT} (h : PTs X ifs t) (i : ∀ σ H Q, t' σ H Q → t σ H Q) : PTs X ifs t' := ⟨fun pins s σ H Q I q => h.run pins s σ H Q I (i σ H Q q)⟩
abbrev PCv (X : Cx) (CT : Nat → Option Addr) (G : Gh) (W : WX) (CF : Nat → List Str) (Φ : Nat → Option OC → List D → FRes) (ifs : List Expr) (c : E) : Prop := PTs X ifs (hT X.K CT G W (evC CF Φ c))
theorem c_none : PCv X CT G W CF Φ [] .hole := pts_nil.imp fun σ H Q ⟨S, F, I, h⟩ => by
  simp only [evC] at h
  exact h.ok I rfl
theorem c_one {c : E} {e : Expr} (h : PTv X CT G W CF Φ e c) (hc : ∀ S, evC CF Φ c S = evT CF Φ c S) : PCv X CT G W CF Φ [e] c := (pts_one h).imp fun σ H Q ⟨S, F, I, h⟩ => ⟨S, F, I, by rw [← hc]; exact h⟩
section
variable {K : PySem.W.Frag} {S S' : List SD} {F F' H H' : Hp} {σ : L2.St}
theorem SR.wipe (I : SR K CT G S F σ H) : ∀ vs : List Nat, SR K CT G (wipeS S vs) F (L2.wipe σ vs) H
  | [] => I
  | v :: vs => by simp only [wipeS, L2.wipe]; exact (SR.wipe I vs).forget
theorem wipeS_out : ∀ {vs : List Nat} {i : Nat}, i ∉ vs → (wipeS S vs)[i]? = S[i]?
  | [], _, _ => rfl
  | v :: vs, i, h => by
    simp only [List.mem_cons, not_or] at h
    simp only [wipeS]
    rw [List.getElem?_set_ne (fun z => h.1 z.symm)]
    exact wipeS_out h.2
theorem backS_out {T : List SD} : ∀ {vs : List Nat} {i : Nat}, i ∉ vs → (backS S vs T)[i]? = T[i]?
  | [], _, _ => rfl
  | v :: vs, i, h => by
    simp only [List.mem_cons, not_or] at h
    simp only [backS]
    rw [List.getElem?_set_ne (fun z => h.1 z.symm)]
    exact backS_out h.2
theorem backS_len {T : List SD} : ∀ (vs : List Nat), (backS S vs T).length = T.length
  | [] => rfl
  | v :: vs => by simp only [backS]; rw [List.length_set]; exact backS_len vs
theorem backS_in {T : List SD} {i : Nat} {y : SD} : ∀ {vs : List Nat}, i ∈ vs → (backS S vs T)[i]? = some y → y = S[i]?.getD .un
  | [], h, _ => by cases h
  | v :: vs, h, e => by
    simp only [backS] at e
    rcases set_own e with ⟨z, q, _⟩ | ⟨z, q⟩
    · subst z; exact q.symm
    · rcases List.mem_cons.mp h with r | r
      · exact absurd r.symm z
      · exact backS_in r q
/-- the comprehension's own names forgotten again, the def's as they were -/
theorem SR.back {vs : List Nat} (I0 : SR K CT G S F σ H) (e : Same F F') (I : SR K CT G S' F' (L2.wipe σ vs) H') (hv : vs.all (fun v => isVal S[v]?) = true) : SR K CT G (backS S vs S') F' σ H' where
  len := by rw [backS_len, I.len, wipe_length]
  sub := I.sub
  val := fun i d h => by
    by_cases hi : i ∈ vs
    · have := backS_in hi h
      cases q : S[i]? with
      | none => rw [q] at this; cases this
      | some y =>
        rw [q] at this
        simp only [Option.getD_some] at this
        subst this
        obtain ⟨v, h1, h2⟩ := I0.val i d q
        exact ⟨v, h1, Rep.mono e d h2⟩
    · rw [backS_out hi] at h
      obtain ⟨v, h1, h2⟩ := I.val i d h
      rw [wipe_out hi] at h1
      exact ⟨v, h1, h2⟩
  own := fun i fz o h => by
    by_cases hi : i ∈ vs
    · have := backS_in hi h
      have hv' := List.all_eq_true.mp hv i hi
      cases q : S[i]? with
      | none => rw [q] at this; cases this
      | some y =>
        rw [q] at this hv'
        simp only [Option.getD_some] at this
        subst this
        cases hv'
    · rw [backS_out hi] at h
      obtain ⟨a, h1, h2⟩ := I.own i fz o h
      rw [wipe_out hi] at h1
      exact ⟨a, h1, h2⟩
  inj := fun i j a fz o fz' o' h1 h2 h3 h4 => by
    have out : ∀ (k : Nat) (f : Bool) (u : OC), (backS S vs S')[k]? = some (SD.own f u) → k ∉ vs := fun k f u h hk => by
      have := backS_in hk h
      have hv' := List.all_eq_true.mp hv k hk
      cases q : S[k]? with
      | none => rw [q] at this; cases this
      | some y =>
        rw [q] at this hv'
        simp only [Option.getD_some] at this
        subst this
        cases hv'
    have o1 := out i fz o h1
    have o2 := out j fz' o' h2
    rw [backS_out o1] at h1
    rw [backS_out o2] at h2
    exact I.inj i j a fz o fz' o' h1 h2 (by rw [wipe_out o1]; exact h3) (by rw [wipe_out o2]; exact h4)
  keep := I.keep
  iot := I.iot
  tab := I.tab
  tabF := I.tabF
  frz := I.frz
  F0 := I.F0
/-- the ghost that holds a thing at D for a while -/
def Gh.pin (G : Gh) (D : Addr) (o : HO) : Gh := { G with H0 := fun b => if b = D then some o else G.H0 b }
theorem pin_same {D : Addr} {o : HO} : (G.pin D o).H0 D = some o := if_pos rfl
theorem pin_ne {D b : Addr} {o : HO} (h : b ≠ D) : (G.pin D o).H0 b = G.H0 b := if_neg h
theorem SR.pin (I : SR K CT G S F σ H) {D : Addr} {o : HO} (hD : H D = some o) (hF : F D = none) (no : ∀ (i : Nat) (fz : Bool) (oc : OC), S[i]? = some (SD.own fz oc) → σ[i]? ≠ some (some (V.ref D))) : SR K CT (G.pin D o) S F σ H where
  len := I.len
  sub := I.sub
  val := I.val
  own := fun i fz oc h => by
    obtain ⟨a, h1, h2, h3, h4⟩ := I.own i fz oc h
    have ne : a ≠ D := fun z => by subst z; exact no i fz oc h h1
    exact ⟨a, h1, h2, fun z => by rw [pin_ne ne]; exact h3 z, h4⟩
  inj := I.inj
  keep := fun b u e n t => by
    by_cases z : b = D
    · subst z; rw [pin_same] at e; cases e; exact hD
    · rw [pin_ne z] at e; exact I.keep b u e n t
  iot := I.iot
  tab := I.tab
  tabF := I.tabF
  frz := fun b h1 h2 => by
    by_cases z : b = D
    · subst z; exact hF
    · rw [pin_ne z] at h2; exact I.frz b h1 h2
  F0 := I.F0
theorem SR.unpin {D : Addr} {o : HO} (I : SR K CT (G.pin D o) S F σ H) (h0 : G.H0 D = none) : SR K CT G S F σ H where
  len := I.len
  sub := I.sub
  val := I.val
  own := fun i fz oc h => by
    obtain ⟨a, h1, h2, h3, h4⟩ := I.own i fz oc h
    refine ⟨a, h1, h2, fun z => ?_, h4⟩
    have := h3 z
    by_cases q : a = D
    · subst q; exact h0
    · rw [pin_ne q] at this; exact this
  inj := I.inj
  keep := fun b u e n t => I.keep b u (by rw [pin_ne (fun z => by subst z; rw [h0] at e; cases e)]; exact e) n t
  iot := I.iot
  tab := I.tab
  tabF := I.tabF
  frz := fun b h1 h2 => I.frz b h1 (by rw [pin_ne (fun z => by subst z; exact h2 h0)]; exact h2)
  F0 := I.F0
theorem SR.pin_no {D : Addr} {o : HO} (I : SR K CT (G.pin D o) S F σ H) (hio : G.io ≠ some D) : ∀ (i : Nat) (fz : Bool) (oc : OC), S[i]? = some (SD.own fz oc) → σ[i]? ≠ some (some (V.ref D)) := fun i fz oc h z => by
  obtain ⟨a, h1, h2, h3, h4⟩ := I.own i fz oc h
  rw [z] at h1; cases h1
  cases fz with
  | true => have := h3 rfl; rw [pin_same] at this; cases this
  | false => exact hio (h4 rfl)
theorem SR.pin_at {D : Addr} {o : HO} (I : SR K CT (G.pin D o) S F σ H) (hio : G.io ≠ some D) (hT : D ∉ G.T) : H D = some o := I.keep D o pin_same hio hT
theorem SR.pin_F {D : Addr} {o : HO} (I : SR K CT (G.pin D o) S F σ H) (h0 : G.F0 D = none) : F D = none := I.frz D h0 (by rw [pin_same]; simp)
/-- a thing of no slot, not settled, new, changes -/
theorem SR.updN (I : SR K CT G S F σ H) {D : Addr} {o u : HO} (hD : H D = some o) (hF : F D = none) (h0 : G.H0 D = none) (hT : D ∉ G.T) (hNC : ∀ q, o ≠ LamX.CodeO D q) (no : ∀ (i : Nat) (fz : Bool) (oc : OC), S[i]? = some (SD.own fz oc) → σ[i]? ≠ some (some (V.ref D))) : SR K CT G S F σ (upd H D u) where
  len := I.len
  sub := fun b w e => by rw [upd_ne (fun z => by subst z; rw [hF] at e; cases e)]; exact I.sub b w e
  val := I.val
  own := fun i fz oc h => by
    obtain ⟨a, h1, h2, h3⟩ := I.own i fz oc h
    have ne : a ≠ D := fun z => by subst z; exact no i fz oc h h1
    exact ⟨a, h1, h2.mono (Same.refl F) h2.1 (upd_ne ne), h3⟩
  inj := I.inj
  keep := fun b w e n t => by rw [upd_ne (fun z => by subst z; rw [h0] at e; cases e)]; exact I.keep b w e n t
  iot := fun a e => by
    by_cases z : a = D
    · subst z; rw [upd_same]; simp
    · rw [upd_ne z]; exact I.iot a e
  tab := fun P t => tabV_of (I.tab P t) (upd_ne (fun z => hT (by subst z; exact t))) fun c q e => (upd_ne (fun z => by subst z; rw [hD] at e; exact hNC q (Option.some.inj e))).trans e
  tabF := I.tabF
  frz := I.frz
  F0 := I.F0
end
theorem quiet_ok {α : Type} {r : Res α} {a : α} {S : List SD} (h : r.quiet = .ok a S) : r = .ok a S := by
  cases r with
  | ok b T => exact h
  | exc _ _ _ _ => exact nomatch h
  | stuck => exact nomatch h
variable (CF Φ) in
/-- a turn of a comprehension -/
def stepC (ts vs : List Nat) (cs el : E) : D → List SD → Res (Option D) := fun x S => match bindT ts x S with
  | none => .stuck
  | some S2 => (evC CF Φ cs S2).bind fun b S3 => if b = true then (evE CF Φ el S3).bind fun d S4 => .ok (some d) (wipeS S4 vs) else .ok none (wipeS S3 vs)
theorem evE_cmpr {own : List (Str × Nat)} {ts : List Nat} {it cs el : E} {S : List SD} : evE CF Φ (.cmpr own ts it cs el) S = (evI CF Φ it S).bind fun xs S1 => if (own.map (·.2)).all (fun v => isVal S1[v]?) = true then
      ((loopC (stepC CF Φ ts (own.map (·.2)) cs el) xs (wipeS S1 (own.map (·.2)))).quiet).bind fun ds S5 => if ds.length < cap then .ok (.lst ds) (backS S1 (own.map (·.2)) S5) else .stuck
      else .stuck := by
  simp only [evE]
  rfl
theorem lc_cmpr {own : List (Str × Nat)} {ts : List Nat} {it cs el : E} {elt tg iter : Expr} {ifs : List Expr} {scope : Scope} (hc : X.calm = true) (hND : X.N.Nodup) (hi : PIv X CT G W CF Φ tg iter it) (ok : BlkOk X.N X.env.scope scope own)
    (hts : ∀ i ∈ ts, i ∈ own.map (·.2))
    (hg : ∀ (s : Shared) (H : Hp) (C : Addr) (cl : List (Str × Addr)) (fp : List Addr), PG (X.blk s H scope (compEnvC scope cl C X.env) fp) tg (gOf X.K ts))
    (ht : ∀ (G' : Gh), G'.T = G.T → ∀ (s : Shared) (H : Hp) (C : Addr) (cl : List (Str × Addr)) (fp : List Addr), PCv (X.blk s H scope (compEnvC scope cl C X.env) fp) CT G' (fun _ _ _ _ => False) CF Φ ifs cs)
    (he : ∀ (G' : Gh), G'.T = G.T → ∀ (s : Shared) (H : Hp) (C : Addr) (cl : List (Str × Addr)) (fp : List Addr), PEv (X.blk s H scope (compEnvC scope cl C X.env) fp) CT G' (fun _ _ _ _ => False) CF Φ elt el)
    : ∃ (tt : TT) (te : TE), (∀ (s : Shared) (H : Hp) (C : Addr) (cl : List (Str × Addr)) (fp : List Addr), PTs (X.blk s H scope (compEnvC scope cl C X.env) fp) ifs tt) ∧ (∀ (s : Shared) (H : Hp) (C : Addr) (cl : List (Str × Addr)) (fp : List Addr), PE (X.blk s H scope (compEnvC scope cl C X.env) fp) elt te) ∧
      ∀ σ H Q, hN CT G W X.K (evE CF Φ (.cmpr own ts it cs el)) σ H Q → tLc (hI X CT G W (evI CF Φ it)) (gOf X.K ts) tt te (own.map (·.2)) σ H Q := by
  have allTT : ∃ tt : TT, (∀ (s : Shared) (H : Hp) (C : Addr) (cl : List (Str × Addr)) (fp : List Addr), PTs (X.blk s H scope (compEnvC scope cl C X.env) fp) ifs tt) ∧ ∀ G', G'.T = G.T → ∀ σ H Q, hT X.K CT G' (fun _ _ _ _ => False) (evC CF Φ cs) σ H Q → tt σ H Q :=
    ⟨fun σ H Q => ∃ G', G'.T = G.T ∧ hT X.K CT G' (fun _ _ _ _ => False) (evC CF Φ cs) σ H Q, fun s H C cl fp => ⟨fun pins s' σ H' Q I ⟨G', e, q⟩ => (ht G' e s H C cl fp).run pins s' σ H' Q I q⟩, fun G' e σ H Q q => ⟨G', e, q⟩⟩
  have allTE : ∃ te : TE, (∀ (s : Shared) (H : Hp) (C : Addr) (cl : List (Str × Addr)) (fp : List Addr), PE (X.blk s H scope (compEnvC scope cl C X.env) fp) elt te) ∧ ∀ G', G'.T = G.T → ∀ σ H Q, hE X.K CT G' (fun _ _ _ _ => False) (evE CF Φ el) σ H Q → te σ H Q :=
    ⟨fun σ H Q => ∃ G', G'.T = G.T ∧ hE X.K CT G' (fun _ _ _ _ => False) (evE CF Φ el) σ H Q, fun s H C cl fp => ⟨fun pins s' σ H' Q I ⟨G', e, q⟩ => (he G' e s H C cl fp).run pins s' σ H' Q I q⟩, fun G' e σ H Q q => ⟨G', e, q⟩⟩
  obtain ⟨tt, htt, htt2⟩ := allTT
  obtain ⟨te, hte, hte2⟩ := allTE
  refine ⟨tt, te, htt, hte, fun σ H Q ⟨S, F, I, h⟩ => ?_⟩
  rw [evE_cmpr] at h
  refine ⟨S, F, I, ?_⟩
  cases e1 : evI CF Φ it S with
  | stuck => rw [e1] at h; exact False.elim h
  | exc cn fn vs S1 => rw [e1] at h; exact h
  | ok xs S1 =>
    rw [e1] at h
    simp only [Res.bind] at h
    split at h
    · rename_i hall
      generalize hf : stepC CF Φ ts (own.map (·.2)) cs el = f at h
      cases e2 : (loopC f xs (wipeS S1 (own.map (·.2)))).quiet with
      | stuck => rw [e2] at h; exact False.elim h
      | exc cn fn vs S2 => cases q : loopC f xs (wipeS S1 (own.map (·.2))) <;> rw [q] at e2 <;> exact nomatch e2
      | ok ds S5 =>
        have e3 := quiet_ok e2
        rw [e2] at h
        simp only at h
        split at h
        · rename_i hcap
          obtain ⟨_, e4, h⟩ := h
          cases e4
          intro F1 J H1 f1 I1 wk D hD
          have h0 : G.H0 D = none := I1.fresh hD
          have hT : D ∉ G.T := I1.tabNe hD
          have hio : G.io ≠ some D := fun z => I1.iot D z hD
          have hF1 : F1 D = none := I1.freshF hD
          have hF0 : G.F0 D = none := by
            cases q : G.F0 D with
            | none => rfl
            | some u => have := I1.F0 D u q; rw [hF1] at this; cases this
          have noS : ∀ {S2 F2 τ H2 u}, SR X.K CT (G.pin D u) S2 F2 τ H2 → ∀ (i : Nat) (fz : Bool) (oc : OC), S2[i]? = some (SD.own fz oc) → τ[i]? ≠ some (some (V.ref D)) := fun J => J.pin_no hio
          have Iw := (I1.wipe (own.map (·.2))).laid (o := .lst []) hD
          have no0 : ∀ (i : Nat) (fz : Bool) (oc : OC), (wipeS S1 (own.map (·.2)))[i]? = some (SD.own fz oc) → (L2.wipe σ (own.map (·.2)))[i]? ≠ some (some (V.ref D)) := fun i fz oc hh z => by
            obtain ⟨a, k1, k2, _⟩ := (I1.wipe (own.map (·.2))).own i fz oc hh
            rw [z] at k1; cases k1
            exact k2.tracked hD
          refine ⟨fun i m H2 => m = xs.length - i ∧ i ≤ xs.length ∧ ∃ S2 F2 acc accD rest, Same F1 F2 ∧ SR X.K CT (G.pin D (.lst acc)) S2 F2 (L2.wipe σ (own.map (·.2))) H2 ∧ Reps X.K CT F2 accD acc ∧ loopC f (xs.drop i) S2 = .ok rest S5 ∧ accD ++ rest = ds,
            ⟨xs.length, by simp, Nat.zero_le _, wipeS S1 (own.map (·.2)), F1, [], [], ds, Same.refl F1, Iw.pin upd_same hF1 no0, Reps.nil, by rw [List.drop_zero]; exact e3, rfl⟩, ?_⟩
          rintro i m H2 ⟨rfl, hi2, S2, F2, acc, accD, rest, f2, I2, ra, hl, happ⟩
          have wi := wk F2 H2 f2 I2.sub i
          by_cases hlt : i < xs.length
          · have hd : xs.drop i = xs[i] :: xs.drop (i + 1) := List.drop_eq_getElem_cons hlt
            rw [hd] at hl
            obtain ⟨hgo, hy⟩ := wi.2 xs[i] (List.getElem?_eq_getElem hlt)
            refine .inr ⟨hgo, fun H' => ∃ S2 F2 acc accD rest, Same F1 F2 ∧ SR X.K CT (G.pin D (.lst acc)) S2 F2 (L2.wipe σ (own.map (·.2))) H' ∧ Reps X.K CT F2 accD acc ∧ loopC f (xs.drop (i + 1)) S2 = .ok rest S5 ∧ accD ++ rest = ds,
              fun H' ⟨a1, a2, a3, a4, a5, a6⟩ => ⟨xs.length - (i + 1), by omega, rfl, hlt, a1, a2, a3, a4, a5, a6⟩, fun x H3 yl => ?_⟩
            simp only [loopC] at hl
            obtain ⟨o, S3, hfx, hl⟩ := bind_ok hl
            obtain ⟨rest', S6, hl2, hl⟩ := bind_ok hl
            simp only [Res.ok.injEq] at hl
            obtain ⟨hrest, e66⟩ := hl
            rw [e66] at hl2
            rw [← hf] at hfx
            simp only [stepC] at hfx
            cases q : bindT ts xs[i] S2 with
            | none => simp only [q] at hfx; cases hfx
            | some S7 =>
              simp only [q] at hfx
              obtain ⟨b, S8, hcb, hfx⟩ := bind_ok hfx
              have go : ∀ F3 H4, Same F2 F3 → SR X.K CT (G.pin D (.lst acc)) S2 F3 (L2.wipe σ (own.map (·.2))) H4 → Rep X.K CT F3 xs[i] x → gOf X.K ts x (L2.wipe σ (own.map (·.2))) H4 fun σ2 H5 => L2.wipe σ2 (own.map (·.2)) = L2.wipe σ (own.map (·.2)) ∧ tt σ2 H5 fun b H6 =>
                  if b = true then te σ2 H6 fun y H7 => ∃ acc, H7 D = some (.lst acc) ∧ acc.length < sizeLine ∧ (∃ S2 F2 acc' accD rest, Same F1 F2 ∧ SR X.K CT (G.pin D (.lst acc')) S2 F2 (L2.wipe σ (own.map (·.2))) (upd H7 D (.lst (acc ++ [y]))) ∧ Reps X.K CT F2 accD acc' ∧ loopC f (xs.drop (i + 1)) S2 = .ok rest S5 ∧ accD ++ rest = ds)
                  else ∃ S2 F2 acc accD rest, Same F1 F2 ∧ SR X.K CT (G.pin D (.lst acc)) S2 F2 (L2.wipe σ (own.map (·.2))) H6 ∧ Reps X.K CT F2 accD acc ∧ loopC f (xs.drop (i + 1)) S2 = .ok rest S5 ∧ accD ++ rest = ds := by
                intro F3 H4 f3 I3 r3
                refine g_run I3 r3 q fun σ2 I4 hw => ?_
                have hw2 : L2.wipe σ2 (own.map (·.2)) = L2.wipe σ (own.map (·.2)) := by
                  have ww : ∀ (us : List Nat) (τ : L2.St), L2.wipe (L2.wipe τ us) us = L2.wipe τ us := by
                    intro us
                    have aux : ∀ (us ws : List Nat) (τ : L2.St), (∀ v ∈ ws, v ∈ us) → L2.wipe (L2.wipe τ ws) us = L2.wipe τ us := by
                      intro us ws τ
                      induction ws with
                      | nil => intro _; rfl
                      | cons w ws ih =>
                        intro hh
                        simp only [L2.wipe]
                        rw [wipe_set (hh w (List.mem_cons_self ..))]
                        exact ih fun v hv => hh v (List.mem_cons_of_mem _ hv)
                    exact fun τ => aux us us τ fun _ h => h
                  rw [hw _ hts, ww]
                refine ⟨hw2, htt2 (G.pin D (.lst acc)) rfl _ _ _ ⟨S7, F3, I4, ?_⟩⟩
                rw [hcb]
                intro F5 b' H6 f5 I5 eb
                cases eb
                cases b with
                | true =>
                  simp only [if_true] at hfx ⊢
                  obtain ⟨d, S9, hed, hfx⟩ := bind_ok hfx
                  simp only [Res.ok.injEq] at hfx
                  obtain ⟨rfl, rfl⟩ := hfx
                  refine hte2 (G.pin D (.lst acc)) rfl _ _ _ ⟨S8, F5, I5, ?_⟩
                  rw [hed]
                  intro F6 y H7 f6 I6 ry
                  have hD7 := I6.pin_at hio hT
                  have hF6 := I6.pin_F hF0
                  have no6 := noS I6
                  simp only at hrest
                  refine ⟨acc, hD7, ?_, wipeS S9 (own.map (·.2)), F6, acc ++ [y], accD ++ [d], rest', ((f2.trans f3).trans f5).trans f6, ?_, ?_, hl2, ?_⟩
                  · refine cap_lt (Nat.lt_of_le_of_lt ?_ hcap)
                    rw [← ra.length, ← happ, List.length_append]
                    exact Nat.le_add_right _ _
                  · have I7 := (I6.unpin h0).updN (u := .lst (acc ++ [y])) hD7 hF6 h0 hT (fun q z => by unfold LamX.CodeO at z; cases z) no6
                    have I8 := I7.pin (o := .lst (acc ++ [y])) upd_same hF6 no6
                    have I9 := I8.wipe (own.map (·.2))
                    rw [hw2] at I9
                    exact I9
                  · exact (ra.mono ((f3.trans f5).trans f6) _).append (Reps.cons ry Reps.nil)
                  · rw [← happ, ← hrest, List.append_assoc]; rfl
                | false =>
                  simp only [Bool.false_eq_true, if_false, Res.ok.injEq] at hfx ⊢
                  obtain ⟨rfl, rfl⟩ := hfx
                  simp only at hrest
                  refine ⟨wipeS S8 (own.map (·.2)), F5, acc, accD, rest', (f2.trans f3).trans f5, ?_, ra.mono (f3.trans f5) _, hl2, by rw [← happ, ← hrest]⟩
                  have I9 := I5.wipe (own.map (·.2))
                  rw [hw2] at I9
                  exact I9
              rcases hy x H3 yl with ⟨rfl, r3⟩ | ⟨p, u, hp2, rfl, rfl, r3⟩
              · exact go F2 _ (Same.refl F2) I2 r3
              · exact go _ _ (same_upd (I2.freshF hp2)) (I2.settle hp2) r3
          · have e : i = xs.length := by omega
            refine .inl ⟨wi.1 e, ?_⟩
            rw [List.drop_eq_nil_of_le (by omega)] at hl
            simp only [loopC, Res.ok.injEq] at hl
            obtain ⟨rfl, rfl⟩ := hl
            rw [List.append_nil] at happ
            subst happ
            have I3 := I2.unpin h0
            have I4 := I1.back f2 I3 hall
            have hF2 := I2.pin_F hF0
            refine h F2 _ H2 (f1.trans f2) I4 ⟨D, acc, rfl, hF2, h0, hT, I2.pin_at hio hT, ra, fun j fz oc hj z => ?_⟩
            obtain ⟨a, k1, k2, k3, k4⟩ := I4.own j fz oc hj
            rw [z] at k1; cases k1
            by_cases hjo : j ∈ own.map (·.2)
            · have := backS_in hjo hj
              have hv' := List.all_eq_true.mp hall j hjo
              cases q : S1[j]? with
              | none => rw [q] at this; cases this
              | some y =>
                rw [q] at this hv'
                simp only [Option.getD_some] at this
                subst this
                cases hv'
            · rw [backS_out hjo] at hj
              exact noS I2 j fz oc hj (by rw [wipe_out hjo]; exact z)
        · exact False.elim h
    · exact False.elim h
theorem n_cmpr {own : List (Str × Nat)} {ts : List Nat} {it cs el : E} {elt tg iter : Expr} {ifs : List Expr} {scope : Scope} {pos : Pos} (hc : X.calm = true) (hND : X.N.Nodup) (hi : PIv X CT G W CF Φ tg iter it) (ok : BlkOk X.N X.env.scope scope own)
    (hts : ∀ i ∈ ts, i ∈ own.map (·.2))
    (hg : ∀ (s : Shared) (H : Hp) (C : Addr) (cl : List (Str × Addr)) (fp : List Addr), PG (X.blk s H scope (compEnvC scope cl C X.env) fp) tg (gOf X.K ts))
    (ht : ∀ (G' : Gh), G'.T = G.T → ∀ (s : Shared) (H : Hp) (C : Addr) (cl : List (Str × Addr)) (fp : List Addr), PCv (X.blk s H scope (compEnvC scope cl C X.env) fp) CT G' (fun _ _ _ _ => False) CF Φ ifs cs)
    (he : ∀ (G' : Gh), G'.T = G.T → ∀ (s : Shared) (H : Hp) (C : Addr) (cl : List (Str × Addr)) (fp : List Addr), PEv (X.blk s H scope (compEnvC scope cl C X.env) fp) CT G' (fun _ _ _ _ => False) CF Φ elt el)
    (hs : ∀ x, foldedSetIterable iter X.env x = pure x) : PE X (.ListComp elt [⟨tg, iter, ifs, 0⟩] scope pos) (hN CT G W X.K (evE CF Φ (.cmpr own ts it cs el))) := by
  obtain ⟨tt, te, h1, h2, h3⟩ := lc_cmpr (W := W) (it := it) (own := own) hc hND hi ok hts hg ht he
  exact (pe_lc (own := own) hc hND hi ok hg h1 h2 hs).imp h3
theorem cmpr_lst {own : List (Str × Nat)} {ts : List Nat} {it cs el : E} {S : List SD} {d : D} {S' : List SD} (e : evE CF Φ (.cmpr own ts it cs el) S = .ok d S') : ∃ xs, d = .lst xs := by
  rw [evE_cmpr] at e
  obtain ⟨xs, S1, _, e⟩ := bind_ok e
  split at e
  · obtain ⟨ds, S2, _, e⟩ := bind_ok e
    split at e
    · cases e; exact ⟨_, rfl⟩
    · cases e
  · cases e
/-- name = [..] at once -/
theorem s_asgC {i : Nat} {own : List (Str × Nat)} {ts : List Nat} {it cs el : E} {y : Str} {py pos spos : Pos} {elt tg iter : Expr} {ifs : List Expr} {scope : Scope} (hc : X.calm = true) (hND : X.N.Nodup) (hy : X.N[i]? = some y) (hyl : X.env.scope.names.lookup y = some .local)
    (hsw : swapsWith (.ListComp elt [⟨tg, iter, ifs, 0⟩] scope pos) (some (.Name y py)) spos.line X.env = pure true) (hi : PIv X CT G W CF Φ tg iter it) (ok : BlkOk X.N X.env.scope scope own)
    (hts : ∀ i ∈ ts, i ∈ own.map (·.2))
    (hg : ∀ (s : Shared) (H : Hp) (C : Addr) (cl : List (Str × Addr)) (fp : List Addr), PG (X.blk s H scope (compEnvC scope cl C X.env) fp) tg (gOf X.K ts))
    (ht : ∀ (G' : Gh), G'.T = G.T → ∀ (s : Shared) (H : Hp) (C : Addr) (cl : List (Str × Addr)) (fp : List Addr), PCv (X.blk s H scope (compEnvC scope cl C X.env) fp) CT G' (fun _ _ _ _ => False) CF Φ ifs cs)
    (he : ∀ (G' : Gh), G'.T = G.T → ∀ (s : Shared) (H : Hp) (C : Addr) (cl : List (Str × Addr)) (fp : List Addr), PEv (X.blk s H scope (compEnvC scope cl C X.env) fp) CT G' (fun _ _ _ _ => False) CF Φ elt el)
    (hs : ∀ x, foldedSetIterable iter X.env x = pure x) : PSv X CT G W CF Φ (.Assign [.Name y py] (.ListComp elt [⟨tg, iter, ifs, 0⟩] scope pos) spos) (.asgN i (.cmpr own ts it cs el)) := by
  obtain ⟨tt, te, h1, h2, h3⟩ := lc_cmpr (W := W) (it := it) (own := own) hc hND hi ok hts hg ht he
  refine (ps_setLc (own := own) hc hND hy hyl hsw hi ok hg h1 h2 hs).imp fun D σ H ⟨S, F, I, h⟩ => ?_
  simp only [evB] at h
  refine h3 _ _ _ (hN_onE (k := fun xs S1 => .nx (S1.set i (.own true (.lst xs)))) I h fun xs S1 F1 v H1 I1 e1 r1 h1 => ?_)
  obtain ⟨p, vs, rfl, q1, q2, q3, q4, q5, q6⟩ := r1
  exact h1 F1 _ H1 (Same.refl F1) (I1.setOwn ⟨q1, vs, q4, q5⟩ q2 q6)
/-! ### dict displays -/
variable (X CT G W CF Φ) in
def AllPE : Es → List Expr → Prop
  | .nil, es => es = []
  | .cons a r, es => ∃ e t, es = e :: t ∧ (∀ G' : Gh, G'.T = G.T → PEv X CT G' W CF Φ e a) ∧ AllPE r t
theorem pps_of {pos : Pos} : ∀ {es : Es} {vals : List Expr} {ks : List Str} {keys : List (Option Expr)}, AllPE X CT G W CF Φ es vals → ks.length = vals.length → keys = [] ∨ True → (∀ (i : Nat) (k : Str), ks[i]? = some k → ∃ j p, keys[i]? = some (some (.Constant (.str k) j p))) → keys.length = ks.length →
    ∃ trs, PPs X pos keys vals trs ∧ ∀ G', G'.T = G.T → ∀ S F σ H Q, SR X.K CT G' S F σ H → Po X.K CT G' W (RA X.K CT) (evEs CF Φ es S) F σ (fun vs H' => Q ((ks.map fun k => V.str k).zip vs) H') → tPairs trs σ H Q
  | .nil, vals, ks, keys, h, hl, _, hk, hkl => by
    simp only [AllPE] at h
    subst h
    have : ks = [] := List.length_eq_zero_iff.mp hl
    subst this
    have : keys = [] := List.length_eq_zero_iff.mp hkl
    subst this
    refine ⟨[], pps_nil, fun G' _ S F σ H Q I q => ?_⟩
    simp only [evEs] at q
    exact q.ok I Reps.nil
  | .cons a r, vals, ks, keys, h, hl, _, hk, hkl => by
    simp only [AllPE] at h
    obtain ⟨e, t, rfl, h1, h2⟩ := h
    match ks, keys, hl, hkl, hk with
    | k :: ks, key :: keys, hl, hkl, hk =>
      obtain ⟨j, p, e0⟩ := hk 0 k rfl
      simp only [List.getElem?_cons_zero, Option.some.injEq] at e0
      subst e0
      obtain ⟨trs, g1, g2⟩ := pps_of (es := r) (vals := t) (ks := ks) (keys := keys) h2 (by simpa using hl) (.inr trivial) (fun i k' hh => hk (i + 1) k' (by simpa using hh)) (by simpa using hkl)
      refine ⟨(tC (.str k), fun σ H Q => ∃ G', G'.T = G.T ∧ hE X.K CT G' W (evE CF Φ a) σ H Q) :: trs, pps_cons pe_str ⟨fun pins s σ H Q I ⟨G', eq, q⟩ => (h1 G' eq).run pins s σ H Q I q⟩ g1, fun G' eq S F σ H Q I q => ?_⟩
      simp only [evEs] at q
      refine ⟨G', eq, ?_⟩
      refine hX_bind I q fun x S1 F1 v H1 I1 e1 r1 q1 => ?_
      refine g2 G' eq S1 F1 σ H1 _ I1 ?_
      cases e2 : evEs CF Φ r S1 with
      | stuck => rw [e2] at q1; exact q1
      | exc cn fn vs S2 => rw [e2] at q1; exact q1
      | ok ds S2 =>
        rw [e2] at q1
        intro F2 vs H2 f2 I2 r2
        exact q1 F2 (v :: vs) H2 f2 I2 (Reps.cons (Rep.mono f2 _ r1) r2)
theorem merge_zip : ∀ {ks : List Str} {vs : List V} {acc : List (Key × V)}, ks.Nodup → ks.length = vs.length → (∀ k ∈ ks, ∀ p ∈ acc, p.1 ≠ Sum.inr k) → mergeK acc ((ks.map Sum.inr).zip vs) = acc ++ (ks.map Sum.inr).zip vs
  | [], vs, acc, _, _, _ => by simp [mergeK]
  | k :: ks, v :: vs, acc, hn, hl, ha => by
    rw [List.nodup_cons] at hn
    have e1 : putK acc (Sum.inr k : Key) v = acc ++ [(Sum.inr k, v)] := by
      unfold putK
      rw [if_neg]
      intro h
      rw [List.any_eq_true] at h
      obtain ⟨p, hp, h⟩ := h
      exact ha k (List.mem_cons_self ..) p hp (of_decide_eq_true h)
    have ih := merge_zip (ks := ks) (vs := vs) (acc := acc ++ [(Sum.inr k, v)]) hn.2 (by simpa using hl) (fun k' hk' p hp => by
      rcases List.mem_append.mp hp with h | h
      · exact ha k' (List.mem_cons_of_mem _ hk') p h
      · rw [List.mem_singleton] at h
        subst h
        intro z
        have z2 : k = k' := Sum.inr.inj z
        subst z2
        exact hn.1 hk')
    show mergeK (putK acc (Sum.inr k) v) ((ks.map Sum.inr).zip vs) = _
    rw [e1, ih, List.append_assoc]
    rfl
theorem v_dct {ks : List Str} {es : Es} {keys : List (Option Expr)} {vals : List Expr} {pos : Pos} (h : AllPE X CT G W CF Φ es vals) (hnd : ks.Nodup) (hne : ks ≠ []) (h15 : ks.length ≤ 15) (hl : ks.length = vals.length) (hk : ∀ (i : Nat) (k : Str), ks[i]? = some k → ∃ j p, keys[i]? = some (some (.Constant (.str k) j p))) (hkl : keys.length = ks.length) (hes : eslen es = vals.length) :
    PEv X CT G W CF Φ (.Dict keys vals pos) (.dct ks es) := by
  obtain ⟨trs, g1, g2⟩ := pps_of (pos := pos) h hl (.inr trivial) hk hkl
  have hall : keys.all (·.isSome) = true := List.all_eq_true.mpr fun x hx => by
    obtain ⟨i, hi⟩ := List.mem_iff_getElem?.mp hx
    have hlt : i < ks.length := by rw [← hkl]; exact (List.getElem?_eq_some_iff.mp hi).1
    obtain ⟨j, p, e⟩ := hk i ks[i] (List.getElem?_eq_getElem hlt)
    rw [hi] at e; cases e; rfl
  refine (pe_disp g1 hall (by rw [hkl, hl]) (fun z => by rw [z] at hkl; exact hne (List.length_eq_zero_iff.mp hkl.symm)) (by rw [hkl]; exact h15)).imp fun σ H Q ⟨S, F, I, h⟩ => ?_
  simp only [evE] at h
  intro p hp
  have h0 : G.H0 p = none := I.fresh hp
  have hT : p ∉ G.T := I.tabNe hp
  have hio : G.io ≠ some p := fun z => I.iot p z hp
  have hF : F p = none := I.freshF hp
  have hF0 : G.F0 p = none := by
    cases q : G.F0 p with
    | none => rfl
    | some u => have := I.F0 p u q; rw [hF] at this; cases this
  have no : ∀ (i : Nat) (fz : Bool) (oc : OC), S[i]? = some (SD.own fz oc) → σ[i]? ≠ some (some (V.ref p)) := fun i fz oc hh z => by
    obtain ⟨a, k1, k2, _⟩ := I.own i fz oc hh
    rw [z] at k1; cases k1
    exact k2.tracked hp
  have Ip := (I.laid (o := .dK []) hp).pin upd_same hF no
  refine g2 (G.pin p (.dK [])) rfl S F σ _ _ Ip ?_
  cases e1 : evEs CF Φ es S with
  | stuck => rw [e1] at h; exact h
  | exc cn fn vs S1 => rw [e1] at h; exact fun F' H' cls d f' I' x => h F' H' cls d f' (I'.unpin h0) x
  | ok ds S1 =>
    rw [e1] at h
    simp only [Res.bind] at h
    intro F1 vs H1 f1 I1 r1
    have hp1 := I1.pin_at hio hT
    have hv : ks.length = vs.length := by rw [← r1.length, evEs_len e1, hes, hl]
    refine ⟨hp1, (ks.map Sum.inr).zip vs, ?_, ?_, ?_⟩
    · have : ∀ (l : List Str) (us : List V), (l.map fun k => V.str k).zip us = ((l.map (Sum.inr : Str → Key)).zip us).map fun kv => (kV kv.1, kv.2) := by
        intro l
        induction l with
        | nil => intro us; rfl
        | cons k l ih => intro us; cases us with
          | nil => rfl
          | cons u us => simp only [List.map_cons, List.zip_cons_cons, ih us]; rfl
      exact this ks vs
    · rw [List.length_zip, List.length_map, ← hv, Nat.min_self]; exact h15
    · rw [merge_zip hnd hv (by intro k _ q hq; cases hq), List.nil_append]
      have hF1 := I1.pin_F hF0
      have I2 := ((I1.unpin h0).updN (u := .dK ((ks.map Sum.inr).zip vs)) hp1 hF1 h0 hT (fun q z => by unfold LamX.CodeO at z; cases z) (I1.pin_no hio)).settle' (o := .dK ((ks.map Sum.inr).zip vs)) hF1 h0 upd_same hT (I1.pin_no hio)
      refine h _ (.ref p) _ (f1.trans (same_upd hF1)) I2 ?_
      simp only [RE, Rep]
      exact ⟨p, vs, rfl, upd_same, by rw [List.length_map]; exact hv, r1.mono (same_upd hF1) _⟩
end

set_option Elab.async false
set_option linter.all false
set_option maxRecDepth 100000
set_option maxHeartbeats 4000000
open PySem PySem.Spec PyProof.Rows L2

/-! ### tables of code objects -/
theorem ext_ne {φ : Heap → Prop} {ps : Array Value} : HO.ext φ ≠ .tbl ps := fun z => nomatch z
section
variable {X : Cx} {pins : List (Addr × Obj)} {σ : L2.St} {H : Hp} {s : Shared}
/-- the table at P has a new entry, the code object at c; all else that stood is kept -/
theorem inv_code {P c : Addr} {q : Str} {ps more : Array Value} {h' : Heap} {g' : Array GenState} {d' : Drawn} {t' : Nat} (I : Inv X pins σ H s) (hP : H P = some (.tbl ps)) (k : ∀ b o, b ≠ P → s.heap.get? b = some o → h'.get? b = some o)
    (hm : h'.get? P = some { cls := .none, data := .fields (ps ++ more) }) (hg : AllBare g') (hc : s.heap.objs.size ≤ c) (hco : ∃ (oc : Obj) (fv : Array Value) (tk : Tok), h'.get? c = some oc ∧ oc.data = .fields fv ∧ fv[1]? = some (.str q tk)) :
    Inv X pins σ (upd (upd H P (.tbl (ps ++ more))) c (LamX.CodeO c q)) { s with heap := h', gens := g', drawn := d', toks := t' } := by
  have cN : H c = none := I.hok.fresh hc
  have Pc : P ≠ c := ne_of_none hP cN
  have val : ∀ b, b ≠ P → b ≠ c → upd (upd H P (.tbl (ps ++ more))) c (LamX.CodeO c q) b = H b := fun b e1 e2 => (upd_ne e2).trans (upd_ne e1)
  have valP : upd (upd H P (.tbl (ps ++ more))) c (LamX.CodeO c q) P = some (.tbl (ps ++ more)) := (upd_ne Pc).trans upd_same
  have kn : ∀ b u, H b = some u → b ≠ c := fun b u e => ne_of_none e cN
  have kP : ∀ b u, H b = some u → (∀ r, u ≠ .tbl r) → b ≠ P := fun b u e n z => by subst z; rw [hP] at e; exact n ps (Option.some.inj e).symm
  have kN : ∀ b, H b = none → b ≠ P := fun b e z => by subst z; rw [hP] at e; cases e
  have kc : ∀ b o, s.heap.get? b = some o → b ≠ c := fun b o e z => by subst z; exact Nat.lt_irrefl _ (Nat.lt_of_lt_of_le (Heap.lt_size e) hc)
  refine I.step (g' := g') (d' := d') (ch := []) (fun b hb => nomatch hb) (fun b o _ _ _ e n => k b o (kN b n) e) (fun b o _ _ _ e n => ⟨o.slots, k b o (kN b n) e⟩) (fun b o _ e n => (val b (kN b n) (kc b o e)).trans n) (fun b o _ e => ?_)
    (fun b xs e => (val b (kP b _ e fun r z => nomatch z) (kn b _ e)).trans e) (fun b o u e => (val b (kP b _ e fun r z => nomatch z) (kn b _ e)).trans e) (fun b qs e => ?_) (fun m hn => ?_) (fun b u e => ?_) hg
  · by_cases z : b = P
    · subst z; exact ⟨_, hm⟩
    · exact ⟨o, k b o z e⟩
  · by_cases z : b = P
    · subst z; rw [hP] at e; cases e; exact ⟨more, valP⟩
    · exact ⟨#[], by rw [val b z (kn b _ e), e]; simp⟩
  · obtain ⟨ob, es, ep, h1, r⟩ := hn
    exact ⟨ob, es, ep, k _ ob (kN _ I.free) h1, r⟩
  · by_cases z : b = c
    · subst z; rw [upd_same] at e; cases e
      obtain ⟨oc, fv, tk, e1, e2, e3⟩ := hco
      exact ⟨⟨oc, fv, tk, e1, e2, e3⟩, ⟨oc, e1⟩, fun h1 h2 ⟨o1, f1, t1, a1, a2, a3⟩ st => ⟨o1, f1, t1, st _ a1, a2, a3⟩⟩
    · by_cases z2 : b = P
      · subst z2; rw [valP] at e; cases e; exact hm
      · rw [val b z2 z] at e
        refine (I.hok b u e).stay (fun d v hd w => k d v ?_ w) (fun d w => (val d (kP d _ w fun r z => nomatch z) (kn d _ w)).trans w) fun d xs w => (val d (kP d _ w fun r z => nomatch z) (kn d _ w)).trans w
        exact hd.elim (fun y => by rw [y]; exact z2) fun y => kP d _ y fun r z => nomatch z
/-- the table is as it was, or has one entry more -/
theorem inv_tabV {P : Addr} {ps more : Array Value} {h' : Heap} {g' : Array GenState} {d' : Drawn} {t' : Nat} (I : Inv X pins σ H s) (hP : H P = some (.tbl ps)) (V : TabV H P) (k : ∀ b o, b ≠ P → s.heap.get? b = some o → h'.get? b = some o)
    (hm : h'.get? P = some { cls := .none, data := .fields (ps ++ more) }) (hg : AllBare g') (ht : TriplesOk (ps ++ more).toList)
    (hw : more = #[] ∨ ∃ (pos : Pos) (c : Addr) (q : Str), more = #[rawInt pos.line, rawInt pos.col, .ref c] ∧ s.heap.objs.size ≤ c ∧ ∃ (oc : Obj) (fv : Array Value) (tk : Tok), h'.get? c = some oc ∧ oc.data = .fields fv ∧ fv[1]? = some (.str q tk)) :
    ∃ H2, TabbedV P H H2 ∧ Inv X pins σ H2 { s with heap := h', gens := g', drawn := d', toks := t' } := by
  obtain ⟨ps0, e0, t0, c0⟩ := V
  rw [hP] at e0; cases e0
  rcases hw with rfl | ⟨pos, c, q, rfl, hc, hco⟩
  · have em : ps ++ (#[] : Array Value) = ps := by simp
    rw [em] at hm
    refine ⟨upd H P (.tbl (ps ++ #[])), ⟨⟨ps, by rw [upd_same, em], t0, fun pos cv hcv => ?_⟩, fun b o n e => (upd_ne n).trans e⟩, GxR.inv_tab I hP k (by rw [em]; exact hm) hg⟩
    obtain ⟨c, q, e1, e2⟩ := c0 pos cv hcv
    exact ⟨c, q, e1, (upd_ne (fun z => by subst z; rw [hP] at e2; unfold LamX.CodeO at e2; cases e2)).trans e2⟩
  · have cN : H c = none := I.hok.fresh hc
    have Pc : P ≠ c := ne_of_none hP cN
    refine ⟨_, ⟨⟨_, (upd_ne Pc).trans upd_same, ht, fun pos' cv hcv => ?_⟩, fun b o n e => (upd_ne (ne_of_none e cN)).trans ((upd_ne n).trans e)⟩, inv_code I hP k hm hg hc hco⟩
    rw [Array.toList_append] at hcv
    rcases LamX.among_app ps.toList t0 hcv with z | z
    · obtain ⟨c', q', e1, e2⟩ := c0 pos' cv z
      refine ⟨c', q', e1, (upd_ne (ne_of_none e2 cN)).trans ((upd_ne fun z => ?_).trans e2)⟩
      subst z; rw [hP] at e2; unfold LamX.CodeO at e2; cases e2
    · exact ⟨c, q, z, upd_same⟩
end
/-! ### quantifiers over a generator -/
/-- what is walked: n items, an iterator is laid -/
def GSrc (X : Cx) (xv : Value) (s : Shared) (n : Nat) (Pi : Nat → Value → Prop) (fp : List Addr) : Prop :=
  ∀ (Q E : Value → Shared → Prop), (∀ (o : Obj) (St : Nat → Heap → Prop), (∀ A' : Around, A'.handled = none → Walks X.prog X.w A' s.heap.objs.size fp [s.heap.objs.size] n Pi St) → St 0 (s.heap.push o) →
    Q (.ref s.heap.objs.size) ⟨s.heap.push o, s.gens, s.drawn, s.toks, s.os⟩) → wpAny (model X.prog X.w) X.A (pyIter xv) Q E s
/-- the element's truth, wherever the generator stands -/
def GElt (X : Cx) (P : Addr) (s1 : Shared) (scope : Scope) (x : Str) (elt : Expr) (n : Nat) (Pi : Nat → Value → Prop) (pb : Nat → Bool) : Prop :=
  ∀ (cenv : Env) (A' : Around) (E' : Value → Shared → Prop) (i : Nat) (v : Value) (t : Shared) (m₂ : Str → Option Value), cenv.scope = scope → cenv.globals = X.env.globals → cenv.cells = cloFrom X.env.cells scope.names [] →
    A'.handled = none → Pi i v → t.heap.Ns cenv.locals m₂ → m₂ x = some v → (∀ b o, b ≠ P → s1.heap.get? b = some o → t.heap.get? b = some o) →
    wpAny (model X.prog X.w) A' (eval elt cenv) (fun y s₃ => y = .bool (pb i) ∧ Keeps t s₃) E' t
def GReady (X : Cx) (pins : List (Addr × Obj)) (σ : L2.St) (H1 : Hp) (P : Addr) (n : Nat) (pb : Nat → Bool) (g : Addr) (s5 : Shared) : Prop :=
  ∃ fp wr G F St, WalksS X.prog X.w X.A.in1 g fp wr G n F St ∧ St 0 s5 ∧ TruthOf X.prog X.w X.A.in1 F pb ∧ ∀ s', Moved wr G s5 s' → ∃ H2, TabbedV P H1 H2 ∧ Inv X pins σ H2 s'
section
variable {X : Cx}
theorem gen_run {pins : List (Addr × Obj)} {σ : L2.St} {H : Hp} {s : Shared} {c P : Addr} {elt iter : Expr} {x : Str} {px gpos : Pos} {scope : Scope} {te : TE} {k : Nat} {Q' : Value → Shared → Prop} {R : Nat → (Nat → Bool) → Hp → Prop}
    (hr : Room k X.A) (TB : GxR.TabB X.base X.mg c P) (hcode : X.env.code = .ref c) (S : GxR.GenS X.env scope x) (hi : PE X iter te) (hs : ∀ v, genFold iter X.env v = pure v) (I : Inv X pins σ H s)
    (h : te σ H fun v H1 => ∃ (n : Nat) (pb : Nat → Bool), TabV H1 P ∧ R n pb H1 ∧ ∀ xv s1, RelV v xv → Inv X pins σ H1 s1 → ∃ Pi fp, P ∉ fp ∧ (∀ b ∈ fp, b ≤ s1.heap.objs.size) ∧ GSrc X xv s1 n Pi fp ∧ GElt X P s1 scope x elt n Pi pb)
    (hQ : ∀ n pb H1 g s5, R n pb H1 → GReady X pins σ H1 P n pb g s5 → Q' (.ref g) s5) :
    wpAny (model X.prog X.w) X.A (eval (.GeneratorExp elt [⟨.Name x px, iter, [], 0⟩] scope gpos) X.env) Q' X.xe s := by
  refine wpAny_GeneratorExp_walksQ hr.hd S.co (closure_ok S.free) S.cell S.dot S.loc S.kind (by have := hr.dp; omega) (thn (hi.run pins s σ H _ I h) fun xv s1 hh => ?_) hs
  obtain ⟨v, H1, I1, r1, n, pb, hV, hR, hsrc⟩ := hh
  obtain ⟨ps, hP, ht, hcs⟩ := id hV
  obtain ⟨Pi, fp, hPfp, hfp, Src, Elt⟩ := hsrc xv s1 r1 I1
  refine Src _ _ fun o St W hst => ?_
  have hPs : s1.heap.get? P = some ⟨.none, none, .fields ps, #[]⟩ := I1.hok P (.tbl ps) hP
  have hPlt := Heap.lt_size hPs
  have hP2 := Heap.get?_push_of_some o hPs
  have cd := PySem.W.CodeHd.keeps TB.code fun b u e => Heap.get?_push_of_some o (I1.bk b u e)
  have lim2 := Heap.NoLimit.push I1.nolimit o
  have sz2 : (s1.heap.push o).objs.size = s1.heap.objs.size + 1 := Heap.size_push ..
  have hlim := I1.nolimit
  have hcP : cStatics ≠ P ∧ cStatics < s1.heap.objs.size := by
    obtain ⟨m, ⟨o', es, ep, ho, hd, _⟩, _⟩ := hlim
    refine ⟨fun e => ?_, Heap.lt_size ho⟩
    rw [e, hPs] at ho
    cases ho
    cases hd
  have cont : ∀ (code : Value) (h3 : Heap) (tk : Nat) (ps' : Array Value), Heap.ExtBut P (s1.heap.push o) h3 → (s1.heap.push o).objs.size ≤ h3.objs.size → h3.get? P = some ⟨.none, none, .fields ps', #[]⟩ → (∃ more, ps' = ps ++ more ∧ (more = #[] ∨ ∃ (pos : Pos) (c : Addr) (q : Str), more = #[rawInt pos.line, rawInt pos.col, .ref c] ∧ s1.heap.objs.size ≤ c ∧ c ≠ s1.heap.objs.size ∧ ∃ (oc : Obj) (fv : Array Value) (tk : Tok), h3.get? c = some oc ∧ oc.data = .fields fv ∧ fv[1]? = some (.str q tk))) → TriplesOk ps'.toList →
      wpAny (model X.prog X.w) X.A (builtinsFor X.env.globals X.env.builtins) (fun bi s₄ => ∃ I fp wr n₀ P St₀ pz F, Value.ref s1.heap.objs.size = Value.ref I ∧ (∀ A' : Around, A'.handled = none → Walks X.prog X.w A' I fp wr n₀ P St₀) ∧ St₀ 0 s₄.heap ∧ (∀ b ∈ fp, b < s₄.heap.objs.size) ∧ s₄.heap.NoLimit ∧ cStatics ∉ wr ∧
        (∀ href : Heap, (∀ b o, s₄.heap.get? b = some o → href.get? b = some o) → QuietGen X.prog X.w (genEnv scope (cloFrom X.env.cells scope.names []) s₄.heap.objs.size code bi X.env) x [] elt (List.range s₄.heap.objs.size) wr P pz F href) ∧
        ∀ (a : Nat) (h₅ : Heap) (tk : Nat) (gs : GenState), gs.bare = true → s₄.heap.objs.size < a → h₅.objs.size = a + 1 → (∀ b o, s₄.heap.get? b = some o → h₅.get? b = some o) →
          WalksS X.prog X.w X.A.in4 a (a :: s₄.heap.objs.size :: List.range s₄.heap.objs.size) (s₄.heap.objs.size :: wr) (GenOnlyQ s₄.gens.size) (passing pz n₀ 0).length (fun j y => ∃ i, (passing pz n₀ 0)[j]? = some i ∧ F i y) (GenAt X.prog X.w X.A.in4 a s₄.gens.size s₄.heap.objs.size (List.range s₄.heap.objs.size) wr pz n₀ F) →
          GenAt X.prog X.w X.A.in4 a s₄.gens.size s₄.heap.objs.size (List.range s₄.heap.objs.size) wr pz n₀ F 0 { heap := h₅, gens := s₄.gens.push gs, drawn := s₄.drawn, toks := tk, os := s₄.os } → Q' (.ref a) { heap := h₅, gens := s₄.gens.push gs, drawn := s₄.drawn, toks := tk, os := s₄.os }) X.xe
        { heap := h3, gens := s1.gens, drawn := s1.drawn, toks := tk, os := s1.os } := fun code h3 tk ps' hx hsz hP3 ⟨more, em, hw⟩ ht3 => by
    obtain ⟨bm, ob, e1, e2, e3, e4, e5, e6, e7, e8⟩ := TB.bm
    have lt3 : s1.heap.objs.size < h3.objs.size := by omega
    have keep3 : ∀ b u, b ≠ P → s1.heap.get? b = some u → h3.get? b = some u := fun b u hb e => hx b u hb (Heap.get?_push_of_some o e)
    refine wpAny_builtinsFor (by rw [I1.ok.glob]; exact Heap.Ns.extBut (Heap.Ns.push (Heap.Ns.keeps I1.mod.glob I1.bk) o) hx TB.gP) e1 e2 (keep3 bm ob e4 (I1.bk bm ob e5)) e6 e7 e8 ?_
    refine ⟨s1.heap.objs.size, fp, [s1.heap.objs.size], n, Pi, St, fun _ => true, fun i y => y = .bool (pb i), rfl, W, ?_, ?_, Heap.NoLimit.extBut lim2 hx hcP.1, ?_, ?_, ?_⟩
    · exact (W X.A hr.hd).frame 0 (s1.heap.push o) h3 hst fun b hb u e => hx b u (fun z => hPfp (z ▸ hb)) e
    · intro b hb
      exact Nat.lt_of_le_of_lt (hfp b hb) lt3
    · intro z
      simp only [List.mem_singleton] at z
      exact absurd z (Nat.ne_of_lt hcP.2)
    · intro href hhref
      refine ⟨fun A' E' i v s₂ m₂ hA hPv hn hm hk => ?_, fun A' E' i v s₂ m₂ hA hPv _ hn hm hk => ?_⟩
      · simp only [List.forIn_nil]
        exact wpAny_pure ⟨rfl, GxR.keeps_refl s₂⟩
      · refine Elt _ A' E' i v s₂ m₂ rfl rfl rfl hA hPv hn hm fun b u hb e => ?_
        refine hk b (List.mem_range.mpr ?_) ?_ u (hhref b u (keep3 b u hb e))
        · exact Nat.lt_trans (Heap.lt_size e) lt3
        · intro z
          simp only [List.mem_singleton] at z
          exact absurd z (Nat.ne_of_lt (Heap.lt_size e))
    · intro g h5 tk5 gs hgb hag hsz5 hk5 W5 hat
      refine hQ n pb H1 g _ hR ⟨g :: h3.objs.size :: List.range h3.objs.size, [h3.objs.size, s1.heap.objs.size], GenOnlyQ s1.gens.size, fun j y => ∃ i, (List.range n)[j]? = some i ∧ y = .bool (pb i), _, WalksS.in4_1 ?_, hat, ?_, ?_⟩
      · have W5' := W5
        simp only [GxR.passing_true, List.length_range] at W5'
        exact W5'
      · rintro j y sj Qj Ej ⟨i, hij, rfl⟩ hQj
        obtain ⟨hj, ej⟩ := List.getElem?_eq_some_iff.mp hij
        rw [List.getElem_range] at ej
        subst ej
        exact wpAny_truthy_bool hQj
      · intro s' hm
        have nwr : ∀ b u, s1.heap.get? b = some u → b ∉ [h3.objs.size, s1.heap.objs.size] := fun b u e z => by
          rcases List.mem_cons.mp z with z | z
          · exact absurd z (Nat.ne_of_lt (Nat.lt_trans (Heap.lt_size e) lt3))
          · rw [List.mem_singleton] at z
            exact absurd z (Nat.ne_of_lt (Heap.lt_size e))
        have hw' : more = #[] ∨ ∃ (pos : Pos) (c : Addr) (q : Str), more = #[rawInt pos.line, rawInt pos.col, .ref c] ∧ s1.heap.objs.size ≤ c ∧ ∃ (oc : Obj) (fv : Array Value) (tk : Tok), s'.heap.get? c = some oc ∧ oc.data = .fields fv ∧ fv[1]? = some (.str q tk) := by
          rcases hw with z | ⟨pos, c, q, e1, e2, e3, oc, fv, tk, e4, e5, e6⟩
          · exact .inl z
          · refine .inr ⟨pos, c, q, e1, e2, oc, fv, tk, hm.heap c _ (fun z => ?_) (hk5 c _ e4), e5, e6⟩
            rcases List.mem_cons.mp z with z | z
            · exact absurd z (Nat.ne_of_lt (Heap.lt_size e4))
            · rw [List.mem_singleton] at z
              exact e3 z
        obtain ⟨H2, w1, J⟩ := inv_tabV (ps := ps) (more := more) (h' := s'.heap) (g' := s'.gens) (d' := s'.drawn) (t' := s'.toks) I1 hP hV (fun b u hb e => hm.heap b u (nwr b u e) (hk5 b u (keep3 b u hb e))) (by rw [← em]; exact hm.heap P _ (nwr P _ hPs) (hk5 P _ hP3)) (AllBare.movedS (AllBare.push I1.bare hgb) hm) (by rw [← em]; exact ht3) hw'
        have e := GxR.sh_eta s1 s' hm.os
        rw [e] at J
        exact ⟨H2, w1, J⟩
  refine ⟨lim2, ?_⟩
  cases hf : codeAmong gpos ps.toList with
  | none =>
    refine wpAny_genexprCodeX hcode (cd.code hP2 ht) (cd.tab hP2) hf fun c' h' tk hx hge hlt hco' hrec htab' _ => ?_
    obtain ⟨o1, vs, f1, tf, fl, tg, inF, tx, tt, op, _, _, _, _, _, _, _, _, _, htr, _⟩ := hco'
    obtain ⟨c2, oc, fv, tq, ec, hoc, hdc, hqc⟩ := hrec
    cases ec
    have hge' : (s1.heap.push o).objs.size ≤ c' := hge
    rw [sz2] at hge'
    exact cont (.ref c') h' tk _ hx (Nat.le_trans hge (Nat.le_of_lt hlt)) htab'.2 ⟨_, rfl, .inr ⟨gpos, c', _, rfl, by omega, Nat.ne_of_gt hge', oc, fv, tq, hoc, hdc, hqc⟩⟩ htr
  | some cv => exact wpAny_genexprCode_hit hcode (cd.code hP2 ht) hf (cont cv _ _ ps (Heap.ExtBut.refl P _) (Nat.le_refl _) hP2 ⟨#[], by simp, .inl rfl⟩ ht)
/-! ### what is walked -/
theorem src_str {z : Str} {t : Tok} {s : Shared} : GSrc X (.str z t) s z.cps.size (SignAt z) [s.heap.objs.size] := fun Q E h => wpAny_pyIter_str h
theorem src_list {a : Addr} {its : Array Value} {s : Shared} (h : s.heap.IsList a its) : GSrc X (.ref a) s its.size (fun i v => its[i]? = some v) [s.heap.objs.size, a] := fun Q E hq => by
  have lt : a < s.heap.objs.size := by obtain ⟨o, e, _⟩ := h; exact Heap.lt_size e
  refine wpAny_pyIter_list h (hq _ (fun i h => h.IsListIter s.heap.objs.size a i ∧ h.IsList a its) (fun A' hA => Walks.list hA _ _ (Nat.ne_of_lt lt) its) ⟨⟨_, (by heap_get), rfl, rfl⟩, ?_⟩)
  obtain ⟨o, e, r⟩ := h
  exact ⟨o, Heap.get?_push_of_some _ e, r⟩
theorem src_tup {a : Addr} {its : Array Value} {s : Shared} (h : s.heap.IsTuple a its) : GSrc X (.ref a) s its.size (fun i v => its[i]? = some v) [s.heap.objs.size, a] := fun Q E hq => by
  have lt : a < s.heap.objs.size := by obtain ⟨o, e, _⟩ := h; exact Heap.lt_size e
  refine wpAny_pyIter_tuple h (hq _ (fun i h => h.IsTupleIter s.heap.objs.size a i ∧ h.IsTuple a its) (fun A' hA => Walks.tuple hA _ _ (Nat.ne_of_lt lt) its) ⟨⟨_, (by heap_get), rfl, rfl⟩, ?_⟩)
  obtain ⟨o, e, r⟩ := h
  exact ⟨o, Heap.get?_push_of_some _ e, r⟩
/-! ### an element -/
variable {CT : Nat → Option Addr} {G : Gh} {W : WX}
structure GAt (X : Cx) (P : Addr) (s1 : Shared) (scope : Scope) (x : Str) (v : Value) (cenv : Env) (t : Shared) : Prop where
  sc : cenv.scope = scope
  gl : cenv.globals = X.env.globals
  ce : cenv.cells = cloFrom X.env.cells scope.names []
  ns : ∃ m, t.heap.Ns cenv.locals m ∧ m x = some v
  kp : ∀ b o, b ≠ P → b ≠ X.env.locals → s1.heap.get? b = some o → t.heap.get? b = some o
theorem GAt.keeps {P : Addr} {s1 : Shared} {scope : Scope} {x : Str} {v : Value} {cenv : Env} {t t' : Shared} (A : GAt X P s1 scope x v cenv t) (k : Keeps t t') : GAt X P s1 scope x v cenv t' := by
  obtain ⟨h', tk, rfl, hk⟩ := k
  obtain ⟨m, h1, h2⟩ := A.ns
  exact ⟨A.sc, A.gl, A.ce, ⟨m, h1.keeps hk, h2⟩, fun b o nb nl e => hk b o (A.kp b o nb nl e)⟩
theorem keeps_trans {s t u : Shared} (a : Keeps s t) (b : Keeps t u) : Keeps s u := by
  obtain ⟨h1, k1, rfl, e1⟩ := a
  obtain ⟨h2, k2, rfl, e2⟩ := b
  exact ⟨h2, k2, rfl, fun b o e => e2 b o (e1 b o e)⟩
theorem lookup_mem {y : Str} {c : Addr} : ∀ {l : List (Str × Addr)}, (y, c) ∈ l → ∃ c', l.lookup y = some c' ∧ (y, c') ∈ l
  | [], h => by cases h
  | (z, d) :: l, h => by
    rw [List.lookup_cons]
    by_cases e : y = z
    · subst e
      exact ⟨d, by simp, List.mem_cons_self⟩
    · rcases List.mem_cons.mp h with q | q
      · cases q; exact absurd rfl e
      · obtain ⟨c', h1, h2⟩ := lookup_mem q
        have : (y == z) = false := by simpa using e
        exact ⟨c', by rw [this]; exact h1, List.mem_cons_of_mem _ h2⟩
theorem clo_lookup {cells : List (Str × Addr)} {names : List (Str × NameKind)} {y : Str} {c : Addr} (h : (y, NameKind.free) ∈ names) (hc : cells.lookup y = some c) : (cloFrom cells names []).lookup y = some c := by
  obtain ⟨c', h1, h2⟩ := lookup_mem (cloFrom_has (acc := []) (cells := cells) h)
  rcases cloFrom_mem h2 with z | ⟨_, z⟩
  · cases z
  · rw [hc] at z
    rw [h1, z]; rfl
theorem item_tup {M : World} {A : Around} {E : Value → Shared → Prop} {t : Shared} {a : Addr} {its : Array Value} {k : Nat} {y : Value} {u : Tok} {Q : Value → Shared → Prop} (h : IsTup t.heap a its) (hk : k < 1000) (hy : its[k]? = some y) (hq : Q y t) : ItemOn (model X.prog M) A E (.ref a) (.int (k : Int) u) Q t := by
  obtain ⟨o, h1, h2, n, h3⟩ := h
  have hs : k < its.size := by
    obtain ⟨z, _⟩ := Array.getElem?_eq_some_iff.mp hy
    exact z
  refine ⟨"tuple", "tuple.__getitem__", by rfl, ⟨o, h1, h2⟩, PyProof.Rows.getItem_tuple (j := k) ⟨o, h1, h2, n, h3⟩ (by omega) (by omega) ?_ hy hq⟩
  unfold seqIndex?
  have : (0 : Int) ≤ (k : Int) := Int.natCast_nonneg k
  simp [hs]
  try omega
theorem item_lst {M : World} {A : Around} {E : Value → Shared → Prop} {t : Shared} {a : Addr} {its : List Value} {k : Nat} {y : Value} {u : Tok} {Q : Value → Shared → Prop} (h : t.heap.IsList a its.toArray) (hk : k < 1000) (hy : its[k]? = some y) (hq : Q y t) : ItemOn (model X.prog M) A E (.ref a) (.int (k : Int) u) Q t := by
  obtain ⟨o, h1, h2, h3⟩ := id h
  exact ⟨"list", "list.__getitem__", by rfl, ⟨o, h1, h2⟩, PyProof.Rows.getItem_listL h (by omega) (by omega) (by simpa using hy) hq⟩
theorem vals_get : ∀ {vs : List V} {us : List Value} {k : Nat} {u : V}, Vals vs us → vs[k]? = some u → ∃ w, us[k]? = some w ∧ RelV u w
  | _, _, _, _, .nil, h => by simp at h
  | _, _, 0, _, .cons r _, h => by
    simp only [List.getElem?_cons_zero, Option.some.injEq] at h
    subst h
    exact ⟨_, rfl, r⟩
  | _, _, k + 1, _, .cons _ rr, h => by
    simp only [List.getElem?_cons_succ] at h ⊢
    exact vals_get rr h
theorem vals_getV : ∀ {vs : List V} {us : List Value} {k : Nat} {w : Value}, Vals vs us → us[k]? = some w → ∃ u, vs[k]? = some u ∧ RelV u w
  | _, _, _, _, .nil, h => by simp at h
  | _, _, 0, _, .cons r _, h => by
    simp only [List.getElem?_cons_zero, Option.some.injEq] at h
    subst h
    exact ⟨_, rfl, r⟩
  | _, _, k + 1, _, .cons _ rr, h => by
    simp only [List.getElem?_cons_succ] at h ⊢
    exact vals_getV rr h
variable (X CT) in
/-- the text of an element -/
def PxS (sc : Scope) (x : Str) : PX → Expr → Prop
  | .it, t => ∃ p, t = .Name x p ∧ (x == ("__debug__" : Str)) = false
  | .ita k, t => ∃ p j p2 p3, t = .Subscript (.Name x p) (.Constant (.int (k : Int)) j p2) p3 ∧ (x == ("__debug__" : Str)) = false
  | .fr j y, t => ∃ p, t = .Name y p ∧ X.N[j]? = some y ∧ Vis X.env.scope y ∧ (y == ("__debug__" : Str)) = false ∧ (y == ("__classdict__" : Str)) = false ∧ X.env.kindOf y = some .cell ∧ sc.names.lookup y = some .free ∧ (y, NameKind.free) ∈ sc.names
  | .gl y d, t => ∃ p u v, t = .Name y p ∧ sc.names.lookup y = some .globalImplicit ∧ (y == ("__debug__" : Str)) = false ∧ X.mg y = some u ∧ RelV v u ∧ ∀ F, Rep X.K CT F d v
  | .cat a b, t => ∃ l r p, t = .BinOp l .Add r p ∧ PxS sc x a l ∧ PxS sc x b r
  | .eqq n a b, t => ∃ l r p, t = .Compare l [if n then .NotEq else .Eq] [r] p ∧ PxS sc x a l ∧ PxS sc x b r ∧ behindInMarks (if n then .NotEq else .Eq) r = false
  | .inn n a b, t => ∃ l r p, t = .Compare l [if n then .NotIn else .In] [r] p ∧ PxS sc x a l ∧ PxS sc x b r ∧ behindInMarks (if n then .NotIn else .In) r = false
theorem px_ok {pins : List (Addr × Obj)} {σ : L2.St} {H1 F : Hp} {s1 : Shared} {P : Addr} {S : List SD} {scope : Scope} {x : Str} {v : Value} {v0 : V} {d : D} {cenv : Env} {A' : Around} {E' : Value → Shared → Prop} {ps : Array Value}
    (I1 : Inv X pins σ H1 s1) (R : SR X.K CT G S F σ H1) (hP : s1.heap.get? P = some ⟨.none, none, .fields ps, #[]⟩) (gP : mainGlobals ≠ P) (hk : scope.kind = .function) (hx : scope.names.lookup x = some .local) (rv : RelV v0 v) (rd : Rep X.K CT F d v0) :
    ∀ (e : PX) (ex : Expr) (r : D), PxS X CT scope x e ex → evP S d e = some r → ∀ t, GAt X P s1 scope x v cenv t → wpAny (model X.prog X.w) A' (eval ex cenv) (fun y s₃ => (∃ v', RelV v' y ∧ Rep X.K CT F r v') ∧ Keeps t s₃) E' t
  | .it, ex, r, ⟨p, e, hd⟩, h, t, A => by
    subst e
    simp only [evP, Option.some.injEq] at h; subst h
    obtain ⟨m, h1, h2⟩ := A.ns
    exact wpAny_Name (wpAny_loadName_local (by rw [A.sc]; exact hk) (by show cenv.scope.names.lookup x = _; rw [A.sc]; exact hx) h1 h2 ⟨⟨v0, rv, rd⟩, GxR.keeps_refl t⟩) hd
  | .ita k, ex, r, ⟨p, j, p2, p3, e, hd⟩, h, t, A => by
    subst e
    simp only [evP] at h
    split at h
    · rename_i xs
      split at h
      · rename_i hk1
        simp only [Rep] at rd
        obtain ⟨a, vs, rfl, q1, q2⟩ := rd
        obtain rfl : v = Value.ref a := rv
        obtain ⟨u, g1, g2⟩ := q2.get h
        obtain ⟨its, t1, t2, t3⟩ := I1.tuple (same_sqT R.sub q1)
        obtain ⟨w, w1, w2⟩ := vals_get t1 g1
        obtain ⟨m, h1, h2⟩ := A.ns
        refine Subscript_Constant (wpAny_Name (wpAny_loadName_local (by rw [A.sc]; exact hk) (by show cenv.scope.names.lookup x = _; rw [A.sc]; exact hx) h1 h2 (wpAny_Constant_int ?_)) hd)
        refine item_tup (its := its.toArray) ?_ hk1 (by simpa using w1) ⟨⟨u, w2, g2⟩, GxR.keeps_tok t _⟩
        obtain ⟨o, o1, o2, o3⟩ := t2
        exact ⟨o, A.kp a o (fun z => by rw [z, hP] at o1; cases o1; cases o2) (fun z => by obtain ⟨m', ⟨o', es, ep, l1, l2, _⟩, _⟩ := I1.loc; obtain ⟨n', l3⟩ := o3; rw [z, l1] at o1; cases o1; rw [l2] at l3; cases l3) o1, o2, o3⟩
      · cases h
    · rename_i xs
      split at h
      · rename_i hk1
        simp only [Rep] at rd
        obtain ⟨a, vs, rfl, q1, q2⟩ := rd
        obtain rfl : v = Value.ref a := rv
        obtain ⟨u, g1, g2⟩ := q2.get h
        obtain ⟨its, t1, t2, t3⟩ := I1.list (SqL.of (R.sub _ _ q1))
        obtain ⟨w, w1, w2⟩ := vals_get t1 g1
        obtain ⟨m, h1, h2⟩ := A.ns
        refine Subscript_Constant (wpAny_Name (wpAny_loadName_local (by rw [A.sc]; exact hk) (by show cenv.scope.names.lookup x = _; rw [A.sc]; exact hx) h1 h2 (wpAny_Constant_int ?_)) hd)
        refine item_lst (its := its) ?_ hk1 w1 ⟨⟨u, w2, g2⟩, GxR.keeps_tok t _⟩
        obtain ⟨o, o1, o2, o3⟩ := t2.isList
        exact ⟨o, A.kp a o (fun z => by rw [z, hP] at o1; cases o1; cases o2) (fun z => by obtain ⟨m', ⟨o', es, ep, l1, l2, _⟩, _⟩ := I1.loc; obtain ⟨n', l3⟩ := o3; rw [z, l1] at o1; cases o1; rw [l2] at l3; cases l3) o1, o2, o3⟩
      · cases h
    · cases h
  | .fr j y, ex, r, ⟨p, e, hN, hv, hd, hcd, hc, hf, hm⟩, h, t, A => by
    subst e
    simp only [evP] at h
    split at h
    · rename_i d' q
      cases h
      obtain ⟨u, g1, g2⟩ := R.val j _ q
      obtain ⟨m, _, hl⟩ := I1.loc
      obtain ⟨u', r1, lk⟩ := hl j y u hN g1 hv
      rcases lk with ⟨z, _⟩ | ⟨_, c, c1, c2⟩
      · rw [hc] at z; cases z
      · have ic : t.heap.IsCell c (some u') := by
          obtain ⟨o, o1, o2⟩ := c2
          exact ⟨o, A.kp c o (fun z => by rw [z, hP] at o1; cases o1; cases o2) (I1.cne y c c1) o1, o2⟩
        exact wpAny_Name (wpAny_loadName_free (by rw [A.sc]; exact hk) (by show cenv.scope.names.lookup y = _; rw [A.sc]; exact hf) (by rw [A.ce]; exact clo_lookup hm c1) ic ⟨⟨u, r1, g2⟩, GxR.keeps_refl t⟩ hcd) hd
    · cases h
  | .gl y d', ex, r, ⟨p, u, v', e, hg, hd, hm, rm, hr⟩, h, t, A => by
    subst e
    simp only [evP, Option.some.injEq] at h; subst h
    refine Calls.Name_function_global (by rw [A.sc]; exact hk) (by show cenv.scope.names.lookup y = _; rw [A.sc]; exact hg) (Calls.loadGlobal_global (mg := X.mg) ?_ hm ⟨⟨v', rm, hr F⟩, GxR.keeps_refl t⟩) hd
    rw [A.gl, I1.ok.glob]
    obtain ⟨o, es, ep, l1, l2⟩ := Heap.Ns.keeps I1.mod.glob I1.bk
    refine ⟨o, es, ep, A.kp _ o gP (fun z => ?_) l1, l2⟩
    obtain ⟨o0, es0, ep0, l3, _⟩ := I1.mod.glob
    exact Nat.lt_irrefl _ (Nat.lt_of_lt_of_le (Heap.lt_size (I1.ok.bs _ _ l3).1) (z ▸ I1.ok.above))
  | .cat a b, ex, r, ⟨l, q, p, e, ha, hb⟩, h, t, A => by
    subst e
    simp only [evP] at h
    split at h
    · rename_i z1 z2 e1 e2
      split at h
      · rename_i hc
        cases h
        refine wpAny_BinOp (wpAny_mono (px_ok I1 R hP gP hk hx rv rd a l _ ha e1 t A) (fun y1 s3 ⟨⟨v1, r1, q1⟩, k1⟩ => wpAny_mono (px_ok I1 R hP gP hk hx rv rd b q _ hb e2 s3 (A.keeps k1)) (fun y2 s4 ⟨⟨v2, r2, q2⟩, k2⟩ => ?_) (fun _ _ e => e)) (fun _ _ e => e))
        simp only [Rep] at q1 q2
        subst q1 q2
        obtain ⟨t1, rfl⟩ := r1
        obtain ⟨t2, rfl⟩ := r2
        refine PyProof.Rows.add_str (fun t' tk => ⟨⟨.str (z1 ++ z2), ⟨t', rfl⟩, by simp only [Rep]⟩, keeps_trans k1 (keeps_trans k2 ⟨_, _, rfl, fun b o e => e⟩)⟩) (cap_le hc)
      · cases h
    · cases h
  | .eqq n a b, ex, r, ⟨l, q, p, e, ha, hb, hm⟩, h, t, A => by
    subst e
    simp only [evP] at h
    refine wpAny_Compare1 ?_ hm
    split at h
    · rename_i z1 z2 e1 e2
      cases h
      refine wpAny_mono (px_ok I1 R hP gP hk hx rv rd a l _ ha e1 t A) (fun y1 s3 ⟨⟨v1, r1, q1⟩, k1⟩ => wpAny_mono (px_ok I1 R hP gP hk hx rv rd b q _ hb e2 s3 (A.keeps k1)) (fun y2 s4 ⟨⟨v2, r2, q2⟩, k2⟩ => ?_) (fun _ _ e => e)) (fun _ _ e => e)
      simp only [Rep] at q1 q2
      subst q1 q2
      obtain ⟨t1, rfl⟩ := r1
      obtain ⟨t2, rfl⟩ := r2
      cases n with
      | false => exact PySem.P.eq_str ⟨⟨.bl _, rfl, by simp only [Rep]; rfl⟩, keeps_trans k1 k2⟩
      | true => exact PySem.P.ne_str ⟨⟨.bl _, rfl, by simp only [Rep]; rfl⟩, keeps_trans k1 k2⟩
    · rename_i z1 z2 e1 e2
      cases h
      refine wpAny_mono (px_ok I1 R hP gP hk hx rv rd a l _ ha e1 t A) (fun y1 s3 ⟨⟨v1, r1, q1⟩, k1⟩ => wpAny_mono (px_ok I1 R hP gP hk hx rv rd b q _ hb e2 s3 (A.keeps k1)) (fun y2 s4 ⟨⟨v2, r2, q2⟩, k2⟩ => ?_) (fun _ _ e => e)) (fun _ _ e => e)
      simp only [Rep] at q1 q2
      subst q1 q2
      obtain ⟨t1, rfl⟩ := r1
      obtain ⟨t2, rfl⟩ := r2
      cases n with
      | false => exact PySem.P.eq_int ⟨⟨.bl _, rfl, by simp only [Rep]; rfl⟩, keeps_trans k1 k2⟩
      | true => exact PySem.P.ne_int ⟨⟨.bl _, rfl, by simp only [Rep]; rfl⟩, keeps_trans k1 k2⟩
    · cases h
  | .inn n a b, ex, r, ⟨l, q, p, e, ha, hb, hm⟩, h, t, A => by
    subst e
    simp only [evP] at h
    refine wpAny_Compare1 ?_ hm
    split at h
    · rename_i z1 z2 e1 e2
      split at h
      · rename_i h1
        cases h
        refine wpAny_mono (px_ok I1 R hP gP hk hx rv rd a l _ ha e1 t A) (fun y1 s3 ⟨⟨v1, r1, q1⟩, k1⟩ => wpAny_mono (px_ok I1 R hP gP hk hx rv rd b q _ hb e2 s3 (A.keeps k1)) (fun y2 s4 ⟨⟨v2, r2, q2⟩, k2⟩ => ?_) (fun _ _ e => e)) (fun _ _ e => e)
        simp only [Rep] at q1 q2
        subst q1 q2
        obtain ⟨t1, rfl⟩ := r1
        obtain ⟨t2, rfl⟩ := r2
        have fo := StrLaws.found_one z2 (z1.cps.toList.headD 0)
        rw [← one_sign h1] at fo
        cases n with
        | false => exact PyProof.Rows.in_str ⟨⟨.bl _, rfl, by simp only [Rep]; rw [fo]; rfl⟩, keeps_trans k1 k2⟩
        | true => exact PySem.P.notIn_str ⟨⟨.bl _, rfl, by simp only [Rep]; rw [fo]; rfl⟩, keeps_trans k1 k2⟩
      · cases h
    · cases h
/-! ### any and all of a generator -/
theorem mapM_get {α β : Type} {f : α → Option β} : ∀ {xs : List α} {bs : List β}, xs.mapM f = some bs → bs.length = xs.length ∧ ∀ (i : Nat) (d : α), xs[i]? = some d → ∃ b, bs[i]? = some b ∧ f d = some b
  | [], bs, h => by
    simp only [List.mapM_nil, Option.pure_def, Option.some.injEq] at h
    subst h
    exact ⟨rfl, fun i d e => by simp at e⟩
  | x :: xs, bs, h => by
    rw [List.mapM_cons] at h
    cases e1 : f x with
    | none => rw [e1] at h; cases h
    | some b =>
      rw [e1] at h
      cases e2 : xs.mapM f with
      | none => rw [e2] at h; cases h
      | some cs =>
        rw [e2] at h
        cases h
        obtain ⟨l, g⟩ := mapM_get e2
        refine ⟨by simp [l], fun i d e => ?_⟩
        cases i with
        | zero => simp at e; subst e; exact ⟨b, rfl, e1⟩
        | succ i => exact g i d (by simpa using e)
theorem range_getD (bs : List Bool) : (List.range bs.length).map (fun i => bs.getD i false) = bs := by
  apply List.ext_getElem?
  intro i
  rw [List.getElem?_map]
  by_cases h : i < bs.length
  · rw [List.getElem?_range h, List.getElem?_eq_getElem h]
    simp [List.getD, h]
  · rw [List.getElem?_eq_none (by simpa using h), List.getElem?_eq_none (by simpa using h)]
    rfl
theorem any_getD (bs : List Bool) : (List.range bs.length).any (fun i => bs.getD i false) = bs.any id := by
  have h : ((List.range bs.length).map (fun i => bs.getD i false)).any id = bs.any id := by rw [range_getD]
  rw [← h, List.any_map]; rfl
theorem all_getD (bs : List Bool) : (List.range bs.length).all (fun i => bs.getD i false) = bs.all id := by
  have h : ((List.range bs.length).map (fun i => bs.getD i false)).all id = bs.all id := by rw [range_getD]
  rw [← h, List.all_map]; rfl
theorem gsrc_of {pins : List (Addr × Obj)} {σ : L2.St} {H1 F : Hp} {s1 : Shared} {P : Addr} {S : List SD} {d : D} {v : V} {xv : Value} {xs : List D} {ps : Array Value} (I1 : Inv X pins σ H1 s1) (R : SR X.K CT G S F σ H1) (hP : s1.heap.get? P = some ⟨.none, none, .fields ps, #[]⟩)
    (rv : RelV v xv) (rd : Rep X.K CT F d v) (he : elmD d = some xs) : ∃ Pi fp, P ∉ fp ∧ (∀ b ∈ fp, b ≤ s1.heap.objs.size) ∧ GSrc X xv s1 xs.length Pi fp ∧ ∀ i u, Pi i u → ∃ d' v0, xs[i]? = some d' ∧ RelV v0 u ∧ Rep X.K CT F d' v0 := by
  have hlt := Heap.lt_size hP
  have seq : ∀ (a : Addr) (vs : List V) (its : List Value) (ys : List D), Vals vs its → Reps X.K CT F ys vs → xs = ys → (∃ o, s1.heap.get? a = some o ∧ o.cls ≠ .none) → GSrc X (.ref a) s1 its.toArray.size (fun i v => its.toArray[i]? = some v) [s1.heap.objs.size, a] →
      ∃ Pi fp, P ∉ fp ∧ (∀ b ∈ fp, b ≤ s1.heap.objs.size) ∧ GSrc X (.ref a) s1 xs.length Pi fp ∧ ∀ i u, Pi i u → ∃ d' v0, xs[i]? = some d' ∧ RelV v0 u ∧ Rep X.K CT F d' v0 := fun a vs its ys hv r e ⟨o, o1, o2⟩ g => by
    subst e
    have hl : its.toArray.size = xs.length := by rw [List.size_toArray, r.length]; exact hv.length.symm
    rw [hl] at g
    refine ⟨fun i v => its.toArray[i]? = some v, [s1.heap.objs.size, a], fun z => ?_, fun b hb => ?_, g, fun i u hu => ?_⟩
    · rcases List.mem_cons.mp z with z | z
      · exact absurd z (Nat.ne_of_lt hlt)
      · rw [List.mem_singleton] at z
        rw [← z, hP] at o1; cases o1
        exact o2 rfl
    · rcases List.mem_cons.mp hb with z | z
      · rw [z]; exact Nat.le_refl _
      · rw [List.mem_singleton] at z
        rw [z]; exact Nat.le_of_lt (Heap.lt_size o1)
    · have hu' : its[i]? = some u := by simpa using hu
      obtain ⟨w, w1, w2⟩ := vals_getV hv hu'
      obtain ⟨d', d1, d2⟩ := r.getV w1
      exact ⟨d', w, d1, w2, d2⟩
  cases d <;> simp only [elmD] at he <;> first | (cases he; done) | skip
  · rename_i z
    cases he
    simp only [Rep] at rd; subst rd
    obtain ⟨t, rfl⟩ := rv
    refine ⟨SignAt z, [s1.heap.objs.size], fun q => ?_, fun b hb => ?_, ?_, fun i u hu => ?_⟩
    · rw [List.mem_singleton] at q
      exact absurd q (Nat.ne_of_lt hlt)
    · rw [List.mem_singleton] at hb
      rw [hb]; exact Nat.le_refl _
    · have := src_str (X := X) (z := z) (t := t) (s := s1)
      rw [List.length_map, Array.length_toList]
      exact this
    · obtain ⟨c, t', h1, rfl⟩ := hu
      refine ⟨.str ⟨#[c]⟩, .str ⟨#[c]⟩, ?_, ⟨t', rfl⟩, by simp only [Rep]⟩
      rw [List.getElem?_map, Array.getElem?_toList, h1]; rfl
  · rename_i ys
    cases he
    simp only [Rep] at rd
    obtain ⟨a, vs, rfl, q1, q2⟩ := rd
    obtain rfl : xv = Value.ref a := rv
    obtain ⟨its, t1, t2, _⟩ := I1.tuple (same_sqT R.sub q1)
    refine seq a vs its _ t1 q2 rfl ?_ (src_tup t2)
    obtain ⟨o, o1, o2, _⟩ := t2
    exact ⟨o, o1, by rw [o2]; exact fun z => nomatch z⟩
  · rename_i ys
    cases he
    simp only [Rep] at rd
    obtain ⟨a, vs, rfl, q1, q2⟩ := rd
    obtain rfl : xv = Value.ref a := rv
    obtain ⟨its, t1, t2, _⟩ := I1.list (SqL.of (R.sub _ _ q1))
    refine seq a vs its _ t1 q2 rfl ?_ (src_list t2.isList)
    obtain ⟨o, o1, o2, _⟩ := t2.isList
    exact ⟨o, o1, by rw [o2]; exact fun z => nomatch z⟩
  · rename_i ys
    cases he
    simp only [Rep] at rd
    obtain ⟨a, vs, rfl, q1, q2⟩ := rd
    obtain rfl : xv = Value.ref a := rv
    obtain ⟨its, t1, t2, _⟩ := I1.list (Same.seq R.sub q1)
    refine seq a vs its _ t1 q2 rfl ?_ (src_list t2.isList)
    obtain ⟨o, o1, o2, _⟩ := t2.isList
    exact ⟨o, o1, by rw [o2]; exact fun z => nomatch z⟩
theorem SR.tabbed {K : PySem.W.Frag} {S : List SD} {F H H' : Hp} {σ : L2.St} {P : Addr} (I : SR K CT G S F σ H) (t : P ∈ G.T) (h : TabbedV P H H') : SR K CT G S F σ H' := by
  obtain ⟨h1, h2⟩ := h
  have nf : ∀ b o, F b = some o → b ≠ P := fun b o e z => by rw [z, I.tabF P t] at e; cases e
  refine I.aft ⟨Same.refl F, fun b o e => h2 b o (nf b o e) (I.sub b o e), fun b hb _ => hb, fun b o e _ ht => h2 b o (fun z => ht (by rw [z]; exact t)) e, fun Q hQ => ?_⟩
  by_cases e : Q = P
  · rw [e]; exact h1
  · obtain ⟨ps, p1, p2, p3⟩ := I.tab Q hQ
    refine ⟨ps, h2 Q _ e p1, p2, fun pos cv hcv => ?_⟩
    obtain ⟨c, q, e1, e2⟩ := p3 pos cv hcv
    refine ⟨c, q, e1, h2 c _ (fun z => ?_) e2⟩
    obtain ⟨ps', p4, _⟩ := I.tab P t
    rw [z, p4] at e2; unfold LamX.CodeO at e2; cases e2
variable {CF : Nat → List Str} {Φ : Nat → Option OC → List D → FRes}
theorem v_gen {all : Bool} {it : E} {el : PX} {elt iter : Expr} {x : Str} {px p gpos pos : Pos} {scope : Scope} {c P : Addr} {k : Nat} (hr : Room k X.A) (hg : Gl X (if all then "all" else "any")) (hm : X.mg (if all then "all" else "any") = none)
    (TB : GxR.TabB X.base X.mg c P) (hcode : X.env.code = .ref c) (hT : P ∈ G.T) (hS : X.Ok → GxR.GenS X.env scope x) (hi : PEv X CT G W CF Φ iter it) (hs : ∀ v, genFold iter X.env v = pure v) (hp : PxS X CT scope x el elt) :
    PEv X CT G W CF Φ (.Call (.Name (if all then "all" else "any") p) [.GeneratorExp elt [⟨.Name x px, iter, [], 0⟩] scope gpos] [] pos) (.gen all it el) := by
  refine ⟨fun pins s σ H Q I ⟨S, F, R, h⟩ => ?_⟩
  simp only [evE] at h
  have S0 := hS I.ok
  have run : ∀ {Q' : Value → Shared → Prop}, (∀ n pb H1 g s5, (∃ (S1 : List SD) (F1 : Hp) (bs : List Bool), n = bs.length ∧ pb = (fun i => bs.getD i false) ∧ SR X.K CT G S1 F1 σ H1 ∧ Po X.K CT G W (RE X.K CT) (.ok (.bl (if all then bs.all id else bs.any id)) S1) F1 σ Q) → GReady X pins σ H1 P n pb g s5 → Q' (.ref g) s5) →
      wpAny (model X.prog X.w) X.A (eval (.GeneratorExp elt [⟨.Name x px, iter, [], 0⟩] scope gpos) X.env) Q' X.xe s := fun hq => by
    refine gen_run hr TB hcode S0 hi hs I (R := fun n pb H1 => ∃ (S1 : List SD) (F1 : Hp) (bs : List Bool), n = bs.length ∧ pb = (fun i => bs.getD i false) ∧ SR X.K CT G S1 F1 σ H1 ∧ Po X.K CT G W (RE X.K CT) (.ok (.bl (if all then bs.all id else bs.any id)) S1) F1 σ Q) (hX_bind R h fun d S1 F1 v H1 R1 e1 r1 h1 => ?_) hq
    split at h1
    · rename_i xs hx
      split at h1
      · rename_i bs hb
        obtain ⟨hl, hget⟩ := mapM_get hb
        refine ⟨bs.length, fun i => bs.getD i false, R1.tab P hT, ⟨S1, F1, bs, rfl, rfl, R1, h1⟩, fun xv s1 rv I1 => ?_⟩
        obtain ⟨ps, hP, _, _⟩ := R1.tab P hT
        have hPs : s1.heap.get? P = some ⟨.none, none, .fields ps, #[]⟩ := I1.hok P (.tbl ps) hP
        obtain ⟨Pi, fp, g1, g2, g3, g4⟩ := gsrc_of I1 R1 hPs rv r1 hx
        refine ⟨Pi, fp, g1, g2, by rw [hl]; exact g3, fun cenv A' E' i u t m₂ a1 a2 a3 a4 a5 a6 a7 a8 => ?_⟩
        obtain ⟨d', v0, q1, q2, q3⟩ := g4 i u a5
        obtain ⟨b, b1, b2⟩ := hget i d' q1
        cases e3 : evP S1 d' el with
        | none => rw [e3] at b2; cases b2
        | some r =>
          rw [e3] at b2
          have er : r = .bl b := by
            cases r <;> simp [isBlD] at b2
            rw [b2]
          subst er
          refine wpAny_mono (px_ok I1 R1 hPs TB.gP S0.kind S0.loc q2 q3 el elt _ hp e3 t ⟨a1, a2, a3, ⟨m₂, a6, a7⟩, fun b o n _ e => a8 b o n e⟩) (fun y s3 ⟨⟨v', w1, w2⟩, k⟩ => ⟨?_, k⟩) (fun _ _ e => e)
          simp only [Rep] at w2
          subst w2
          have eb : bs.getD i false = b := by simp [List.getD, b1]
          show y = Value.bool (bs.getD i false)
          rw [eb]
          exact w1
      · exact False.elim h1
    · exact False.elim h1
  have fin : ∀ (n : Nat) (pb : Nat → Bool) (H1 : Hp) (b : Bool), (∃ (S1 : List SD) (F1 : Hp) (bs : List Bool), n = bs.length ∧ pb = (fun i => bs.getD i false) ∧ SR X.K CT G S1 F1 σ H1 ∧ Po X.K CT G W (RE X.K CT) (.ok (.bl (if all then bs.all id else bs.any id)) S1) F1 σ Q) → b = (if all then (List.range n).all pb else (List.range n).any pb) → ∀ (H2 : Hp) (s' : Shared), TabbedV P H1 H2 → Inv X pins σ H2 s' → EP X pins σ Q (.bool b) s' := fun n pb H1 b ⟨S1, F1, bs, e1, e2, R1, h1⟩ eb H2 s' ht J => by
    subst e1 e2
    refine ⟨.bl b, H2, J, rfl, h1 F1 (.bl b) H2 (Same.refl F1) (R1.tabbed hT ht) ?_⟩
    simp only [RE, Rep, V.bl.injEq]
    rw [eb]
    cases all with
    | true => simp only [if_true]; exact all_getD bs
    | false => simp only [Bool.false_eq_true, if_false]; exact any_getD bs
  cases all with
  | true =>
    refine wpAny_Call_Name_kw (ld_blt I hg hm boot_all (callWith_builtin1 ?_ rfl rfl) (by decide) (by decide))
    refine Calls.spliced_cons (run fun n pb H1 g s5 hR ⟨fp, wr, G', F', St', Wk, hst, htr, hI⟩ => Calls.spliced_nil (call_all_walkS (Wk.self 0 s5 _ _ hst ⟨g, fp, wr, G', n, F', St', pb, rfl, Wk, hst, htr, fun s' hmv => ?_⟩)))
    obtain ⟨H2, ht, J⟩ := hI s' hmv
    exact fin n pb H1 _ hR rfl H2 s' ht J
  | false =>
    refine wpAny_Call_Name_kw (ld_blt I hg hm boot_any (callWith_builtin1 ?_ rfl rfl) (by decide) (by decide))
    refine Calls.spliced_cons (run fun n pb H1 g s5 hR ⟨fp, wr, G', F', St', Wk, hst, htr, hI⟩ => Calls.spliced_nil (call_any_walkS (Wk.self 0 s5 _ _ hst ⟨g, fp, wr, G', n, F', St', pb, rfl, Wk, hst, htr, fun s' hmv => ?_⟩)))
    obtain ⟨H2, ht, J⟩ := hI s' hmv
    exact fin n pb H1 _ hR rfl H2 s' ht J
end

set_option Elab.async false
set_option linter.all false
set_option maxRecDepth 100000
set_option maxHeartbeats 4000000
open PySem PySem.Spec PyProof.Rows L2

/-! ### a lambda of one parameter, made and called -/
abbrev prm1 (x : Str) (p : Pos) : Arguments := ⟨[], [⟨x, none, p⟩], none, [], [], none, []⟩
theorem bd1 {qual x : Str} {px : Pos} {body : Expr} {scope : Scope} {cl : List (Str × Addr)} {pm ctv v : Value} {c' : Addr} : bindArgs (PySem.W.kla_fn "<lambda>" qual (prm1 x px) body scope cl pm (.ref c') ctv) ⟨[v], []⟩ = pure [(x, v)] := by
  have h : List.lookup x [(x, v)] = some v := by simp
  unfold bindArgs
  simp [seqItems?, h]
  rfl
structure LmS (env : Env) (scope : Scope) (x : Str) : Prop where
  kind : scope.kind = .function
  co : scope.isCoroutine = false
  gen : scope.isGenerator = false
  cell : ∀ y ∈ scope.names, y.2 ≠ .cell
  loc : scope.names.lookup x = some .local
  free : ∀ y ∈ scope.names, y.2 = .free → ∃ c, env.cells.lookup y.1 = some c
def CodeOf (h : Heap) (c : Addr) : Prop := ∃ (oc : Obj) (fv : Array Value) (q : Str) (tk : Tok), h.get? c = some oc ∧ oc.data = .fields fv ∧ fv[1]? = some (.str q tk)
section
variable {X : Cx} {pins : List (Addr × Obj)} {σ : L2.St} {H : Hp} {s : Shared}
theorem lam_mk {c P : Addr} {params : Arguments} {body : Expr} {scope : Scope} {pos : Pos} {E Q : Value → Shared → Prop} (I : Inv X pins σ H s) (TB : GxR.TabB X.base X.mg c P) (hcode : X.env.code = .ref c) (V : TabV H P) (hdef : defaultsOf params X.env = ([], []))
    (hfree : ∀ y ∈ scope.names, y.2 = .free → ∃ c, X.env.cells.lookup y.1 = some c)
    (h : ∀ (f c' : Addr) (pm ctv : Value) (H1 : Hp) (s' : Shared), TabbedV P H H1 → Inv X pins σ H1 s' → s'.heap.get? f = some (PySem.W.kla_obj "<lambda>" (X.env.qual ++ "<lambda>") params body scope (cloFrom X.env.cells scope.names []) pm c' ctv) → f ≠ X.env.locals → CodeOf s'.heap c' → Q (.ref f) s') :
    wpAny (model X.prog X.w) X.A (eval (.Lambda params body scope pos) X.env) Q E s := by
  obtain ⟨ps, hP, ht, hcs⟩ := id V
  refine PySem.W.kla_eval hdef ?_
  have bP : s.heap.BuiltinsAt X.mg P := TB.bm.keeps I.bk
  have hP' : s.heap.get? P = some { cls := .none, data := .fields ps } := I.hok P _ hP
  have noL : ∀ f, s.heap.objs.size ≤ f → f ≠ X.env.locals := fun f hf z => by
    have lt := I.lt
    rw [← z] at lt
    exact Nat.lt_irrefl _ (Nat.lt_of_lt_of_le lt hf)
  cases hc : codeAmong pos ps.toList with
  | none =>
    refine PySem.W.kla_makeFunction (mg := X.mg) (c := c) (P := P) (ps := ps) (closure_ok hfree) I.ok.glob (I.mod.glob.keeps I.bk) hcode (TB.code.keeps I.bk) hP' ht hc TB.gP bP fun c' ctv h' tk hx hge hlt hrec htb => ?_
    obtain ⟨c2, oc, fv, tq, ec, hoc, hdc, hqc⟩ := hrec
    cases ec
    have eL : (ps ++ #[rawInt pos.line, rawInt pos.col, .ref c']).toList = ps.toList ++ [rawInt pos.line, rawInt pos.col, .ref c'] := by simp
    obtain ⟨H2, w1, J⟩ := inv_tabV (ps := ps) (more := #[rawInt pos.line, rawInt pos.col, .ref c']) (h' := h'.push (PySem.W.kla_obj "<lambda>" (X.env.qual ++ "<lambda>") params body scope (cloFrom X.env.cells scope.names []) ((X.mg "__name__").getD .none) c' ctv))
      (g' := s.gens) (d' := s.drawn) (t' := tk) I hP V (fun b o n e => Heap.get?_push_of_some _ (hx b o n e)) (Heap.get?_push_of_some _ htb) I.bare (by rw [eL]; exact PySem.TriplesOk_snoc _ _ _ _ ht) (.inr ⟨pos, c', _, rfl, hge, oc, fv, tq, Heap.get?_push_of_some _ hoc, hdc, hqc⟩)
    exact h h'.objs.size c' _ ctv H2 _ w1 J (Heap.get?_push_size _ rfl) (noL _ (Nat.le_trans hge (Nat.le_of_lt hlt))) ⟨oc, fv, _, tq, Heap.get?_push_of_some _ hoc, hdc, hqc⟩
  | some cv =>
    obtain ⟨c', q, rfl, hco⟩ := hcs pos cv hc
    obtain ⟨⟨oc, fv, tq, hoc, hdc, hqc⟩, _, _⟩ := I.hok c' _ hco
    refine PySem.W.kla_makeFunctionHit (mg := X.mg) (c := c) (P := P) (ps := ps) (closure_ok hfree) I.ok.glob (I.mod.glob.keeps I.bk) hcode (TB.code.keeps I.bk) hP' ht hc bP fun ctv h' tk hx hsz => ?_
    have J : Inv X pins σ H { s with heap := h'.push (PySem.W.kla_obj "<lambda>" (X.env.qual ++ "<lambda>") params body scope (cloFrom X.env.cells scope.names []) ((X.mg "__name__").getD .none) c' ctv), toks := tk } := I.kept fun b o e => Heap.get?_push_of_some _ (hx b o e)
    exact h h'.objs.size c' _ ctv H _ ⟨V, fun b o _ e => e⟩ J (Heap.get?_push_size _ rfl) (noL _ hsz) ⟨oc, fv, q, tq, Heap.get?_push_of_some _ (hx _ _ hoc), hdc, hqc⟩
end
section
variable {prog : Program} {w : World} {A : Around} {R : Result → Shared → Prop} {s : Shared}
theorem call_expr {a c : Addr} {args : Args} {o oc : Obj} {fd : FuncData} {body : Expr} {fv : Array Value} {q : Str} {tq : Tok} (room : A.depth < recursionLimit) (ho : s.heap.get? a = some o) (hd : o.data = .func fd) (h1 : fd.scope.isCoroutine = false) (h2 : fd.scope.isGenerator = false) (h3 : fd.body = .expr body)
    (hc : fd.code = .ref c) (hoc : s.heap.get? c = some oc) (hdc : oc.data = .fields fv) (hq : fv[1]? = some (.str q tq))
    (h : wpAny (model prog w) A.in1 (bindArgs fd args) (fun binds s₁ => wpAny (model prog w) A.in1 (newFunctionEnv fd.scope fd.globals fd.closure binds (q ++ ".<locals>.") (some a) (.ref c) none fd.builtins)
      (fun env s₂ => s₂.heap.NoLimit ∧ codeAny (model prog w) A (.expr body env) R s₂) (fun e z => R (.error e) z) s₁) (fun e z => R (.error e) z) s) : codeAny (model prog w) A (.call (.ref a) args) R s := by
  refine codeAny_of_tree ?_
  show wpAny _ A.in1 (callAny (.ref a) args) _ _ s
  simp only [callAny]
  refine wpAny_bind (wpAny_load ho ?_)
  simp only [hd, callFunction, h1, h2, h3, hc]
  refine wpAny_bind (m := field (.ref c) 1) (wpAny_field hoc hdc hq (wpAny_bind (wpAny_pure ?_)))
  refine wpAny_bind (wpAny_mono h (fun binds s1 k1 => ?_) fun _ _ z => z)
  refine wpAny_bind (wpAny_mono k1 (fun env s2 k2 => ?_) fun _ _ z => z)
  exact wpAny_bind (wpAny_enterFrame k2.1 room (wpAny_pure (And.intro rfl k2.2)))
/-- the lambda at f is called with v -/
theorem lam_call {f c' : Addr} {qual x : Str} {px : Pos} {body : Expr} {scope : Scope} {cl : List (Str × Addr)} {pm ctv v : Value} {Rr : Value → Prop} {E : Value → Shared → Prop} {env : Env} (L : LmS env scope x) (room : A.depth < recursionLimit) (lim : s.heap.NoLimit)
    (ho : s.heap.get? f = some (PySem.W.kla_obj "<lambda>" qual (prm1 x px) body scope cl pm c' ctv)) (hco : CodeOf s.heap c') (hcl : cl = cloFrom env.cells scope.names [])
    (hb : ∀ (cenv : Env) (A' : Around) (E' : Value → Shared → Prop) (t : Shared), cenv.scope = scope → cenv.globals = mainGlobals → cenv.cells = cl → (∃ m, t.heap.Ns cenv.locals m ∧ m x = some v) → (∀ b o, s.heap.get? b = some o → t.heap.get? b = some o) → Keeps s t → wpAny (model prog w) A' (eval body cenv) (fun y z => Rr y ∧ Keeps t z) E' t) :
    wpAny (model prog w) A (call (.ref f) [v]) (fun y z => Rr y ∧ Keeps s z) E s := by
  obtain ⟨oc, fv, q, tq, hoc, hdc, hqc⟩ := hco
  have rc : codeAny (model prog w) A (.call (.ref f) ⟨[v], []⟩) (fun r z => ∃ y, r = .ok (.ret y) ∧ Rr y ∧ Keeps s z) s := by
    refine call_expr room ho rfl L.co L.gen rfl rfl hoc hdc hqc ?_
    rw [bd1]
    refine wpAny_pure (wpAny_newFunctionEnv L.cell (fun y hy => by rw [List.mem_singleton.mp hy]; exact L.loc) (fun h₁ hns hsb => ⟨lim.fresh _ hsb, ?_⟩) L.kind)
    have kp : ∀ b o, s.heap.get? b = some o → h₁.get? b = some o := fun b o e => hsb.extBut b o (Nat.ne_of_lt (Heap.lt_size e)) (Heap.get?_push_of_some _ e)
    refine PySem.W.kla_codeExpr (wpAny_mono (hb _ _ _ { s with heap := h₁, toks := s.toks + ([(x, v)] : List (Str × Value)).length } rfl rfl rfl ⟨_, hns, by simp⟩ kp ⟨_, _, rfl, kp⟩) (fun y z k => ⟨y, rfl, k.1, keeps_trans ⟨_, _, rfl, kp⟩ k.2⟩) fun _ _ z => z)
  refine wpAny_call (codeAny_mono rc fun r z hr => ?_)
  obtain ⟨y, rfl, k1, k2⟩ := hr
  exact ⟨k1, k2⟩
end

/-! ### sorted by a key -/
def emH : Heap := {}
theorem emH_none (b : Addr) : emH.get? b = none := by
  unfold emH Heap.get?
  simp
/-- all things but the one at L -/
def allN (h : Heap) (L : Addr) : List (Addr × Obj) := (List.range h.objs.size).filterMap fun b => match h.get? b with | some o => if b = L then none else some (b, o) | none => none
theorem mem_allN {h : Heap} {L b : Addr} {o : Obj} : (b, o) ∈ allN h L ↔ h.get? b = some o ∧ b ≠ L := by
  unfold allN
  rw [List.mem_filterMap]
  constructor
  · rintro ⟨a, _, e⟩
    split at e
    · rename_i o' q
      split at e
      · cases e
      · cases e; exact ⟨q, ‹_›⟩
    · cases e
  · rintro ⟨q, n⟩
    refine ⟨b, List.mem_range.mpr (Heap.lt_size q), ?_⟩
    rw [q]
    simp only [if_neg n]
section
variable {X : Cx} {pins : List (Addr × Obj)} {σ : L2.St} {H : Hp} {s : Shared}
theorem obj_there {P : Program} {w : World} {H : Hp} {h : Heap} {a : Addr} {o : HO} (x : ObjOk P w H h a o) : ∃ ob, h.get? a = some ob := by
  cases o with
  | lst xs => obtain ⟨_, _, _, _, e⟩ := x; exact ⟨_, e⟩
  | tup xs => obtain ⟨_, _, _, ob, e, _⟩ := x; exact ⟨ob, e⟩
  | dK kvs => obtain ⟨_, _, _, _, ob, _, _, e, _⟩ := x; exact ⟨ob, e⟩
  | dT kvs => obtain ⟨_, _, _, _, ob, _, _, e, _⟩ := x; exact ⟨ob, e⟩
  | set S n => obtain ⟨ob, _, _, _, e, _⟩ := x; exact ⟨ob, e⟩
  | ins C dx fs => obtain ⟨_, _, _, e, _⟩ := x; exact ⟨_, e⟩
  | own y => exact x
  | xd fs => obtain ⟨_, ⟨ob, _, _, e, _⟩, _⟩ := x; exact ⟨ob, e⟩
  | rng lo hi => obtain ⟨_, _, _, e⟩ := x; exact ⟨_, e⟩
  | frz ob u => exact ⟨ob, x.1⟩
  | tbl ps => exact ⟨_, x⟩
  | met f y => exact ⟨_, x⟩
  | ext φ => exact x.2.1
/-- behind a call that keeps all things but the namespace of the def, whose names stay: a new list -/
theorem inv_new {D : Addr} {m : Str → Option Value} {h' : Heap} {tk : Nat} {vs : List V} {out : Array Value} {c : Nat} (I : Inv X pins σ H s) (hm : s.heap.Ns X.env.locals m) (hm' : h'.Ns X.env.locals m) (k : ∀ b o, b ≠ X.env.locals → s.heap.get? b = some o → h'.get? b = some o)
    (hD : s.heap.get? D = none) (hn : h'.get? D = some (PyProof.Rows.seqObj "list" out c)) (hv : Vals vs out.toList) (hz : vs.length ≤ sizeLine) : H D = none ∧ Inv X pins σ (upd H D (.lst vs)) { s with heap := h', toks := tk } := by
  have nD : H D = none := by
    cases e : H D with
    | none => rfl
    | some u =>
      obtain ⟨o, q⟩ := obj_there (I.hok D u e)
      rw [hD] at q; cases q
  have kD : ∀ b o, s.heap.get? b = some o → b ≠ D := fun b o e z => by subst z; rw [hD] at e; cases e
  refine ⟨nD, I.step (g' := s.gens) (d' := s.drawn) (ch := []) (fun b hb => nomatch hb) (fun b o n _ _ e _ => k b o n e) (fun b o n _ _ e _ => ⟨o.slots, k b o n e⟩) (fun b o _ e n => (upd_ne (kD b o e)).trans n) (fun b o _ e => ?_)
    (fun b xs e => (upd_ne (ne_of_none e nD)).trans e) (fun b o u e => (upd_ne (ne_of_none e nD)).trans e) (fun b ps e => ⟨#[], by rw [upd_ne (ne_of_none e nD), e]; simp⟩) (fun m2 h2 => ?_) (fun b u e => ?_) I.bare⟩
  · by_cases z : b = X.env.locals
    · obtain ⟨o', _, _, q, _⟩ := hm'
      exact ⟨o', by rw [z]; exact q⟩
    · exact ⟨o, k b o z e⟩
  · have : m2 = m := funext fun y => h2.agree hm y
    rw [this]; exact hm'
  · by_cases z : b = D
    · subst z; rw [upd_same] at e; cases e
      exact ⟨hz, out.toList, c, hv, by rw [Array.toArray_toList]; exact hn⟩
    · rw [upd_ne z] at e
      refine (I.hok b u e).stay (fun d v hd q => k d v ?_ q) (fun d q => (upd_ne (ne_of_none q nD)).trans q) fun d xs q => (upd_ne (ne_of_none q nD)).trans q
      intro y
      subst y
      rcases hd with hd | hd
      · rw [← hd, I.free] at e; cases e
      · rw [I.free] at hd; cases hd
end
theorem insD_perm {α : Type} (p : Int × α) : ∀ l : List (Int × α), (insD p l).Perm (p :: l)
  | [] => List.Perm.refl _
  | q :: r => by
    unfold insD
    split
    · exact List.Perm.refl _
    · exact ((insD_perm p r).cons q).trans (List.Perm.swap p q r)
theorem srtD_perm {α : Type} : ∀ l : List (Int × α), (srtD l).Perm l
  | [] => List.Perm.refl _
  | p :: r => (insD_perm p (srtD r)).trans ((srtD_perm r).cons p)
theorem insD_sorted {α : Type} (p : Int × α) : ∀ l : List (Int × α), l.Pairwise (fun a b => a.1 ≤ b.1) → (insD p l).Pairwise (fun a b => a.1 ≤ b.1)
  | [], _ => by simp [insD]
  | q :: r, h => by
    unfold insD
    rw [List.pairwise_cons] at h
    split
    · rename_i hlt
      refine List.pairwise_cons.mpr ⟨fun x hx => ?_, List.pairwise_cons.mpr h⟩
      rcases List.mem_cons.mp hx with rfl | hx
      · omega
      · have := h.1 x hx; omega
    · rename_i hge
      refine List.pairwise_cons.mpr ⟨fun x hx => ?_, insD_sorted p r h.2⟩
      rcases List.mem_cons.mp ((insD_perm p r).mem_iff.mp hx) with rfl | hx
      · omega
      · exact h.1 x hx
theorem srtD_sorted {α : Type} : ∀ l : List (Int × α), (srtD l).Pairwise (fun a b => a.1 ≤ b.1)
  | [] => List.Pairwise.nil
  | p :: r => insD_sorted p _ (srtD_sorted r)
/-- with different keys there is one sorted row -/
theorem srt_uniq {α : Type} : ∀ (l l' : List (Int × α)), l.Perm l' → l.Pairwise (fun a b => a.1 ≤ b.1) → l'.Pairwise (fun a b => a.1 ≤ b.1) → (l.map (·.1)).Nodup → l = l'
  | [], l', p, _, _, _ => by rw [List.nil_perm.mp p]
  | a :: l, [], p, _, _, _ => by have := p.length_eq; simp at this
  | a :: l, b :: l', p, h, h', n => by
    rw [List.pairwise_cons] at h h'
    rw [List.map_cons, List.nodup_cons] at n
    have e : a = b := by
      have ha := p.mem_iff.mp (List.mem_cons_self (a := a) (l := l))
      have hb := p.mem_iff.mpr (List.mem_cons_self (a := b) (l := l'))
      rcases List.mem_cons.mp ha with z | ha
      · exact z
      · rcases List.mem_cons.mp hb with z | hb
        · exact z.symm
        · have e1 := h'.1 a ha
          have e2 := h.1 b hb
          have e3 : b.1 = a.1 := by omega
          exact absurd (List.mem_map.mpr ⟨b, hb, e3⟩) n.1
    subst e
    rw [srt_uniq l l' (List.perm_cons a |>.mp p) h.2 h'.2 n.2]
section
variable {K : PySem.W.Frag} {CT : Nat → Option Addr} {F : Hp}
/-- pairs of a number and a thing, related -/
inductive RPs (K : PySem.W.Frag) (CT : Nat → Option Addr) (F : Hp) : List (Int × D) → List (Int × V) → Prop
  | nil : RPs K CT F [] []
  | cons {i : Int} {d : D} {v : V} {ds : List (Int × D)} {vs : List (Int × V)} (r : Rep K CT F d v) (t : RPs K CT F ds vs) : RPs K CT F ((i, d) :: ds) ((i, v) :: vs)
theorem RPs.ins {i : Int} {d : D} {v : V} (r : Rep K CT F d v) {ds : List (Int × D)} {vs : List (Int × V)} (h : RPs K CT F ds vs) : RPs K CT F (insD (i, d) ds) (insD (i, v) vs) := by
  induction h with
  | nil => exact .cons r .nil
  | @cons j e w es ws re te ih =>
    unfold insD
    by_cases hlt : i < j
    · rw [if_pos (show ((i, d) : Int × D).1 < ((j, e) : Int × D).1 from hlt), if_pos (show ((i, v) : Int × V).1 < ((j, w) : Int × V).1 from hlt)]
      exact .cons r (.cons re te)
    · rw [if_neg (show ¬ ((i, d) : Int × D).1 < ((j, e) : Int × D).1 from hlt), if_neg (show ¬ ((i, v) : Int × V).1 < ((j, w) : Int × V).1 from hlt)]
      exact .cons re ih
theorem RPs.srt {ds : List (Int × D)} {vs : List (Int × V)} (h : RPs K CT F ds vs) : RPs K CT F (srtD ds) (srtD vs) := by
  induction h with
  | nil => exact .nil
  | cons r t ih => exact ih.ins r
theorem RPs.snd {ds : List (Int × D)} {vs : List (Int × V)} (h : RPs K CT F ds vs) : Reps K CT F (ds.map (·.2)) (vs.map (·.2)) := by
  induction h with
  | nil => exact Reps.nil
  | cons r t ih => exact Reps.cons r ih
theorem RPs.zip : ∀ {ks : List Int} {ds : List D} {vs : List V}, ks.length = ds.length → Reps K CT F ds vs → RPs K CT F (ks.zip ds) (ks.zip vs)
  | [], [], vs, _, h => by simp only [Reps] at h; subst h; exact .nil
  | [], _ :: _, _, h, _ => by simp at h
  | _ :: _, [], _, h, _ => by simp at h
  | k :: ks, d :: ds, vs, hl, h => by
    simp only [Reps] at h
    obtain ⟨v, ws, rfl, h1, h2⟩ := h
    exact .cons h1 (RPs.zip (by simpa using hl) h2)
end
/-- values and their rows, sorted -/
inductive VPs : List (Int × V) → List (Int × Value) → Prop
  | nil : VPs [] []
  | cons {i : Int} {v : V} {u : Value} {vs : List (Int × V)} {us : List (Int × Value)} (r : RelV v u) (t : VPs vs us) : VPs ((i, v) :: vs) ((i, u) :: us)
theorem VPs.ins {i : Int} {v : V} {u : Value} (r : RelV v u) {vs : List (Int × V)} {us : List (Int × Value)} (h : VPs vs us) : VPs (insD (i, v) vs) (insD (i, u) us) := by
  induction h with
  | nil => exact .cons r .nil
  | @cons j w z ws zs re te ih =>
    unfold insD
    by_cases hlt : i < j
    · rw [if_pos (show ((i, v) : Int × V).1 < ((j, w) : Int × V).1 from hlt), if_pos (show ((i, u) : Int × Value).1 < ((j, z) : Int × Value).1 from hlt)]
      exact .cons r (.cons re te)
    · rw [if_neg (show ¬ ((i, v) : Int × V).1 < ((j, w) : Int × V).1 from hlt), if_neg (show ¬ ((i, u) : Int × Value).1 < ((j, z) : Int × Value).1 from hlt)]
      exact .cons re ih
theorem VPs.srt {vs : List (Int × V)} {us : List (Int × Value)} (h : VPs vs us) : VPs (srtD vs) (srtD us) := by
  induction h with
  | nil => exact .nil
  | cons r t ih => exact ih.ins r
theorem VPs.snd {vs : List (Int × V)} {us : List (Int × Value)} (h : VPs vs us) : Vals (vs.map (·.2)) (us.map (·.2)) := by
  induction h with
  | nil => exact .nil
  | cons r t ih => exact .cons r ih
theorem VPs.zip : ∀ {ks : List Int} {vs : List V} {us : List Value}, ks.length = vs.length → Vals vs us → VPs (ks.zip vs) (ks.zip us)
  | [], [], _, _, .nil => .nil
  | [], _ :: _, _, h, _ => by simp at h
  | _ :: _, [], _, h, _ => by simp at h
  | k :: ks, v :: vs, _, hl, .cons r t => .cons r (VPs.zip (by simpa using hl) t)
section
variable {X : Cx} {CT : Nat → Option Addr} {G : Gh} {W : WX} {CF : Nat → List Str} {Φ : Nat → Option OC → List D → FRes}
theorem v_srt {a : E} {el : PX} {e body : Expr} {y : Str} {py p lp kp pos : Pos} {scope : Scope} {c P : Addr} {k : Nat} (hr : Room k X.A) (hg : Gl X "sorted") (hm : X.mg "sorted" = none) (TB : GxR.TabB X.base X.mg c P) (hcode : X.env.code = .ref c) (hT : P ∈ G.T) (hS : X.Ok → LmS X.env scope y)
    (ha : PEv X CT G W CF Φ e a) (hst : starEach [e] X.env = [(false, eval e X.env)]) (hp' : PxS X CT scope y el body) :
    PEv X CT G W CF Φ (.Call (.Name "sorted" p) [e] [⟨some "key", .Lambda (prm1 y py) body scope lp, kp⟩] pos) (.srt el a) := by
  refine ⟨fun pins s σ H Q I ⟨S, F, R, h⟩ => ?_⟩
  simp only [evE] at h
  have L := hS I.ok
  refine wpAny_Call_Name_kw (ld_blt I hg hm (show bootBuiltins "sorted" = some (.builtin "sorted") by decide +kernel) ?_ (by decide) (by decide))
  refine PyProof.Rows.callWith_kw (thn ((pa_cons ha pa_nil hst).run pos pins s σ H (fun vs H1 => ∃ S1 F1 xs ks v, vs = [v] ∧ SR X.K CT G S1 F1 σ H1 ∧ Rep X.K CT F1 (.lst xs) v ∧ keysD S1 el xs = some ks ∧ ks.Nodup ∧ xs.length ≤ cap ∧ Po X.K CT G W (RE X.K CT) (.ok (.lst ((srtD (ks.zip xs)).map (·.2))) S1) F1 σ Q) I
    (hX_bind R h fun d S1 F1 v H1 R1 s1 r1 h1 => ?_)) fun us s1 ⟨vs, H1, I1, r1, S1, F1, xs, ks, v, ev, R1, rd, hks, hnd, hcap, h1⟩ => ?_) (by rw [hst]; rfl) (by rw [hst]; rfl) rfl rfl
  · show ∃ S1 F1 xs ks v', [v] = [v'] ∧ _
    cases d with
    | lst xs =>
      simp only at h1
      split at h1
      · rename_i ks hk
        split at h1
        · rename_i hz
          exact ⟨S1, F1, xs, ks, v, rfl, R1, r1, hk, hz.1, hz.2, h1⟩
        · exact h1.elim
      · exact h1.elim
    | _ => exact h1.elim
  subst ev
  simp only [Rep] at rd
  obtain ⟨l, vs, rfl, hF, rvs⟩ := rd
  obtain rfl := Vals.ref1 r1
  show wpAny _ _ (evalAll [(do let v ← eval (.Lambda (prm1 y py) body scope lp) X.env; standAt pos; pure v)]) _ _ _
  refine wpAny_evalAll_cons (wpAny_bind (lam_mk I1 TB hcode (R1.tab P hT) (by rfl) L.free fun f c' pm ctv H2 s2 tb J of fL co => wpAny_bind (wpAny_standAt (wpAny_pure (wpAny_evalAll_nil ?_)))))
  have R2 := R1.tabbed hT tb
  obtain ⟨ps, hP, _, _⟩ := R2.tab P hT
  have hPs : s2.heap.get? P = some ⟨.none, none, .fields ps, #[]⟩ := J.hok P (.tbl ps) hP
  obtain ⟨its, rv, hl, hz⟩ := J.list (SqL.of (R2.sub _ _ hF))
  obtain ⟨m, hns, _⟩ := id J.loc
  obtain ⟨hlen, hget⟩ := mapM_get hks
  have lvi : vs.length = its.length := rv.length
  have lxv : xs.length = vs.length := rvs.length
  have notL : ∀ b o, X.base.get? b = some o → b ≠ X.env.locals := fun b o e z => Nat.lt_irrefl _ (Nat.lt_of_lt_of_le (Heap.lt_size (J.ok.bs _ _ e).1) (z ▸ J.ok.above))
  show wpAny _ _ (call (.builtin "sorted") [.ref l] [(Str.ofString "key", .ref f)]) _ _ _
  refine PyProof.Rows.ksk_sortedSt (h₀ := emH) (L := X.env.locals) (m := m) (news := allN s2.heap X.env.locals) (vs := its) (kz := ks) (b := false) ⟨hns, fun b o e => by rw [emH_none] at e; (cases e), Nat.zero_le _⟩ (fun p hp => ?_) hl.isList (by omega) (by rw [← lvi]; exact hz)
    (PyProof.Rows.ksk_s1 _ _) (fun x => PyProof.Rows.ksk_l1 _ _) (fun x => PyProof.Rows.ksk_t1 _ _) (fun i u k hu hk hp tk own F' N' => ?_) fun D hp tk out cc F' N' lt ko => ?_
  · obtain ⟨k1, k2⟩ := mem_allN.mp (show (p.1, p.2) ∈ _ from hp)
    exact ⟨k1, k2, emH_none _⟩
  · have keepT : ∀ b o, b ≠ X.env.locals → s2.heap.get? b = some o → hp.get? b = some o := fun b o n e => (N' (b, o) (List.mem_append_left _ (mem_allN.mpr ⟨e, n⟩))).1
    have lim : hp.NoLimit := J.mod.nolimit.keeps fun b o e => keepT b o (notL b o e) (J.bk b o e)
    obtain ⟨v0, g1, g2⟩ := vals_getV rv hu
    obtain ⟨d0, g3, g4⟩ := rvs.getV g1
    obtain ⟨k', g5, g6⟩ := hget i d0 g3
    rw [hk] at g5
    cases g5
    cases e3 : evP S1 d0 el with
    | none => rw [e3] at g6; cases g6
    | some r =>
      rw [e3] at g6
      have er : r = .int k := by
        cases r <;> simp [isIntD] at g6
        rw [g6]
      subst er
      have coT : CodeOf hp c' := by
        obtain ⟨oc, fv, q, tq, w1, w2, w3⟩ := co
        refine ⟨oc, fv, q, tq, keepT c' oc (fun z => ?_) w1, w2, w3⟩
        obtain ⟨o', es, ep, y1, y2, _⟩ := hns
        rw [z, y1] at w1; cases w1
        rw [y2] at w2; cases w2
      refine wpAny_mono (lam_call (s := { s2 with heap := hp, toks := tk }) (Rr := fun y => ∃ tok, y = .int k tok) (env := X.env) L (by have := hr.dp; show X.A.depth < _; omega) lim (keepT f _ fL of) coT rfl fun cenv A' E' t' e1 e2 e4 ns kp _ => ?_) (fun y z hz => ?_) fun _ _ z => z
      · refine wpAny_mono (px_ok J R2 hPs TB.gP L.kind L.loc g2 g4 el body _ hp' e3 t' ⟨e1, by rw [e2, J.ok.glob], e4, ns, fun b o _ n e => kp b o (keepT b o n e)⟩) (fun y z w => ⟨?_, w.2⟩) fun _ _ z => z
        obtain ⟨⟨v', w1, w2⟩, _⟩ := w
        simp only [Rep] at w2
        subst w2
        exact w1
      · obtain ⟨⟨tok, rfl⟩, h2, tk2, rfl, kk⟩ := hz
        exact ⟨h2, tk2, tok, rfl, rfl, ⟨F'.ns.keeps kk, fun b o e => by rw [emH_none] at e; (cases e), Nat.zero_le _⟩, fun p hp => ⟨kk _ _ (N' p hp).1, (N' p hp).2⟩⟩
  · have keepT : ∀ b o, b ≠ X.env.locals → s2.heap.get? b = some o → hp.get? b = some o := fun b o n e => (N' (b, o) (List.mem_cons_of_mem _ (mem_allN.mpr ⟨e, n⟩))).1
    have nd := N' _ List.mem_cons_self
    have hD : s2.heap.get? D = none := by
      cases e : s2.heap.get? D with
      | none => rfl
      | some o => exact absurd (lt (D, o) (mem_allN.mpr ⟨e, nd.2.1⟩)) (Nat.lt_irrefl _)
    obtain ⟨qs, p1, p2, p3, _⟩ := ko
    have mapF : (ks.zip its).map (·.1) = ks := by rw [List.map_fst_zip]; omega
    have eq : qs = srtD (ks.zip its) := srt_uniq _ _ (p1.trans (srtD_perm _).symm) p3 (srtD_sorted _) (((p1.map (·.1)).nodup_iff).mpr (by rw [mapF]; exact hnd))
    have hv : Vals ((srtD (ks.zip vs)).map (·.2)) out.toList := by
      rw [p2, eq]
      exact (VPs.zip (by omega) rv).srt.snd
    have lz : ((srtD (ks.zip vs)).map (·.2)).length ≤ sizeLine := by
      rw [List.length_map, (srtD_perm _).length_eq, List.length_zip]
      exact Nat.le_trans (Nat.min_le_right _ _) hz
    obtain ⟨nD, J2⟩ := inv_new (tk := tk) J hns F'.ns keepT hD nd.1 hv lz
    refine ⟨.ref D, _, J2, rfl, (fin_of R2 h1).2 D _ nD (fun _ z => nomatch z) ?_⟩
    simp only [Rep]
    exact ⟨D, _, rfl, upd_same, Reps.mono (same_upd (R2.freshF nD)) _ (RPs.zip (by omega) rvs).srt.snd⟩
end

set_option Elab.async false
set_option linter.all false
set_option maxRecDepth 100000
set_option maxHeartbeats 4000000
open PySem PySem.Spec PyProof.Rows L2

/-! ### enumerate of a tuple -/
section
variable {prog : Program} {w : World} {A : Around} {E : Value → Shared → Prop} {s : Shared}
theorem nxt_tup {z t : Addr} {i : Nat} {vs : Array Value} {Q : Value → Shared → Prop} (hz : s.heap.IsTupleIter z t i) (ht : s.heap.IsTuple t vs)
    (yes : ∀ x h', vs[i]? = some x → h'.IsTupleIter z t (i + 1) → Heap.SameBut z s.heap h' → Q x { s with heap := h' })
    (no : vs[i]? = none → A.handled = none ∧ ∀ h' e, Heap.ExtBut z s.heap h' → (∃ o, h'.get? e = some o ∧ o.cls = .type "StopIteration") → E (.ref e) { s with heap := h' }) :
    wpAny (model prog w) A (Builtin.SmallTypes.nextOf (.ref z)) Q E s := by
  obtain ⟨oz, gz, cz, dz⟩ := id hz
  obtain ⟨ot, gt, _, nt, dt⟩ := ht
  unfold Builtin.SmallTypes.nextOf
  refine wpAny_bind (wpAny_callSpecial?_slot (name := Str.ofString "__next__") hz.typeIs F.slot_tuple_iterator_next (wpAny_call_entry F.slot_tuple_iterator_next hz.typeIs F.entry_tuple_iterator_next ?_ (F.args_tuple_iterator_next_1 _)))
  show wpAny _ _ (field (.ref z) 0 >>= _) _ _ s
  refine wpAny_bind (wpAny_field gz dz (x := .ref t) rfl ?_)
  show wpAny _ _ (if (Value.ref t == Value.none) = true then _ else do let ix ← field (.ref z) 1; _) _ _ s
  rw [if_neg (by exact Bool.false_ne_true)]
  refine wpAny_bind (wpAny_field gz dz (x := .int i 0) rfl ?_)
  show wpAny _ _ (do let r ← seqItems? (.ref t); _) _ _ s
  refine wpAny_bind (wpAny_seqItems gt dt ?_)
  cases hx : vs[i]? with
  | some x =>
    simp only [Int.toNat_natCast, hx]
    refine wpAny_bind (wpAny_setField gz dz (by simp) (wpAny_pure ⟨x, rfl, wpAny_pure (yes x _ hx ⟨_, Heap.get?_update_self _ gz (Obj.isFreed_of_fields (Obj.data_mapFields dz _)), (Obj.cls_mapFields ..).trans cz, ?_⟩ (Heap.SameBut.update ..))⟩))
    rw [Obj.data_mapFields dz]; simp [rawInt]
  | none =>
    obtain ⟨hh, no⟩ := no hx
    simp only [Int.toNat_natCast, hx]
    refine wpAny_bind (wpAny_rule (wpAny_bind (wpAny_setField gz dz (by simp) ?_)))
    show wpAny _ _ (do let e ← newExc (.type "StopIteration") []; _) _ _ _
    refine wpAny_bind ?_
    simp only [newExc, newTuple]
    refine wpAny_bind (wpAny_newObj_type ?_ (by size_fits))
    refine wpAny_bind (m := firstArgMember _ _) (wpAny_of_eq (a := Value.none) (by first | rfl | (simp only [firstArgMember]; rfl)) ?_)
    refine wpAny_newObj_type ?_ (by size_fits)
    simp only [raiseNew]
    refine wpAny_bind (wpAny_handled ?_)
    first
      | rw [show A.in1.handled = none from hh]
      | rw [hh]
    refine wpAny_bind (wpAny_pure (wpAny_throw (no _ _ (((Heap.SameBut.update ..).extBut.push _).push _) ⟨_, Heap.get?_push_size _ rfl, rfl⟩)))
theorem drw_tup (hh : A.handled = none) (z t : Addr) (ne : t ≠ z) (vs : Array Value) : Draws prog w A z [z, t] vs.size (fun i v => vs[i]? = some v) (fun i h => h.IsTupleIter z t i ∧ h.IsTuple t vs) where
  live := fun _ _ st => by obtain ⟨⟨o, ho, _⟩, _⟩ := st; exact ⟨o, ho⟩
  frame := fun _ _ _ st k => ⟨by obtain ⟨⟨o, ho, r⟩, _⟩ := st; exact ⟨o, k z (by simp) o ho, r⟩, by obtain ⟨_, ⟨o, ho, r⟩⟩ := st; exact ⟨o, k t (by simp) o ho, r⟩⟩
  item := fun i s Q E hi st q => nxt_tup st.1 st.2 (fun x h' hx a sb => q x h' s.toks hx ⟨a, by obtain ⟨_, ⟨o, ho, r⟩⟩ := st; exact ⟨o, (sb.2 t ne).trans ho, r⟩⟩ sb) fun e => by
    rw [Array.getElem?_eq_none_iff] at e
    omega
  done := fun s Q E st q => nxt_tup st.1 st.2 (fun x h' hx _ _ => by simp at hx) fun _ => ⟨hh, q⟩
theorem new_tup (l : Addr) (items : Array Value) (n : Nat) (dct : Option Addr) (sl : Array (Option Value)) :
    Meets (Builtin.«enumerate.__new__» ⟨[.type "enumerate", .ref l], []⟩) (fun _ R s => s.heap.get? l = some { cls := .type "tuple", dict := dct, data := .seq items n, slots := sl } ∧
      R (.ok (.ret (.ref (s.heap.push { cls := .type "tuple_iterator", data := .fields #[.ref l, .int 0 0] }).objs.size)))
        { s with heap := (s.heap.push { cls := .type "tuple_iterator", data := .fields #[.ref l, .int 0 0] }).push { cls := .type "enumerate", data := .fields #[.none, .bool false, .ref s.heap.objs.size, rawInt 0, .none, .none] } }) :=
  .of_wp fun prog w A R s ⟨hl, h⟩ => by
    obtain ⟨hp, g, d, tk, os⟩ := s
    have hsub := sub_enumerate
    have hT : Heap.IsTuple (Shared.heap ⟨hp, g, d, tk, os⟩) l items := ⟨_, hl, rfl, n, rfl⟩
    wp_walk using AutoSeq1.wpAny_loadPart' hl
    refine wpAny_stack_any fun st => wpAny_pure ?_
    split
    · rename_i c _ _ _ _ _
      cases (c == Value.type "enumerate") <;> (wp_walk using AutoSeq1.wpAny_loadPart' hl, wpAny_pyIter_tuple hT; exact ⟨_, rfl, h⟩)
    · wp_walk using AutoSeq1.wpAny_loadPart' hl, wpAny_pyIter_tuple hT
      exact ⟨_, rfl, h⟩
theorem call_enumT {l : Addr} {items : Array Value} {Q : Value → Shared → Prop} (hl : s.heap.IsTuple l items)
    (h : ∀ h', IsEnum h' (s.heap.objs.size + 1) s.heap.objs.size 0 .none → h'.IsTupleIter s.heap.objs.size l 0 → (∀ b o, s.heap.get? b = some o → h'.get? b = some o) → Q (.ref (s.heap.objs.size + 1)) { s with heap := h' }) :
    wpAny (model prog w) A (call (.type "enumerate") [.ref l]) Q E s := by
  obtain ⟨⟨c, dct, dt, sl⟩, gl, ec, n, ed⟩ := hl
  have ec' : c = .type "tuple" := ec
  have ed' : dt = .seq items n := ed
  subst ec' ed'
  refine callType_new F.called_enumerate (by decide) (F.typeCall_enumerate_1 _) (F.newCall_enumerate_1 _) (fun obj => F.args_object_init_2 obj _) F.entry_enumerate_new (new_tup l items n dct sl) ⟨gl, ?_⟩
  have sz : (s.heap.push { cls := .type "tuple_iterator", data := .fields #[.ref l, .int 0 0] }).objs.size = s.heap.objs.size + 1 := Heap.size_push ..
  show _ ∧ _
  rw [sz]
  have he : IsEnum ((s.heap.push { cls := .type "tuple_iterator", data := .fields #[.ref l, .int 0 0] }).push { cls := .type "enumerate", data := .fields #[.none, .bool false, .ref s.heap.objs.size, rawInt 0, .none, .none] }) (s.heap.objs.size + 1) s.heap.objs.size 0 .none := by
    have q := Heap.get?_push_size (s.heap.push { cls := .type "tuple_iterator", data := .fields #[.ref l, .int 0 0] }) (o := { cls := .type "enumerate", data := .fields #[.none, .bool false, .ref s.heap.objs.size, rawInt 0, .none, .none] }) rfl
    rw [sz] at q; exact q
  exact ⟨⟨_, he, rfl⟩, h _ he ⟨_, Heap.get?_push_of_some _ (Heap.get?_push_size _ rfl), rfl, rfl⟩ fun b o x => Heap.get?_push_of_some _ (Heap.get?_push_of_some _ x)⟩
end
/-- the tuple at a, each item in a new pair -/
def IteT (K : PySem.W.Frag) (a : Addr) : It :=
  ⟨fun i H => ∃ (xs : List V) (x : V), SqT K H a xs ∧ xs[i]? = some x, fun i H v H' => ∃ T x, v = .ref T ∧ H T = none ∧ H' = upd H T (.tup [.int (i : Nat), x]) ∧ ∀ xs, SqT K H a xs → xs[i]? = some x, fun i H => ∃ xs : List V, SqT K H a xs ∧ xs.length ≤ i⟩
theorem turn_enT {P : Program} {w : World} {K : PySem.W.Frag} {elts : List Expr} {kk : Nat} {tpos : Pos} (a e z : Addr) :
    Turn P w K (.Tuple elts kk tpos) (IteT K a) [e, z] e (fun i h => (∃ old, IsEnum h e z ((i : Nat) : Int) old) ∧ h.IsTupleIter z a i ∧ e ≠ z ∧ a ≠ z ∧ a ≠ e) where
  mem := List.mem_cons_self
  obj := fun i h st b hb => by
    obtain ⟨⟨old, he⟩, ⟨o, ho, hc, hd⟩, _⟩ := st
    rcases (by simpa using hb : b = e ∨ b = z) with q | q
    · subst q; exact ⟨_, he, fun v q => nomatch q⟩
    · subst q; exact ⟨o, ho, fun v q => by rw [hd] at q; cases q⟩
  keep := fun i h h' st k => by
    obtain ⟨⟨old, he⟩, ⟨o, ho, r⟩, hne⟩ := st
    exact ⟨⟨old, k e (by simp) _ he⟩, ⟨o, k z (by simp) o ho, r⟩, hne⟩
  item := by
    intro X hP hw hK hc i pins s σ H E I hf st hg
    subst hP hw hK
    obtain ⟨⟨old, he⟩, hit, hne, haz, hae⟩ := st
    obtain ⟨xs, x, hq, hx⟩ := hg
    obtain ⟨its, rv, p, hz⟩ := I.tuple hq
    obtain ⟨u, hu, ru⟩ := rv.get hx
    have lte : e < s.heap.objs.size := Heap.lt_size he
    have ltz : z < s.heap.objs.size := by obtain ⟨_, q, _⟩ := hit; exact Heap.lt_size q
    have D := drw_tup (prog := X.prog) (w := X.w) (A := X.A.in1) (I.ok.hd hc) z a haz its.toArray
    have pT : s.heap.IsTuple a its.toArray := p
    have hlt : i < its.toArray.size := by
      have := (List.getElem?_eq_some_iff.mp hu).1
      simpa using this
    refine wpAny_pyNext_enum_itemD D he ⟨hit, pT⟩ hlt hne (by simp [hne, Ne.symm hae]) fun y h' tk hy ho st' hT hsz hk => ?_
    have ey : y = u := by
      have : its.toArray[i]? = some u := by simpa using hu
      rw [this] at hy; cases hy; rfl
    subst ey
    refine ⟨_, rfl, wpAny_letOwnedTupleGo_enum (s := { s with heap := h', toks := tk + 1 }) ho fun h2 he2 sb => ?_⟩
    have T2 : h2.get? s.heap.objs.size = some { cls := .type "tuple", data := .seq #[.int i tk, y] } := (sb.2 _ (Nat.ne_of_gt lte)).trans hT
    have new : ObjOk X.prog X.w (upd H s.heap.objs.size (.tup [.int (i : Nat), x])) h2 s.heap.objs.size (.tup [.int (i : Nat), x]) := ⟨by show 2 ≤ sizeLine; decide, [.int i tk, y], .cons ⟨_, rfl⟩ (.cons ru .nil), ⟨_, T2, rfl, _, rfl⟩⟩
    have I1 : Inv X pins σ (upd H s.heap.objs.size (.tup [.int (i : Nat), x])) { s with heap := h2, toks := tk + 1 } :=
      I.turnedNew (ch := [e, z]) (fun b ob hb q => (sb.2 b (fun w => hb (by simp [w]))).trans (hk b ob (fun w => hb (by simp [w])) (fun w => hb (by simp [w])) q)) hf (Nat.le_refl _) new
    obtain ⟨o3, ho3, r3⟩ := st'.1
    refine ⟨.ref s.heap.objs.size, _, I1, rfl, ⟨_, x, rfl, I.hok.fresh (Nat.le_refl _), rfl, fun ys hy => by rw [I.tuple_inj hy hq]; exact hx⟩, ⟨⟨y, by rw [show ((i + 1 : Nat) : Int) = (i : Int) + 1 by omega]; exact he2⟩, ⟨o3, (sb.2 z (Ne.symm hne)).trans ho3, r3⟩, hne, haz, hae⟩, fun b hb => ?_⟩
    have lb : b < s.heap.objs.size := by
      rcases (by simpa using hb : b = e ∨ b = z) with q | q
      · rw [q]; exact lte
      · rw [q]; exact ltz
    exact (upd_ne (Nat.ne_of_lt lb)).trans (hf b hb).1
  done := by
    intro X hP hw hK hc i pins s σ H E I hf st hg
    subst hP hw hK
    obtain ⟨⟨old, he⟩, hit, hne, haz, hae⟩ := st
    obtain ⟨xs, hq, hx⟩ := hg
    obtain ⟨its, rv, p, hz⟩ := I.tuple hq
    obtain ⟨f0, f1, f2, f3, f4, f5⟩ := hf z (by simp)
    have pT : s.heap.IsTuple a its.toArray := p
    have hl := rv.length
    have hT : s.TypeIs (.ref e) "enumerate" := ⟨_, he, rfl⟩
    unfold pyNext
    refine wpAny_bind (wpAny_attempt (wpAny_callSpecial?_slot (name := Str.ofString "__next__") hT F.slot_enumerate_next (wpAny_call_entry F.slot_enumerate_next hT F.entry_enumerate_next ?_ (F.args_enumerate_next_1 _))))
    show wpAny _ _ (field (.ref e) 2 >>= _) _ _ _
    refine wpAny_bind (wpAny_field he rfl (x := .ref z) rfl ?_)
    refine wpAny_bind (nxt_tup hit pT (fun y h' hy _ _ => ?_) fun _ => ⟨I.ok.hd hc, fun h' x eb hx' => ?_⟩)
    · have := (Array.getElem?_eq_some_iff.mp hy).1
      simp at this
      omega
    · obtain ⟨o, ho, hcl⟩ := hx'
      refine wpAny_bind (wpAny_isInstance (T := "StopIteration") (b := true) ⟨o, ho, hcl⟩ isSubtype_stop ?_)
      exact wpAny_pure ⟨rfl, I.turned (t' := s.toks) (fun b o hb q => eb b o hb q) f0 f1 f3 f4 f5⟩
  self := fun A i s Q E st h => by obtain ⟨⟨_, he⟩, _⟩ := st; exact wpAny_pyIter_enum he h
theorem pi_enT {X : Cx} {e : Expr} {ta : TA} {p pos tpos : Pos} {elts : List Expr} {kk : Nat} (hg : Gl X "enumerate") (hm : X.mg "enumerate" = none) (ha : PA X [e] ta) (hs : starEach [e] X.env = [(false, eval e X.env)]) :
    PI X (.Tuple elts kk tpos) (.Call (.Name "enumerate" p) [e] [] pos) (fun σ H R => ta σ H fun vs H1 => ∃ a xs, vs = [.ref a] ∧ SqT X.K H1 a xs ∧ R (IteT X.K a) H1) := by
  refine ⟨fun pins s σ H R I h => Call_ (ld_blt I hg hm boot_enumerate (PyProof.Rows.callWith_type1 (thn (ha.run pos pins s σ H _ I h) fun us s1 ⟨vs, H1, I1, r1, a, xs, ev, hq, q⟩ => ?_) hs rfl))⟩
  subst ev
  obtain rfl := Vals.ref1 r1
  obtain ⟨its, rv, p', hz⟩ := I1.tuple hq
  have la := p'.lt
  refine call_enumT (show s1.heap.IsTuple a its.toArray from p') fun h' he hit hk => wpAny_pyIter_enum he ?_
  have I2 : Inv X pins σ H1 { s1 with heap := h' } := I1.kept (t' := s1.toks) hk
  refine ⟨s1.heap.objs.size + 1, [s1.heap.objs.size + 1, s1.heap.objs.size], _, _, H1, rfl, I2, turn_enT a (s1.heap.objs.size + 1) s1.heap.objs.size, ⟨⟨.none, he⟩, hit, Nat.succ_ne_self _, Nat.ne_of_lt la, Nat.ne_of_lt (Nat.lt_succ_of_lt la)⟩, fun b hb => ?_, q⟩
  have le : s1.heap.objs.size ≤ b := by
    rcases (by simpa using hb : b = s1.heap.objs.size + 1 ∨ b = s1.heap.objs.size) with q | q
    · rw [q]; exact Nat.le_succ _
    · rw [q]; exact Nat.le_refl _
  exact I1.fpOk le (I1.hok.fresh le)
section
variable {K : PySem.W.Frag} {CT : Nat → Option Addr} {F : Hp}
theorem wlk_enT {a : Addr} {xs : List D} {vs : List V} (h : SqT K F a vs) (r : Reps K CT F xs vs) : Wlk K CT (IteT K a) (xs.zipIdx.map fun p => .tup [.int (p.2 : Nat), p.1]) F := fun F1 H1 e1 e2 i => by
  have hs : SqT K H1 a vs := same_sqT (e1.trans e2) h
  refine ⟨fun hi => ⟨vs, hs, by rw [List.length_map, List.length_zipIdx] at hi; rw [← r.length, hi]; exact Nat.le_refl _⟩, fun d hd => ?_⟩
  rw [List.getElem?_map, List.getElem?_zipIdx] at hd
  cases q : xs[i]? with
  | none => rw [q] at hd; cases hd
  | some d0 =>
    rw [q] at hd; cases hd
    obtain ⟨v, hv, rv⟩ := r.get q
    refine ⟨⟨vs, v, hs, hv⟩, fun x H2 y => .inr ?_⟩
    obtain ⟨T, x', rfl, hT, rfl, y⟩ := y
    have := y vs hs
    rw [hv] at this; cases this
    have sT : Same F1 (upd F1 T (.tup [.int (i : Nat), v])) := same_upd (e2.free hT)
    refine ⟨T, _, hT, rfl, rfl, ?_⟩
    simp only [Rep, Reps]
    refine ⟨T, _, rfl, SqT.of upd_same, _, _, rfl, by simp, v, [], rfl, Rep.mono (e1.trans sT) _ rv, rfl⟩
end
section
variable {X : Cx} {CT : Nat → Option Addr} {G : Gh} {W : WX} {CF : Nat → List Str} {Φ : Nat → Option OC → List D → FRes}
theorem i_enum2 {a : E} {e : Expr} {elts : List Expr} {kk : Nat} {tpos p pos : Pos} (hg : Gl X "enumerate") (hm : X.mg "enumerate" = none) (ha : PEv X CT G W CF Φ e a) (hs : starEach [e] X.env = [(false, eval e X.env)]) : PIv X CT G W CF Φ (.Tuple elts kk tpos) (.Call (.Name "enumerate" p) [e] [] pos) (.enm a) :=
  (pi_or2 (pi_enum hg hm (pa_cons ha pa_nil hs) hs) (pi_enT hg hm (pa_cons ha pa_nil hs) hs)).imp fun σ H R ⟨S, F, I, q⟩ => by
    simp only [evI] at q
    cases e1 : evE CF Φ a S with
    | stuck => rw [e1] at q; exact False.elim q
    | exc cn fn vs S1 => rw [e1] at q; exact .inl ⟨S, F, I, by rw [e1]; exact q⟩
    | ok d S1 =>
      rw [e1] at q
      simp only [Res.bind] at q
      cases d <;> simp only at q <;> first | exact False.elim q | skip
      · refine .inr ⟨S, F, I, ?_⟩
        rw [e1]
        intro F' v H' e I' r
        simp only [RE, Rep] at r
        obtain ⟨b, vs, rfl, h1, h2⟩ := r
        exact ⟨b, vs, rfl, same_sqT I'.sub h1, q F' _ H' e I' (wlk_enT h1 h2)⟩
      · refine .inl ⟨S, F, I, ?_⟩
        rw [e1]
        intro F' v H' e I' r
        simp only [RE, Rep] at r
        obtain ⟨b, vs, rfl, h1, h2⟩ := r
        exact ⟨b, vs, rfl, SqL.of (I'.sub _ _ h1), q F' _ H' e I' (wlk_enum (SqL.of h1) h2)⟩
end

set_option Elab.async false
set_option linter.all false
set_option maxRecDepth 100000
set_option maxHeartbeats 4000000
open PySem PySem.Spec PyProof.Rows L2

/-- the program: its defs (name, whether the first argument is changed, how many parameters), its classes (name, the number of __init__), its constants -/
structure Prg where
  fn : List (Str × Bool × Nat)
  cls : List (Str × Nat)
  gl : List (Str × D)
  tb : Bool
  exc : List (Str × Nat × List Str)
  hn : List Str
  hf : List Str
structure Gam where
  P : Prg
  N : List Str
  sc : Scope
  fa : Bool
def visB (sc : Scope) (x : Str) : Bool := match sc.names.lookup x with
  | some .local => true | some .cell => true | some .free => true | _ => false
def glB (sc : Scope) (x : Str) : Bool := match sc.names.lookup x with
  | some .globalImplicit => true | _ => false
def lclB (sc : Scope) (x : Str) : Bool := match sc.names.lookup x with
  | some .local => true | _ => false
def celB (sc : Scope) (x : Str) : Bool := match sc.names.lookup x with
  | some .cell => true | _ => false
def Gam.isVar (Γ : Gam) (i : Nat) (x : Str) : Bool := decide (Γ.N[i]? = some x) && visB Γ.sc x && !(x == ("__debug__" : Str)) && !(x == ("__classdict__" : Str))
def Gam.isTgt (Γ : Gam) (i : Nat) (x : Str) : Bool := decide (Γ.N[i]? = some x) && (lclB Γ.sc x || (Γ.fa && celB Γ.sc x))
def Gam.isGl (Γ : Gam) (x y : Str) : Bool := decide (x = y) && glB Γ.sc x && !(x == ("__debug__" : Str))
def Gam.isTgts (Γ : Gam) : List Nat → List Expr → Bool
  | [], [] => true
  | i :: ts, .Name x _ :: es => Γ.isTgt i x && Γ.isTgts ts es
  | _, _ => false
def Gam.isTg (Γ : Gam) (ts : List Nat) (e : Expr) : Bool := match ts, e with
  | [i], .Name x _ => Γ.isTgt i x
  | i :: j :: ts, .Tuple es _ _ => Γ.isTgts (i :: j :: ts) es
  | _, _ => false
def tyOf (x : Str) : Option Ty :=
  if x = "int" then some .int else if x = "bool" then some .bool else if x = "str" then some .str else if x = "tuple" then some .tup else if x = "list" then some .lst else if x = "dict" then some .dct else none
def Gam.isTys (Γ : Gam) : List Ty → List Expr → Bool
  | [], [] => true
  | t :: ts, .Name x _ :: es => decide (x = Str.ofString (tyN t)) && glB Γ.sc x && Γ.isTys ts es
  | _, _ => false
def bis : List Str := ["len", "int", "tuple", "list", "min", "max", "sum", "all", "any", "range", "enumerate", "isinstance", "str", "bool", "dict", "sorted", "repr"]
def biNm (f : Bi) : Str := Str.ofString (biId f)
def isSlice : Expr → Bool | .Slice .. => true | _ => false
def isComp : Expr → Bool | .ListComp .. => true | .SetComp .. => true | .DictComp .. => true | _ => false
def isStar : Expr → Bool | .Starred .. => true | _ => false
def isSet : Expr → Bool | .Set .. => true | _ => false
def isLogic : Expr → Bool | .UnaryOp .Not _ _ => true | .BoolOp .. => true | .IfExp .. => true | .Compare .. => true | _ => false
def isPlain : Expr → Bool | .Name .. => true | .Subscript .. => true | .Attribute .. => true | _ => false
def isTupE : Expr → Bool | .Tuple .. => true | _ => false
def isEnm : E → Bool | .enm _ => true | _ => false
def isHole : E → Bool | .hole => true | _ => false
def chkKs : List Str → List (Option Expr) → Bool
  | [], [] => true
  | k :: ks, some (.Constant (.str z) _ _) :: es => decide (k = z) && chkKs ks es
  | _, _ => false
/-- a generator's scope -/
def chkG (Γ : Gam) (scope : Scope) (x : Str) : Bool := (scope.kind == .function) && !scope.isCoroutine && decide (scope.names.lookup (".0" : Str) = some .local) && decide (scope.names.lookup x = some .local) && scope.names.all fun q => !(q.2 == .cell) && (!(q.2 == .free) || celB Γ.sc q.1)
def chkP (Γ : Gam) (sc : Scope) (x : Str) : PX → Expr → Bool
  | .it, t => match t with | .Name y _ => decide (x = y) && !(x == ("__debug__" : Str)) | _ => false
  | .ita k, t => match t with | .Subscript (.Name y _) (.Constant (.int j) _ _) _ => decide (x = y) && !(x == ("__debug__" : Str)) && decide (j = (k : Int)) | _ => false
  | .fr j y, t => match t with | .Name z _ => decide (y = z) && Γ.isVar j y && celB Γ.sc y && decide (sc.names.lookup y = some .free) && sc.names.contains (y, .free) | _ => false
  | .gl y d, t => match t with | .Name z _ => decide (y = z) && decide (sc.names.lookup y = some .globalImplicit) && !(y == ("__debug__" : Str)) && (match d, Γ.P.gl.lookup y with | .int i, some (.int j) => decide (i = j) | .str i, some (.str j) => decide (i = j) | _, _ => false) | _ => false
  | .cat a b, t => match t with | .BinOp l .Add r _ => chkP Γ sc x a l && chkP Γ sc x b r | _ => false
  | .eqq n a b, t => match t with | .Compare l [op] [r] _ => decide (op = if n then .NotEq else .Eq) && chkP Γ sc x a l && chkP Γ sc x b r && !isSet r | _ => false
  | .inn n a b, t => match t with | .Compare l [op] [r] _ => decide (op = if n then .NotIn else .In) && chkP Γ sc x a l && chkP Γ sc x b r && !isSet r | _ => false
/-- a lambda's scope -/
def chkLm (Γ : Gam) (scope : Scope) (x : Str) : Bool := (scope.kind == .function) && !scope.isCoroutine && !scope.isGenerator && decide (scope.names.lookup x = some .local) && scope.names.all fun q => !(q.2 == .cell) && (!(q.2 == .free) || celB Γ.sc q.1)
structure Ck where
  E : Gam → E → Expr → Bool
  L : Gam → Bool → VI.E → List Expr → Bool
  Es : Gam → VI.Es → List Expr → Bool
  O : Gam → VI.E → Option Expr → Bool
  T : Gam → VI.E → Expr → Bool
  TL : Gam → Bool → VI.E → List Expr → Bool
  I : Gam → VI.E → Expr → Bool
def stE (r : Ck) : Gam → E → Expr → Bool
  | Γ, .var i, t => match t with | .Name x _ => Γ.isVar i x | _ => false
  | Γ, .non, t => match t with | .Constant .none _ _ => true | _ => false
  | Γ, .bl b, t => match t with | .Constant (.bool c) _ _ => b == c | _ => false
  | Γ, .int i, t => match t with | .Constant (.int j) _ _ => decide (i = j) | _ => false
  | Γ, .str s, t => match t with | .Constant (.str z) _ _ => decide (s = z) | _ => false
  | Γ, .glob x d, t => match t with | .Name y _ => Γ.isGl y x && (match d, Γ.P.gl.lookup x with | .int i, some (.int j) => decide (i = j) | .str i, some (.str j) => decide (i = j) | _, _ => false) | _ => false
  | Γ, .bin o a b, t => match t with | .BinOp l op y _ => decide (op = bopM o) && r.E Γ a l && r.E Γ b y | _ => false
  | Γ, .neg a, t => match t with | .UnaryOp .USub e _ => r.E Γ a e | _ => false
  | Γ, .cmp o a b, t => match t with | .Compare l [op] [y] _ => decide (op = copM o) && r.E Γ a l && r.E Γ b y && !isSet y | _ => false
  | Γ, .cmpO o a i, t => match t with | .Compare l [op] [.Name x _] _ => decide (op = copM o) && r.E Γ a l && Γ.isVar i x | _ => false
  | Γ, .isN ng a, t => match t with
      | .Compare l [op] [.Constant .none _ _] _ => decide (op = if ng then .IsNot else .Is) && r.E Γ a l
      | _ => false
  | Γ, .chain o o' a b c, t => match t with | .Compare l [op, op'] [m, y] _ => decide (op = copM o) && decide (op' = copM o') && r.E Γ a l && r.E Γ b m && r.E Γ c y && !isSet y | _ => false
  | Γ, .conj a b, t => match t with
      | .BoolOp .And [x, y] _ => r.E Γ a x && r.E Γ b y
      | .BoolOp .And (x :: y :: z :: q) p => r.E Γ a x && r.L Γ true b (y :: z :: q)
      | _ => false
  | Γ, .disj a b, t => match t with
      | .BoolOp .Or [x, y] _ => r.E Γ a x && r.E Γ b y
      | .BoolOp .Or (x :: y :: z :: q) p => r.E Γ a x && r.L Γ false b (y :: z :: q)
      | _ => false
  | Γ, .not a, t => match t with | .UnaryOp .Not e _ => r.E Γ a e | _ => false
  | Γ, .ite c a b, t => match t with | .IfExp x y z _ => r.T Γ c x && r.E Γ a y && r.E Γ b z | _ => false
  | Γ, .tup es, t => match t with | .Tuple xs _ _ => r.Es Γ es xs | _ => false
  | Γ, .lst es, t => match t with | .List xs _ => r.Es Γ es xs | _ => false
  | Γ, .dct ks es, t => match t with | .Dict keys vals _ => decide (ks.Nodup) && decide (ks ≠ []) && decide (ks.length ≤ 15) && chkKs ks keys && r.Es Γ es vals && decide (ks.length = vals.length) | _ => false
  | Γ, .rep a b, t => match t with | .BinOp l .Mult y _ => r.E Γ a l && r.E Γ b y | _ => false
  | Γ, .idx a b, t => match t with | .Subscript o i _ => r.E Γ a o && r.E Γ b i && !isSlice i | _ => false
  | Γ, .idxO i b, t => match t with | .Subscript (.Name x _) e _ => Γ.isVar i x && r.E Γ b e && !isSlice e | _ => false
  | Γ, .lenO i, t => match t with | .Call (.Name f _) [.Name x _] [] _ => Γ.isGl f "len" && Γ.isVar i x | _ => false
  | Γ, .slc a lo hi, t => match t with | .Subscript o (.Slice l h none _) _ => r.E Γ a o && r.O Γ lo l && r.O Γ hi h | _ => false
  | Γ, .slV a lo hi, t => match t with | .Subscript o (.Slice l h none _) _ => r.E Γ a o && r.O Γ lo l && r.O Γ hi h | _ => false
  | Γ, .hole, t => false
  | Γ, .lrg a, t => match t with | .Call (.Name x _) [.Call (.Name y _) [e] [] _] [] _ => Γ.isGl x "list" && Γ.isGl y "range" && r.E Γ a e && !isStar e | _ => false
  | Γ, .gfn f, t => match t with | .Name x _ => (match Γ.P.fn[f]? with | some (y, false, _) => Γ.isGl x y && !decide (y = Str.empty) | _ => false) | _ => false
  | Γ, .callV i es, t => match t with | .Call (.Name x _) (e :: xs) [] _ => Γ.isVar i x && r.Es Γ es (e :: xs) | _ => false
  | Γ, .call f es, t => match t with
      | .Call (.Name x _) xs [] _ => (match Γ.P.fn[f]? with | some (y, false, np) => Γ.isGl x y && !decide (y = Str.empty) && decide (eslen es = np) | _ => false) && r.Es Γ es xs
      | _ => false
  | Γ, .callO f i es, t => match t with
      | .Call (.Name x _) (.Name y _ :: xs) [] _ => (match Γ.P.fn[f]? with | some (z, true, np) => Γ.isGl x z && !decide (z = Str.empty) && decide (eslen es + 1 = np) | _ => false) && Γ.isVar i y && r.Es Γ es xs
      | _ => false
  | Γ, .bi f es, t => match t with
      | .Call (.Name x _) (e :: xs) [] _ => Γ.isGl x (biNm f) && r.Es Γ es (e :: xs)
      | _ => false
  | Γ, .isi a ts, t => match t with
      | .Call (.Name x _) [e, .Name y _] [] _ => Γ.isGl x "isinstance" && r.E Γ a e && !isStar e && (match ts with | [t] => decide (y = Str.ofString (tyN t)) && glB Γ.sc y | _ => false)
      | .Call (.Name x _) [e, .Tuple ys _ _] [] _ => Γ.isGl x "isinstance" && r.E Γ a e && !isStar e && Γ.isTys ts ys && decide (ts.length ≤ cap)
      | _ => false
  | Γ, .fld a f, t => match t with | .Attribute e g _ => decide (f = g) && isPlain e && r.E Γ a e | _ => false
  | Γ, .fldO i f, t => match t with | .Attribute (.Name x _) g _ => decide (f = g) && Γ.isVar i x | _ => false
  | Γ, .mth cn f m a es, t => false
  | Γ, .mk cn f es, t => match t with
      | .Call (.Name x _) (e :: xs) [] _ => (match Γ.P.cls[cn]?, Γ.P.fn[f]? with | some (y, g), some (_, true, np) => Γ.isGl x y && decide (f = g) && decide (eslen es + 1 = np) | _, _ => false) && r.Es Γ es (e :: xs)
      | _ => false
  | Γ, .pop i es, t => match t with
      | .Call (.Attribute (.Name x _) m ap) [e] [] p => decide (m = "pop") && Γ.isVar i x && r.Es Γ es [e] && (ap.endLine == p.line)
      | _ => false
  | Γ, .app i a, t => match t with
      | .Call (.Attribute (.Name x _) m ap) [e] [] p => decide (m = "append") && Γ.isVar i x && r.E Γ a e && !isStar e && (ap.endLine == p.line)
      | _ => false
  | Γ, .rng _, t => false
  | Γ, .enm _, t => false
  | Γ, .cmpr own ts it cs el, t => match t with
      | .ListComp elt [⟨tg, iter, ifs, as⟩] scope _ => decide (as = 0) && r.I Γ it iter && blkC Γ.N Γ.sc scope own && ts.all (fun i => decide (i ∈ own.map (·.2))) && ({ Γ with sc := relS scope Γ.sc, fa := false } : Gam).isTg ts tg
            && (match ifs with | [] => isHole cs | [c] => !isHole cs && r.T { Γ with sc := relS scope Γ.sc, fa := false } cs c | _ => false) && r.E { Γ with sc := relS scope Γ.sc, fa := false } el elt && !isSet iter && (isTupE tg || !isEnm it)
      | _ => false
  | Γ, .gen all it el, t => match t with
      | .Call (.Name x _) [.GeneratorExp elt [⟨.Name y _, iter, [], as⟩] scope _] [] _ => decide (as = 0) && Γ.fa && Γ.P.tb && Γ.isGl x (if all then "all" else "any") && chkG Γ scope y && r.E Γ it iter && chkP Γ scope y el elt && isPlain iter
      | _ => false
  | Γ, .srt el a, t => match t with
      | .Call (.Name x _) [e] [⟨some kw, .Lambda ⟨[], [⟨y, none, _⟩], none, [], [], none, []⟩ body scope _, _⟩] _ => Γ.fa && Γ.P.tb && Γ.isGl x "sorted" && decide (kw = "key") && r.E Γ a e && !isStar e && chkLm Γ scope y && chkP Γ scope y el body
      | _ => false
def stL (r : Ck) : Gam → Bool → E → List Expr → Bool
  | Γ, all, .conj a b, xs => all && (match xs with | [x, y] => r.E Γ a x && r.E Γ b y | x :: y :: z :: q => r.E Γ a x && r.L Γ all b (y :: z :: q) | _ => false)
  | Γ, all, .disj a b, xs => !all && (match xs with | [x, y] => r.E Γ a x && r.E Γ b y | x :: y :: z :: q => r.E Γ a x && r.L Γ all b (y :: z :: q) | _ => false)
  | Γ, all, _, xs => false
def stEs (r : Ck) : Gam → Es → List Expr → Bool
  | _, .nil, [] => true
  | Γ, .cons a q, e :: es => r.E Γ a e && !isStar e && r.Es Γ q es
  | _, _, _ => false
def stO (r : Ck) : Gam → E → Option Expr → Bool
  | Γ, c, t => match t with
      | none => isHole c
      | some e => !isHole c && r.E Γ c e
def stT (r : Ck) : Gam → E → Expr → Bool
  | Γ, .conj a b, t => match t with
      | .BoolOp .And [x, y] _ => r.T Γ a x && r.T Γ b y
      | .BoolOp .And (x :: y :: z :: q) _ => r.T Γ a x && r.TL Γ true b (y :: z :: q)
      | _ => false
  | Γ, .disj a b, t => match t with
      | .BoolOp .Or [x, y] _ => r.T Γ a x && r.T Γ b y
      | .BoolOp .Or (x :: y :: z :: q) _ => r.T Γ a x && r.TL Γ false b (y :: z :: q)
      | _ => false
  | Γ, .not a, t => match t with | .UnaryOp .Not e _ => r.T Γ a e | _ => false
  | Γ, .cmp o a b, t => match t with | .Compare l [op] [y] _ => decide (op = copM o) && r.E Γ a l && r.E Γ b y && !isSet y | _ => false
  | Γ, .isN ng a, t => match t with
      | .Compare l [op] [.Constant .none _ _] _ => decide (op = if ng then .IsNot else .Is) && r.E Γ a l
      | _ => false
  | Γ, .chain o o' a b c, t => match t with | .Compare l [op, op'] [m, y] _ => decide (op = copM o) && decide (op' = copM o') && r.E Γ a l && r.E Γ b m && r.E Γ c y && !isSet y | _ => false
  | Γ, .cmpO o a i, t => match t with | .Compare l [op] [.Name x _] _ => decide (op = copM o) && r.E Γ a l && Γ.isVar i x | _ => false
  | Γ, a, t => !isLogic t && r.E Γ a t
def stTL (r : Ck) : Gam → Bool → E → List Expr → Bool
  | Γ, all, .conj a b, xs => all && (match xs with | [x, y] => r.T Γ a x && r.T Γ b y | x :: y :: z :: q => r.T Γ a x && r.TL Γ all b (y :: z :: q) | _ => false)
  | Γ, all, .disj a b, xs => !all && (match xs with | [x, y] => r.T Γ a x && r.T Γ b y | x :: y :: z :: q => r.T Γ a x && r.TL Γ all b (y :: z :: q) | _ => false)
  | Γ, all, _, xs => false
def stI (r : Ck) : Gam → E → Expr → Bool
  | Γ, .rng es, t => match t with
      | .Call (.Name x _) xs [] _ => Γ.isGl x "range" && decide (1 ≤ xs.length ∧ xs.length ≤ 2) && r.Es Γ es xs
      | _ => false
  | Γ, .enm a, t => match t with
      | .Call (.Name x _) [e] [] _ => Γ.isGl x "enumerate" && r.E Γ a e && !isStar e
      | _ => false
  | Γ, a, t => r.E Γ a t
def ck : Nat → Ck
  | 0 => ⟨fun _ _ _ => false, fun _ _ _ _ => false, fun _ _ _ => false, fun _ _ _ => false, fun _ _ _ => false, fun _ _ _ _ => false, fun _ _ _ => false⟩
  | n + 1 => ⟨stE (ck n), stL (ck n), stEs (ck n), stO (ck n), stT (ck n), stTL (ck n), stI (ck n)⟩
abbrev chkE (n : Nat) := (ck n).E
abbrev chkL (n : Nat) := (ck n).L
abbrev chkEs (n : Nat) := (ck n).Es
abbrev chkO (n : Nat) := (ck n).O
abbrev chkT (n : Nat) := (ck n).T
abbrev chkTL (n : Nat) := (ck n).TL
abbrev chkI (n : Nat) := (ck n).I
/-- a comprehension that is given to a name at once -/
def swB (sc : Scope) (x : Str) (px : Pos) : Expr → Bool
  | .ListComp _ _ scope pos => lclB sc x && (px.line == pos.line) && !(scope.names.any fun (n, k) => n == x && (k == .local || k == .cell))
  | _ => false
def isNew : E → Bool | .lst _ => true | .rep _ _ => true | .cmpr .. => true | .bi .lst _ => true | .slc .. => true | .lrg .. => true | _ => false
/-- isinstance(n, x) in a clause -/
def instB (Γ : Gam) (n x : Str) : Expr → Bool
  | .Call (.Name z _) [.Name y _, .Name w _] [] _ => Γ.isGl z "isinstance" && decide (y = n) && decide (w = x) && glB Γ.sc x && !(x == ("__debug__" : Str)) && decide (x ∈ Γ.P.hn)
  | _ => false
/-- .. as a test -/
def chkHT (Γ : Gam) (n : Str) : HX → Expr → Bool
  | .inst x, t => instB Γ n x t
  | .conj a b, t => match t with | .BoolOp .And [x, y] _ => chkHT Γ n a x && chkHT Γ n b y | _ => false
  | _, _ => false
mutual
def chkH (Γ : Gam) (n : Str) : HX → Expr → Bool
  | .str s, t => match t with | .Constant (.str z) _ _ => decide (s = z) | _ => false
  | .int i, t => match t with | .Constant (.int j) _ _ => decide (i = j) | _ => false
  | .bl b, t => match t with | .Constant (.bool c) _ _ => b == c | _ => false
  | .non, t => match t with | .Constant .none _ _ => true | _ => false
  | .fld f, t => match t with | .Attribute (.Name y _) g _ => decide (y = n) && decide (f = g) && decide (f ∈ Γ.P.hf) | _ => false
  | .inst x, t => instB Γ n x t
  | .tup es, t => match t with | .Tuple xs _ _ => chkHs Γ n es xs | _ => false
  | .conj a b, t => match t with | .BoolOp .And [x, y] _ => chkH Γ n a x && chkH Γ n b y | _ => false
  | .ite c a b, t => match t with | .IfExp x y z _ => chkHT Γ n c x && chkH Γ n a y && chkH Γ n b z | _ => false
def chkHs (Γ : Gam) (n : Str) : HXs → List Expr → Bool
  | .nil, [] => true
  | .cons a r, e :: es => chkH Γ n a e && !isStar e && chkHs Γ n r es
  | _, _ => false
end
/-- the clauses -/
def chkHd (Γ : Gam) : List (Str × Nat × HX) → List ExceptHandler → Bool
  | [], [] => true
  | q :: hs, .ExceptHandler (some (.Name x _)) (some n) [.Return (some t) _] _ :: hds => decide (q.1 = x) && glB Γ.sc x && !(x == ("__debug__" : Str)) && decide (x ∈ Γ.P.hn) && Γ.isVar q.2.1 n && lclB Γ.sc n && chkH Γ n q.2.2 t && chkHd Γ hs hds
  | _, _ => false
structure CkB where
  B : Gam → B → Stmt → Bool
  Bs : Gam → VI.Bs → List Stmt → Bool
def stB (n : Nat) (r : CkB) : Gam → B → Stmt → Bool
  | Γ, .asg i e, t => match t with | .Assign [.Name x _] ex _ => Γ.isTgt i x && chkE n Γ e ex && !isComp ex | _ => false
  | Γ, .aug i o e, t => match t with | .AugAssign (.Name x _) op ex _ => Γ.isTgt i x && chkE n Γ e ex && (match o, op with | .add, .Add => true | .sub, .Sub => true | _, _ => false) | _ => false
  | Γ, .asgN i e, t => match t with | .Assign [.Name x px] ex _ => Γ.isTgt i x && isNew e && chkE n Γ e ex | _ => false
  | Γ, .unp ts e, t => match t with | .Assign [tg] ex _ => isTupE tg && Γ.isTg ts tg && chkE n Γ e ex && !isTupE ex && !isComp ex | _ => false
  | Γ, .six i ix e, t => match t with | .Assign [.Subscript (.Name x _) ei _] ex _ => Γ.isVar i x && chkE n Γ ix ei && !isSlice ei && chkE n Γ e ex && !isComp ex | _ => false
  | Γ, .sfl i f e, t => match t with | .Assign [.Attribute (.Name x _) g _] ex _ => Γ.isVar i x && decide (f = g) && chkE n Γ e ex && !isComp ex | _ => false
  | Γ, .exp e, t => match t with | .Expr ex _ => chkE n Γ e ex && !isComp ex | _ => false
  | Γ, .iff c a b, t => match t with | .If ec ea eb _ => chkT n Γ c ec && r.Bs Γ a ea && r.Bs Γ b eb | _ => false
  | Γ, .for ts it b, t => match t with | .For tg ei body [] _ => Γ.isTg ts tg && chkI n Γ it ei && !isSet ei && (isTupE tg || !isEnm it) && r.Bs Γ b body | _ => false
  | Γ, .brk, t => match t with | .Break _ => true | _ => false
  | Γ, .cnt, t => match t with | .Continue _ => true | _ => false
  | Γ, .pas, t => match t with | .Pass _ => true | _ => false
  | Γ, .ret e, t => match t with | .Return (some ex) _ => chkE n Γ e ex | _ => false
  | Γ, .retN, t => match t with | .Return none _ => true | _ => false
  | Γ, .retL e, t => match t with | .Return (some ex) _ => isNew e && chkE n Γ e ex | _ => false
  | Γ, .asgF i f es, t => match t with
      | .Assign [.Name x _] (.Call (.Name y _) (e :: xs) [] _) _ => Γ.isTgt i x && (match Γ.P.fn[f]? with | some (z, false, np) => Γ.isGl y z && !decide (z = Str.empty) && decide (eslen es = np) | _ => false) && chkEs n Γ es (e :: xs)
      | _ => false
  | Γ, .rse cn fs es, t => match t with
      | .Raise (some (.Call (.Name x _) (e :: xs) [] _)) none _ => (match Γ.P.exc[cn - 500]? with | some (y, _, gs) => decide (500 ≤ cn) && Γ.isGl x y && decide (fs = gs) && decide (gs ≠ []) | _ => false) && chkEs n Γ es (e :: xs)
      | _ => false
  | Γ, .rsp cn es, t => match t with
      | .Raise (some (.Call (.Name x _) (e :: xs) [] _)) none _ => (match Γ.P.exc[cn - 500]? with | some (y, _, gs) => decide (500 ≤ cn) && Γ.isGl x y && decide (gs = []) | _ => false) && chkEs n Γ es (e :: xs)
      | _ => false
  | Γ, .tri b hs, t => match t with | .Try body (hd1 :: hds) [] [] _ => Γ.fa && r.Bs Γ b body && chkHd Γ hs (hd1 :: hds) | _ => false
def stBs (n : Nat) (r : CkB) : Gam → Bs → List Stmt → Bool
  | Γ, .nil, [] => true
  | Γ, .cons a q, st :: sts => r.B Γ a st && r.Bs Γ q sts
  | _, _, _ => false
def ckB : Nat → CkB
  | 0 => ⟨fun _ _ _ => false, fun _ _ _ => false⟩
  | n + 1 => ⟨stB n (ckB n), stBs n (ckB n)⟩
abbrev chkB (n : Nat) := (ckB n).B
abbrev chkBs (n : Nat) := (ckB n).Bs

set_option Elab.async false
set_option linter.all false
set_option maxRecDepth 100000
set_option maxHeartbeats 8000000
open PySem PySem.Spec PyProof.Rows L2

/-- what is known of the running program -/
structure Facts (P : Prg) (X : Cx) (CT : Nat → Option Addr) (CF : Nat → List Str) (Φ : Nat → Option OC → List D → FRes) (T : List Addr) (k : Nat) (FA : Nat → Addr) (FD : Nat → FuncData) (FP : Nat → List Str) : Prop where
  room : Room (k + 1) X.A
  fn : ∀ f x io np, P.fn[f]? = some (x, io, np) → FnF X CT T k (Φ f) io np (FA f) (FD f) (FP f) ∧ (x ≠ Str.empty → X.mg x = some (.ref (FA f)))
  mkc : ∀ cn y f, P.cls[cn]? = some (y, f) → ∃ C, CT cn = some C ∧ X.mg y = some (.ref C) ∧ Mk X.K C (FA f)
  bl : ∀ x ∈ bis, X.mg x = none
  fv1 : ∀ f x io np, P.fn[f]? = some (x, io, np) → CT (1000 + f) = some (FA f)
  fv2 : ∀ c a, 1000 ≤ c → CT c = some a → a = FA (c - 1000) ∧ ∃ q, P.fn[c - 1000]? = some q
  k1 : 1 ≤ k
  xc : ∀ i y f fs, P.exc[i]? = some (y, f, fs) → ∃ C, XA X.prog X.w X.K X.mg X.base CT (500 + i) y C (FA f) (FD f) fs
  xf : XFacts X.K X.mg CT CF P.hn P.hf
  ar : ∀ f ds, Φ f none ds ≠ .stuck → ∃ x, P.fn[f]? = some (x, false, ds.length)
  gl : ∀ x d, P.gl.lookup x = some d → (∀ i, d = .int i → ∃ u, X.mg x = some u ∧ RelV (.int i) u) ∧ (∀ s, d = .str s → ∃ u, X.mg x = some u ∧ RelV (.str s) u)
  cl : ∀ c C g, c < 500 → CT c = some C → g ∈ CF c → Cls X.K C ∧ NoAttr X.K C g
/-- what is known of where one stands -/
structure XOk (Γ : Gam) (X : Cx) (T : List Addr) : Prop where
  N : X.N = Γ.N
  nd : Γ.N.Nodup
  sc : X.env.scope = Γ.sc
  fa : Γ.fa = true → ∀ x, X.fn x = true
  calm : X.calm = true
  stk : Γ.fa = true → X.stack = X.env :: X.outer
  frm : Γ.fa = true → X.env.frame = some X.env.locals
  code : Γ.fa = true → Γ.P.tb = true → ∃ c P', X.env.code = .ref c ∧ GxR.TabB X.base X.mg c P' ∧ P' ∈ T

section
variable {P : Prg} {X : Cx} {CT : Nat → Option Addr} {G : Gh} {W : WX} {CF : Nat → List Str} {Φ : Nat → Option OC → List D → FRes} {k : Nat} {FA : Nat → Addr} {FD : Nat → FuncData} {FP : Nat → List Str} {Γ : Gam}
theorem biD_lst {ds : List D} {d : D} (h : biD .lst ds = some d) : ∃ xs, d = .lst xs := by
  unfold biD at h
  split at h <;> first | (rename_i z; cases z; done) | skip
  · cases h; exact ⟨_, rfl⟩
  · cases h; exact ⟨_, rfl⟩
  · cases h
theorem biD_srt {ds : List D} {d : D} (h : biD .srt ds = some d) : ∃ xs, d = .lst xs := by
  unfold biD at h
  split at h <;> first | (rename_i z; cases z; done) | skip
  · split at h
    · cases h; exact ⟨_, rfl⟩
    · cases h
  · cases h
theorem vis_of {sc : Scope} {x : Str} (h : visB sc x = true) : Vis sc x := by
  unfold visB at h
  split at h
  · exact .inl ‹_›
  · exact .inr (.inl ‹_›)
  · exact .inr (.inr ‹_›)
  · cases h
theorem lcl_of {sc : Scope} {x : Str} (h : lclB sc x = true) : sc.names.lookup x = some .local := by
  unfold lclB at h
  split at h
  · assumption
  · cases h
theorem cel_of {sc : Scope} {x : Str} (h : celB sc x = true) : sc.names.lookup x = some .cell := by
  unfold celB at h
  split at h
  · assumption
  · cases h
theorem var_of {T : List Addr} (O : XOk Γ X T) {i : Nat} {x : Str} (h : Γ.isVar i x = true) : X.N[i]? = some x ∧ Vis X.env.scope x ∧ (x == ("__debug__" : Str)) = false ∧ (x == ("__classdict__" : Str)) = false := by
  simp only [Gam.isVar, Bool.and_eq_true, decide_eq_true_eq, Bool.not_eq_true'] at h
  obtain ⟨⟨⟨h1, h2⟩, h3⟩, h4⟩ := h
  exact ⟨by rw [O.N]; exact h1, by rw [O.sc]; exact vis_of h2, h3, h4⟩
theorem gl_of {T : List Addr} (O : XOk Γ X T) {x y : Str} (h : Γ.isGl x y = true) : x = y ∧ Gl X x ∧ (x == ("__debug__" : Str)) = false := by
  simp only [Gam.isGl, Bool.and_eq_true, decide_eq_true_eq, Bool.not_eq_true'] at h
  obtain ⟨⟨h1, h2⟩, h3⟩ := h
  refine ⟨h1, ?_, h3⟩
  unfold glB at h2
  split at h2
  · show X.env.scope.names.lookup x = some .globalImplicit
    rw [O.sc]; assumption
  · cases h2
theorem glb_of {T : List Addr} (O : XOk Γ X T) {x : Str} (h : glB Γ.sc x = true) : Gl X x := by
  unfold glB at h
  split at h
  · show X.env.scope.names.lookup x = some .globalImplicit
    rw [O.sc]; assumption
  · cases h
theorem star_ne {e : Expr} {es : List Expr} {env : Env} (h : isStar e = false) : starEach (e :: es) env = (false, eval e env) :: starEach es env := by
  cases e <;> first | rfl | (simp [isStar] at h)
theorem slice_ne {e : Expr} (h : isSlice e = false) : ∀ o i, subscripted e false o i = operate [o, i] (getItem o i) := by
  intro o i
  cases e <;> first | rfl | (simp [isSlice] at h)
theorem mark_ne {e : Expr} {op : CmpOp} (h : isSet e = false) : behindInMarks op e = false := by
  cases e <;> first | rfl | (simp [isSet] at h)
theorem set_ne {e : Expr} {env : Env} (h : isSet e = false) : ∀ x, foldedSetIterable e env x = pure x := by
  intro x
  cases e <;> first | rfl | (simp [isSet] at h)
theorem comp_ne {e : Expr} {tg : Option Expr} {l : Nat} {env : Env} (h : isComp e = false) : swapsWith e tg l env = pure false := by
  cases e <;> first | rfl | (simp [isComp] at h)
theorem logic_ne {e : Expr} {env : Env} (h : isLogic e = false) : ∀ whole, isTrue e env whole = (do let v ← whole; standAt e.pos; holding [v] (truthy v)) := by
  intro whole
  cases e <;> first | rfl | (simp [isLogic] at h; done) | skip
  rename_i op _ _
  cases op <;> first | rfl | (simp [isLogic] at h)
theorem plain_base {e : Expr} {f : Str} {env : Env} (h : isPlain e = true) : attributeBase e f env (eval e env) = eval e env := by
  cases e <;> first | rfl | (simp [isPlain] at h)
theorem chkEs_star : ∀ {n : Nat} {es : Es} {as : List Expr}, chkEs n Γ es as = true → ∀ a ∈ as, isStar a = false
  | 0, _, _, h => nomatch h
  | n + 1, es, as, h => by
    replace h : stEs (ck n) Γ es as = true := h
    simp only [stEs] at h
    split at h
    · intro a ha; cases ha
    · simp only [Bool.and_eq_true, Bool.not_eq_true'] at h
      intro a ha
      rcases List.mem_cons.mp ha with rfl | ha
      · exact h.1.2
      · exact chkEs_star h.2 a ha
    · cases h
theorem nostar {as : List Expr} {env : Env} {pos : Pos} : (∀ a ∈ as, isStar a = false) → (backTo pos (starEach as env)).any (·.1) = false := by
  induction as with
  | nil => intro _; rfl
  | cons a as ih =>
    intro h
    rw [star_ne (h a (List.mem_cons_self ..))]
    have := ih fun b hb => h b (List.mem_cons_of_mem _ hb)
    simp only [backTo, List.map_cons, List.any_cons, Bool.false_or] at this ⊢
    exact this
theorem chkEs_len : ∀ {n : Nat} {es : Es} {as : List Expr}, chkEs n Γ es as = true → as.length = eslen es
  | 0, _, _, h => nomatch h
  | n + 1, es, as, h => by
    replace h : stEs (ck n) Γ es as = true := h
    simp only [stEs] at h
    split at h
    · rfl
    · simp only [Bool.and_eq_true, Bool.not_eq_true'] at h
      rw [List.length_cons, chkEs_len h.2]; rfl
    · cases h
theorem tgt_of {T : List Addr} (O : XOk Γ X T) {i : Nat} {x : Str} {pos : Pos} (h : Γ.isTgt i x = true) : X.N[i]? = some x ∧ Loc X.env.scope x ∧ (X.fn x = true ∨ X.env.scope.names.lookup x = some .local) := by
  simp only [Gam.isTgt, Bool.and_eq_true, Bool.or_eq_true, decide_eq_true_eq] at h
  obtain ⟨h1, h2⟩ := h
  refine ⟨by rw [O.N]; exact h1, ?_, ?_⟩
  · rw [O.sc]
    rcases h2 with h2 | h2
    · exact .inl (lcl_of h2)
    · exact .inr (cel_of h2.2)
  · rcases h2 with h2 | h2
    · rw [O.sc]; exact .inr (lcl_of h2)
    · exact .inl (O.fa h2.1 x)
theorem pgs_of {T : List Addr} (O : XOk Γ X T) : ∀ {ts : List Nat} {es : List Expr}, Γ.isTgts ts es = true → PGs X es (gsOf ts) ∧ (assignEach es X.env).length = ts.length ∧ (assignEach es X.env).findIdx? (·.1) = none
  | [], [], _ => ⟨pgs_nil, rfl, rfl⟩
  | [], _ :: _, h => by simp [Gam.isTgts] at h
  | _ :: _, [], h => by simp [Gam.isTgts] at h
  | i :: ts, e :: es, h => by
    cases e <;> simp only [Gam.isTgts] at h <;> first | (cases h; done) | skip
    simp only [Bool.and_eq_true] at h
    rename_i x p
    obtain ⟨h1, h2, h3⟩ := tgt_of (pos := ⟨0, 0, 0, 0⟩) O h.1
    obtain ⟨g1, g2, g3⟩ := pgs_of O h.2
    refine ⟨pgs_cons (pg_name (by rw [O.N]; exact O.nd) h1 h2 h3) g1 (by rfl), ?_, ?_⟩
    · show (assignEach es X.env).length + 1 = _
      rw [g2]; rfl
    · show List.findIdx? (·.1) (_ :: assignEach es X.env) = none
      rw [List.findIdx?_cons]
      simp only [Bool.false_eq_true, if_false]
      rw [g3]; rfl
theorem pg_of {T : List Addr} (O : XOk Γ X T) {ts : List Nat} {e : Expr} (h : Γ.isTg ts e = true) : PG X e (gOf X.K ts) := by
  match ts, h with
  | [], h => simp [Gam.isTg] at h
  | [i], h =>
    cases e <;> simp only [Gam.isTg] at h <;> first | (cases h; done) | skip
    obtain ⟨h1, h2, h3⟩ := tgt_of (pos := ⟨0, 0, 0, 0⟩) O h
    exact pg_name (by rw [O.N]; exact O.nd) h1 h2 h3
  | i :: j :: ts, h =>
    cases e <;> simp only [Gam.isTg] at h <;> first | (cases h; done) | skip
    obtain ⟨g1, g2, g3⟩ := pgs_of O h
    exact pg_or2 (pg_tup O.calm g1 g2 g3) (pg_lst O.calm g1 g2 g3)
theorem boot_bi (f : Bi) (hf : f ≠ .int ∧ f ≠ .tup ∧ f ≠ .lst) : bootBuiltins (biNm f) = some (.builtin (biId f)) := by
  cases f <;> first | (exact absurd rfl hf.1) | (exact absurd rfl hf.2.1) | (exact absurd rfl hf.2.2) | decide +kernel
theorem boot_ty (t : Ty) : bootBuiltins (Str.ofString (tyN t)) = some (.type (tyN t)) := by cases t <;> decide +kernel
theorem name_bi (f : Bi) : biNm f ≠ "__name__" ∧ biNm f ∈ bis := by cases f <;> decide +kernel
theorem name_ty (t : Ty) : Str.ofString (tyN t) ≠ "__name__" ∧ Str.ofString (tyN t) ∈ bis ∧ (Str.ofString (tyN t) == ("__debug__" : Str)) = false := by cases t <;> decide +kernel

/-- a comprehension's block -/
theorem XOk.blk {T : List Addr} (O : XOk Γ X T) {s : Shared} {H : Hp} {scope : Scope} {C : Addr} {cl : List (Str × Addr)} {fp : List Addr} : XOk ({ Γ with sc := relS scope Γ.sc, fa := false } : Gam) (X.blk s H scope (compEnvC scope cl C X.env) fp) T :=
  ⟨O.N, O.nd, (by show relS scope X.env.scope = relS scope Γ.sc; rw [O.sc]), (fun h => nomatch h), O.calm, (fun h => nomatch h), (fun h => nomatch h), (fun h => nomatch h)⟩
theorem Facts.blk {T : List Addr} (F : Facts P X CT CF Φ T k FA FD FP) {s : Shared} {H : Hp} {scope : Scope} {cenv : Env} {fp : List Addr} : Facts P (X.blk s H scope cenv fp) CT CF Φ T k FA FD FP :=
  ⟨F.room, fun f x io np h => ⟨⟨(F.fn f x io np h).1.kp, (F.fn f x io np h).1.bd, (F.fn f x io np h).1.ok⟩, (F.fn f x io np h).2⟩, F.mkc, F.bl, F.fv1, F.fv2, F.k1, F.xc, F.xf, F.ar, F.gl, F.cl⟩
variable (P CF Φ k FA FD FP) in
structure Snd (n : Nat) : Prop where
  fE : ∀ (Γ : Gam) (X : Cx) (CT : Nat → Option Addr) (G : Gh) (W : WX) (c : E) (t : Expr), Γ.P = P → Facts P X CT CF Φ G.T k FA FD FP → XOk Γ X G.T → Takes X W → chkE n Γ c t = true → PEv X CT G W CF Φ t c
  fL : ∀ (Γ : Gam) (X : Cx) (CT : Nat → Option Addr) (G : Gh) (W : WX) (a : Bool) (c : E) (ts : List Expr) (pos : Pos), Γ.P = P → Facts P X CT CF Φ G.T k FA FD FP → XOk Γ X G.T → Takes X W → chkL n Γ a c ts = true → PEv X CT G W CF Φ (.BoolOp (if a then .And else .Or) ts pos) c
  fEs : ∀ (Γ : Gam) (X : Cx) (CT : Nat → Option Addr) (G : Gh) (W : WX) (c : Es) (t : List Expr), Γ.P = P → Facts P X CT CF Φ G.T k FA FD FP → XOk Γ X G.T → Takes X W → chkEs n Γ c t = true → PAv X CT G W CF Φ t c
  fO : ∀ (Γ : Gam) (X : Cx) (CT : Nat → Option Addr) (G : Gh) (W : WX) (c : E) (t : Option Expr), Γ.P = P → Facts P X CT CF Φ G.T k FA FD FP → XOk Γ X G.T → Takes X W → chkO n Γ c t = true → POv X CT G W CF Φ t c
  fT : ∀ (Γ : Gam) (X : Cx) (CT : Nat → Option Addr) (G : Gh) (W : WX) (c : E) (t : Expr), Γ.P = P → Facts P X CT CF Φ G.T k FA FD FP → XOk Γ X G.T → Takes X W → chkT n Γ c t = true → PTv X CT G W CF Φ t c
  fTL : ∀ (Γ : Gam) (X : Cx) (CT : Nat → Option Addr) (G : Gh) (W : WX) (a : Bool) (c : E) (ts : List Expr) (pos : Pos), Γ.P = P → Facts P X CT CF Φ G.T k FA FD FP → XOk Γ X G.T → Takes X W → chkTL n Γ a c ts = true → PW X (.BoolOp (if a then .And else .Or) ts pos) (hT X.K CT G W (evT CF Φ c))
  fI : ∀ (Γ : Gam) (X : Cx) (CT : Nat → Option Addr) (G : Gh) (W : WX) (c : E) (tg t : Expr), Γ.P = P → Facts P X CT CF Φ G.T k FA FD FP → XOk Γ X G.T → Takes X W → (isTupE tg = true ∨ ∀ a, c ≠ .enm a) → chkI n Γ c t = true → PIv X CT G W CF Φ tg t c
theorem enm_of {tg : Expr} {it : E} (h : (isTupE tg || !isEnm it) = true) : isTupE tg = true ∨ ∀ a, it ≠ .enm a := by
  rw [Bool.or_eq_true] at h
  rcases h with h | h
  · exact .inl h
  · refine .inr fun a z => ?_
    subst z
    simp [isEnm] at h
theorem hu1 {X : Cx} {k : Nat} (r : Room k X.A) : X.A.units + 64 < cLine := r.units
theorem allPE {n : Nat} (ihs : ∀ m, m ≤ n → Snd P CF Φ k FA FD FP m) {Γ : Gam} {X : Cx} {CT : Nat → Option Addr} {G : Gh} {W : WX} (eP : Γ.P = P) (F : Facts P X CT CF Φ G.T k FA FD FP) (O : XOk Γ X G.T) (tk : Takes X W) : ∀ {m : Nat} {es : Es} {t : List Expr}, m ≤ n + 1 → chkEs m Γ es t = true → AllPE X CT G W CF Φ es t
  | 0, _, _, _, h => nomatch h
  | m + 1, es, t, hm, h => by
    replace h : stEs (ck m) Γ es t = true := h
    simp only [stEs] at h
    split at h
    · simp only [AllPE]
    · simp only [Bool.and_eq_true, Bool.not_eq_true'] at h
      simp only [AllPE]
      exact ⟨_, _, rfl, fun G' eG => (ihs m (by omega)).fE Γ X CT G' W _ _ eP (by rw [eG]; exact F) (by rw [eG]; exact O) tk h.1.1, allPE ihs eP F O tk (by omega) h.2⟩
    · cases h
theorem chkKs_of : ∀ {ks : List Str} {keys : List (Option Expr)}, chkKs ks keys = true → keys.length = ks.length ∧ ∀ (i : Nat) (k : Str), ks[i]? = some k → ∃ j p, keys[i]? = some (some (.Constant (.str k) j p))
  | [], [], _ => ⟨rfl, fun i k h => by simp at h⟩
  | [], _ :: _, h => by simp [chkKs] at h
  | _ :: _, [], h => by simp [chkKs] at h
  | k :: ks, e :: es, h => by
    unfold chkKs at h
    split at h
    · rename_i h1 h2
      cases h1
    · rename_i k' ks' z j p es' h1 h2
      cases h1; cases h2
      simp only [Bool.and_eq_true, decide_eq_true_eq] at h
      obtain ⟨rfl, h⟩ := h
      obtain ⟨g1, g2⟩ := chkKs_of h
      refine ⟨by simp [g1], fun i k0 hi => ?_⟩
      cases i with
      | zero => simp only [List.getElem?_cons_zero, Option.some.injEq] at hi; subst hi; exact ⟨j, p, rfl⟩
      | succ i => exact g2 i k0 (by simpa using hi)
    · cases h
theorem tys_of {T : List Addr} (O : XOk Γ X T) (hb : ∀ x ∈ bis, X.mg x = none) : ∀ {ts : List Ty} {es : List Expr}, Γ.isTys ts es = true → PA X es (fun σ H Q => Q (ts.map fun t => V.ty (tyN t)) H)
  | [], [], _ => pa_nil
  | [], _ :: _, h => by simp [Gam.isTys] at h
  | _ :: _, [], h => by simp [Gam.isTys] at h
  | t :: ts, e :: es, h => by
    cases e <;> simp only [Gam.isTys] at h <;> first | (cases h; done) | skip
    simp only [Bool.and_eq_true, decide_eq_true_eq] at h
    obtain ⟨⟨rfl, h1⟩, h2⟩ := h
    obtain ⟨n1, n2, n3⟩ := name_ty t
    exact pa_cons (pe_bltn (v := .ty (tyN t)) (glb_of O h1) (hb _ n2) (boot_ty t) rfl n1 n3) (tys_of O hb h2) rfl
theorem bk_cmpr {n : Nat} (ih : Snd P CF Φ k FA FD FP n) {Γ : Gam} {X : Cx} {CT : Nat → Option Addr} {G : Gh} {W : WX} (eP : Γ.P = P) (F : Facts P X CT CF Φ G.T k FA FD FP) (O : XOk Γ X G.T) {own : List (Str × Nat)} {ts : List Nat} {cs el : E} {elt tg : Expr} {ifs : List Expr} {scope : Scope}
    (h1 : blkC Γ.N Γ.sc scope own = true) (h3 : ({ Γ with sc := relS scope Γ.sc, fa := false } : Gam).isTg ts tg = true) (h4 : (match ifs with | [] => isHole cs | [c] => !isHole cs && chkT n { Γ with sc := relS scope Γ.sc, fa := false } cs c | _ => false) = true) (h5 : chkE n { Γ with sc := relS scope Γ.sc, fa := false } el elt = true) :
    BlkOk X.N X.env.scope scope own ∧
    (∀ (s : Shared) (H : Hp) (C : Addr) (cl : List (Str × Addr)) (fp : List Addr), PG (X.blk s H scope (compEnvC scope cl C X.env) fp) tg (gOf X.K ts)) ∧
    (∀ (G' : Gh), G'.T = G.T → ∀ (s : Shared) (H : Hp) (C : Addr) (cl : List (Str × Addr)) (fp : List Addr), PCv (X.blk s H scope (compEnvC scope cl C X.env) fp) CT G' (fun _ _ _ _ => False) CF Φ ifs cs) ∧
    (∀ (G' : Gh), G'.T = G.T → ∀ (s : Shared) (H : Hp) (C : Addr) (cl : List (Str × Addr)) (fp : List Addr), PEv (X.blk s H scope (compEnvC scope cl C X.env) fp) CT G' (fun _ _ _ _ => False) CF Φ elt el) := by
  refine ⟨by rw [O.N, O.sc]; exact blkOk_by h1, fun s H C cl fp => pg_of (X := X.blk s H scope (compEnvC scope cl C X.env) fp) O.blk h3, fun G' eG s H C cl fp => ?_, fun G' eG s H C cl fp => ?_⟩
  · split at h4
    · cases cs <;> first | exact c_none | (simp [isHole] at h4)
    · rw [Bool.and_eq_true, Bool.not_eq_true'] at h4
      refine c_one (ih.fT { Γ with sc := relS scope Γ.sc, fa := false } _ CT G' _ cs _ eP (by rw [eG]; exact F.blk) (by rw [eG]; exact O.blk) takes_none5 h4.2) fun S => ?_
      have h6 := h4.1
      clear h4
      cases cs <;> first | (simp only [evC]; done) | (simp [isHole] at h6)
    · cases h4
  · exact ih.fE { Γ with sc := relS scope Γ.sc, fa := false } _ CT G' _ el elt eP (by rw [eG]; exact F.blk) (by rw [eG]; exact O.blk) takes_none5 h5
theorem genS_of {T : List Addr} (O : XOk Γ X T) {scope : Scope} {x : Str} (h : chkG Γ scope x = true) (ok : X.Ok) : GxR.GenS X.env scope x := by
  simp only [chkG, Bool.and_eq_true, Bool.not_eq_true', decide_eq_true_eq, List.all_eq_true, Bool.or_eq_true] at h
  obtain ⟨⟨⟨⟨h1, h2⟩, h3⟩, h4⟩, h5⟩ := h
  refine ⟨by simpa using h1, h2, fun y hy e => ?_, h3, h4, fun y hy e => ?_⟩
  · have := (h5 y hy).1
    rw [e] at this; cases this
  · rcases (h5 y hy).2 with z | z
    · rw [e] at z; cases z
    · exact ok.has y.1 (.inl (by show X.env.scope.names.lookup y.1 = _; rw [O.sc]; exact cel_of z))
theorem lmS_of {T : List Addr} (O : XOk Γ X T) {scope : Scope} {x : Str} (h : chkLm Γ scope x = true) (ok : X.Ok) : LmS X.env scope x := by
  simp only [chkLm, Bool.and_eq_true, Bool.not_eq_true', decide_eq_true_eq, List.all_eq_true, Bool.or_eq_true] at h
  obtain ⟨⟨⟨⟨h1, h2⟩, h3⟩, h4⟩, h5⟩ := h
  refine ⟨by simpa using h1, h2, h3, fun y hy e => ?_, h4, fun y hy e => ?_⟩
  · have := (h5 y hy).1
    rw [e] at this; cases this
  · rcases (h5 y hy).2 with z | z
    · rw [e] at z; cases z
    · exact ok.has y.1 (.inl (by show X.env.scope.names.lookup y.1 = _; rw [O.sc]; exact cel_of z))
theorem mark_neg {n : Bool} {e : Expr} {a b : CmpOp} (h : isSet e = false) : behindInMarks (if n then a else b) e = false := mark_ne h
theorem px_of {T : List Addr} (O : XOk Γ X T) (gl : ∀ x d, Γ.P.gl.lookup x = some d → (∀ i, d = .int i → ∃ u, X.mg x = some u ∧ RelV (.int i) u) ∧ (∀ s, d = .str s → ∃ u, X.mg x = some u ∧ RelV (.str s) u)) {sc : Scope} {x : Str} : ∀ (e : PX) (t : Expr), chkP Γ sc x e t = true → PxS X CT sc x e t
  | .it, t, h => by
    simp only [chkP] at h
    split at h
    · simp only [Bool.and_eq_true, Bool.not_eq_true', decide_eq_true_eq] at h
      obtain ⟨rfl, h2⟩ := h
      exact ⟨_, rfl, h2⟩
    · cases h
  | .ita k, t, h => by
    simp only [chkP] at h
    split at h
    · simp only [Bool.and_eq_true, Bool.not_eq_true', decide_eq_true_eq] at h
      obtain ⟨⟨rfl, h2⟩, rfl⟩ := h
      exact ⟨_, _, _, _, rfl, h2⟩
    · cases h
  | .fr j y, t, h => by
    simp only [chkP] at h
    split at h
    · simp only [Bool.and_eq_true, decide_eq_true_eq] at h
      obtain ⟨⟨⟨⟨rfl, h2⟩, h3⟩, h4⟩, h5⟩ := h
      obtain ⟨g1, g2, g3, g4⟩ := var_of O h2
      exact ⟨_, rfl, g1, g2, g3, g4, by show X.env.scope.names.lookup y = _; rw [O.sc]; exact cel_of h3, h4, by simpa using h5⟩
    · cases h
  | .gl y d, t, h => by
    simp only [chkP] at h
    split at h
    · simp only [Bool.and_eq_true, Bool.not_eq_true', decide_eq_true_eq] at h
      obtain ⟨⟨⟨rfl, h2⟩, h3⟩, h4⟩ := h
      split at h4
      · rename_i i j e1 e2
        simp only [decide_eq_true_eq] at h4; subst h4
        obtain ⟨u, hu, hr⟩ := (gl _ _ e2).1 _ rfl
        exact ⟨_, u, .int _, rfl, h2, h3, hu, hr, fun F => by simp only [Rep]⟩
      · rename_i i j e1 e2
        simp only [decide_eq_true_eq] at h4; subst h4
        obtain ⟨u, hu, hr⟩ := (gl _ _ e2).2 _ rfl
        exact ⟨_, u, .str _, rfl, h2, h3, hu, hr, fun F => by simp only [Rep]⟩
      · cases h4
    · cases h
  | .cat a b, t, h => by
    simp only [chkP] at h
    split at h
    · simp only [Bool.and_eq_true] at h
      exact ⟨_, _, _, rfl, px_of O gl a _ h.1, px_of O gl b _ h.2⟩
    · cases h
  | .eqq n a b, t, h => by
    simp only [chkP] at h
    split at h
    · simp only [Bool.and_eq_true, Bool.not_eq_true', decide_eq_true_eq] at h
      obtain ⟨⟨⟨rfl, h2⟩, h3⟩, h4⟩ := h
      exact ⟨_, _, _, rfl, px_of O gl a _ h2, px_of O gl b _ h3, mark_ne h4⟩
    · cases h
  | .inn n a b, t, h => by
    simp only [chkP] at h
    split at h
    · simp only [Bool.and_eq_true, Bool.not_eq_true', decide_eq_true_eq] at h
      obtain ⟨⟨⟨rfl, h2⟩, h3⟩, h4⟩ := h
      exact ⟨_, _, _, rfl, px_of O gl a _ h2, px_of O gl b _ h3, mark_ne h4⟩
    · cases h
theorem fold_ne {e : Expr} {env : Env} (h : isPlain e = true) : ∀ x, genFold e env x = pure x := by
  intro x
  cases e <;> first | rfl | (simp [isPlain] at h)
theorem snd_E {n : Nat} (ih : Snd P CF Φ k FA FD FP n) (ihs : ∀ m, m ≤ n → Snd P CF Φ k FA FD FP m) (Γ : Gam) (X : Cx) (CT : Nat → Option Addr) (G : Gh) (W : WX) (c : E) (t : Expr) (eP : Γ.P = P) (F : Facts P X CT CF Φ G.T k FA FD FP) (O : XOk Γ X G.T) (tk : Takes X W) (h : chkE (n + 1) Γ c t = true) : PEv X CT G W CF Φ t c := by
  have ihE := fun c t h => ih.fE Γ X CT G W c t eP F O tk h
  have ihEs := fun c t h => ih.fEs Γ X CT G W c t eP F O tk h
  have ihT := fun c t h => ih.fT Γ X CT G W c t eP F O tk h
  have hu := F.room.units
  replace h : stE (ck n) Γ c t = true := h
  cases c <;> simp only [stE] at h <;> first | (cases h; done) | skip
  case var i =>
    split at h
    · obtain ⟨h1, h2, h3, h4⟩ := var_of O h
      exact v_var h1 h2 h3 h4
    · cases h
  case non =>
    split at h
    · exact v_const (d := .non) pe_non (fun S => by simp only [evE]) (fun F => by simp only [Rep])
    · cases h
  case bl b =>
    split at h
    · simp only [beq_iff_eq] at h; subst h
      exact v_const (d := .bl b) pe_bl (fun S => by simp only [evE]) (fun F => by simp only [Rep])
    · cases h
  case int b =>
    split at h
    · simp only [decide_eq_true_eq] at h; subst h
      exact v_const (d := .int b) pe_int (fun S => by simp only [evE]) (fun F => by simp only [Rep])
    · cases h
  case str b =>
    split at h
    · simp only [decide_eq_true_eq] at h; subst h
      exact v_const (d := .str b) pe_str (fun S => by simp only [evE]) (fun F => by simp only [Rep])
    · cases h
  case glob x d =>
    split at h
    · simp only [Bool.and_eq_true] at h
      obtain ⟨e1, g1, g2⟩ := gl_of O h.1
      subst e1
      have hg := F.gl
      rw [eP] at h
      split at h
      · rename_i i j q
        have h2 := h.2
        simp only [decide_eq_true_eq] at h2; subst h2
        obtain ⟨u, hu, hr⟩ := (hg _ _ q).1 _ rfl
        exact v_const (d := .int i) (pe_glob g1 hu hr g2) (fun S => by simp only [evE]) (fun F => by simp only [Rep])
      · rename_i i j q
        have h2 := h.2
        simp only [decide_eq_true_eq] at h2; subst h2
        obtain ⟨u, hu, hr⟩ := (hg _ _ q).2 _ rfl
        exact v_const (d := .str i) (pe_glob g1 hu hr g2) (fun S => by simp only [evE]) (fun F => by simp only [Rep])
      · exact absurd h.2 (by simp)
    · cases h
  case bin o a b =>
    split at h
    · simp only [Bool.and_eq_true, decide_eq_true_eq] at h
      obtain ⟨⟨rfl, h1⟩, h2⟩ := h
      exact v_bin (ihE _ _ h1) (ihE _ _ h2)
    · cases h
  case neg a =>
    split at h
    · exact v_neg (ihE _ _ h)
    · cases h
  case cmp o a b =>
    split at h
    · simp only [Bool.and_eq_true, decide_eq_true_eq, Bool.not_eq_true'] at h
      obtain ⟨⟨⟨rfl, h1⟩, h2⟩, h3⟩ := h
      exact v_cmp hu (ihE _ _ h1) (ihE _ _ h2) (mark_ne h3)
    · cases h
  case cmpO o a i =>
    split at h
    · simp only [Bool.and_eq_true, decide_eq_true_eq] at h
      obtain ⟨⟨rfl, h1⟩, h2⟩ := h
      obtain ⟨g1, g2, g3, g4⟩ := var_of O h2
      exact v_cmpO hu (ihE _ _ h1) g1 g2 g3 g4
    · cases h
  case isN ng a =>
    split at h
    · simp only [Bool.and_eq_true, decide_eq_true_eq] at h
      obtain ⟨rfl, h1⟩ := h
      cases ng
      · exact v_isN (ihE _ _ h1)
      · exact v_isNN (ihE _ _ h1)
    · cases h
  case chain o o' a b c =>
    split at h
    · simp only [Bool.and_eq_true, decide_eq_true_eq, Bool.not_eq_true'] at h
      obtain ⟨⟨⟨⟨⟨rfl, rfl⟩, h1⟩, h2⟩, h3⟩, h4⟩ := h
      exact v_chain hu (ihE _ _ h1) (ihE _ _ h2) (ihE _ _ h3) (mark_ne h4)
    · cases h
  case conj a b =>
    split at h
    · simp only [Bool.and_eq_true] at h
      exact v_conj (ihE _ _ h.1) (v_conj1 (ihE _ _ h.2))
    · simp only [Bool.and_eq_true] at h
      exact v_conj (ihE _ _ h.1) (by simpa using ih.fL Γ X CT G W true _ _ _ eP F O tk h.2)
    · cases h
  case disj a b =>
    split at h
    · simp only [Bool.and_eq_true] at h
      exact v_disj (ihE _ _ h.1) (v_conj1 (ihE _ _ h.2))
    · simp only [Bool.and_eq_true] at h
      exact v_disj (ihE _ _ h.1) (by simpa using ih.fL Γ X CT G W false _ _ _ eP F O tk h.2)
    · cases h
  case not a =>
    split at h
    · exact v_not (ihE _ _ h)
    · cases h
  case ite c a b =>
    split at h
    · simp only [Bool.and_eq_true] at h
      exact v_ite (ihT _ _ h.1.1) (ihE _ _ h.1.2) (ihE _ _ h.2)
    · cases h
  case tup es =>
    split at h
    · exact v_tup (ihEs _ _ h)
    · cases h
  case lst es =>
    split at h
    · exact v_lst (ihEs _ _ h)
    · cases h
  case dct ks es =>
    split at h
    · simp only [Bool.and_eq_true, decide_eq_true_eq] at h
      obtain ⟨⟨⟨⟨⟨h1, h2⟩, h3⟩, h4⟩, h5⟩, h6⟩ := h
      obtain ⟨g1, g2⟩ := chkKs_of h4
      exact v_dct (allPE ihs eP F O tk (Nat.le_succ n) h5) h1 h2 h3 h6 g2 g1 (chkEs_len h5).symm
    · cases h
  case rep a b =>
    split at h
    · simp only [Bool.and_eq_true] at h
      exact v_of_n (n_rep (ihE _ _ h.1) (ihE _ _ h.2)) (fun S d S' => rep_lst)
    · cases h
  case idx a b =>
    split at h
    · simp only [Bool.and_eq_true, Bool.not_eq_true'] at h
      exact v_idx (by omega) (ihE _ _ h.1.1) (ihE _ _ h.1.2) (slice_ne h.2)
    · cases h
  case idxO i b =>
    split at h
    · simp only [Bool.and_eq_true, Bool.not_eq_true'] at h
      obtain ⟨g1, g2, g3, g4⟩ := var_of O h.1.1
      exact v_idxO g1 g2 g3 g4 (ihE _ _ h.1.2) (slice_ne h.2)
    · cases h
  case lenO i =>
    split at h
    · simp only [Bool.and_eq_true] at h
      obtain ⟨e1, k1, k2⟩ := gl_of O h.1
      subst e1
      obtain ⟨g1, g2, g3, g4⟩ := var_of O h.2
      exact v_lenO g1 g2 g3 g4 k1 (F.bl _ (by decide +kernel)) (star_ne rfl)
    · cases h
  case slc a lo hi =>
    split at h
    · simp only [Bool.and_eq_true] at h
      exact v_of_n (n_slc (ihE _ _ h.1.1) (ih.fO Γ X CT G W _ _ eP F O tk h.1.2) (ih.fO Γ X CT G W _ _ eP F O tk h.2)) (fun S d S' e => by
        simp only [evE] at e
        obtain ⟨x, S1, _, e⟩ := bind_ok e
        obtain ⟨y, S2, _, e⟩ := bind_ok e
        split at e
        · cases e
        · obtain ⟨z, S3, _, e⟩ := bind_ok e
          split at e
          · cases x <;> simp only [slcD, ofO] at e <;> first | (cases e; done) | skip
            cases e; exact ⟨_, rfl⟩
          · cases e)
    · cases h
  case slV a lo hi =>
    split at h
    · simp only [Bool.and_eq_true] at h
      exact v_slV (ihE _ _ h.1.1) (ih.fO Γ X CT G W _ _ eP F O tk h.1.2) (ih.fO Γ X CT G W _ _ eP F O tk h.2)
    · cases h
  case gen all it el =>
    split at h
    · simp only [Bool.and_eq_true, Bool.not_eq_true', decide_eq_true_eq] at h
      obtain ⟨⟨⟨⟨⟨⟨⟨rfl, h1⟩, h2⟩, h3⟩, h4⟩, h5⟩, h6⟩, h7⟩ := h
      obtain ⟨c, P', k1, k2, k3⟩ := O.code h1 h2
      obtain ⟨e1, g1, g2⟩ := gl_of O h3
      subst e1
      refine v_gen F.room g1 (F.bl _ (by cases all <;> decide +kernel)) k2 k1 k3 (genS_of O h4) (ihE _ _ h5) (fold_ne h7) (px_of O (by rw [eP]; exact F.gl) el _ h6)
    · cases h
  case srt el a =>
    split at h
    · rename_i kw y py body scope lp kp pos
      simp only [Bool.and_eq_true, Bool.not_eq_true', decide_eq_true_eq] at h
      obtain ⟨⟨⟨⟨⟨⟨⟨h1, h2⟩, h3⟩, rfl⟩, h5⟩, h6⟩, h7⟩, h8⟩ := h
      obtain ⟨c, P', k1, k2, k3⟩ := O.code h1 h2
      obtain ⟨e1, g1, g2⟩ := gl_of O h3
      subst e1
      exact v_srt F.room g1 (F.bl _ (by decide +kernel)) k2 k1 k3 (lmS_of O h7) (ihE _ _ h5) (by rw [star_ne h6]; rfl) (px_of O (by rw [eP]; exact F.gl) el _ h8)
    · cases h
  case lrg a =>
    split at h
    · simp only [Bool.and_eq_true, Bool.not_eq_true'] at h
      obtain ⟨⟨⟨h1, h2⟩, h3⟩, h4⟩ := h
      obtain ⟨e1, g1, g2⟩ := gl_of O h1
      obtain ⟨e2, g3, g4⟩ := gl_of O h2
      subst e1 e2
      exact v_of_n (n_lrg O.calm g1 (F.bl _ (by decide +kernel)) g3 (F.bl _ (by decide +kernel)) (ihE _ _ h3) (by rw [star_ne h4]; rfl)) (fun S d S' e => by
        simp only [evE] at e
        obtain ⟨x, S1, _, e⟩ := bind_ok e
        cases x <;> first | (cases e; done) | skip
        simp only at e
        split at e
        · cases e; exact ⟨_, rfl⟩
        · cases e)
    · cases h
  case gfn f =>
    split at h
    · rw [eP] at h
      split at h
      · rename_i y np q
        simp only [Bool.and_eq_true, Bool.not_eq_true', decide_eq_false_iff_not] at h
        obtain ⟨e1, k1, k2⟩ := gl_of O h.1
        subst e1
        obtain ⟨FF, hm⟩ := F.fn _ _ _ _ q
        exact v_const (d := .fnv (1000 + f)) (pe_glob (v := .ref (FA f)) k1 (hm h.2) rfl k2) (fun S => by simp only [evE]) (fun F0 => by simp only [Rep]; exact ⟨_, rfl, F.fv1 _ _ _ _ q⟩)
      · cases h
    · cases h
  case callV i es =>
    split at h
    · simp only [Bool.and_eq_true] at h
      obtain ⟨g1, g2, g3, g4⟩ := var_of O h.1
      have hstar := chkEs_star h.2
      refine v_callV (F.room.mono (Nat.le_succ _)) tk g1 g2 g3 g4 (ihEs _ _ h.2) (star_ne (hstar _ (List.mem_cons_self ..))) (nostar fun a ha => hstar a (List.mem_cons_of_mem _ ha)) (fun c a h1 h2 => ?_) (fun c a h1 h2 ds h3 => ?_)
      · obtain ⟨rfl, ⟨y, io, np⟩, q⟩ := F.fv2 c a h1 h2
        exact (F.fn _ _ _ _ q).1.kp
      · obtain ⟨rfl, _⟩ := F.fv2 c a h1 h2
        obtain ⟨y, q⟩ := F.ar _ _ h3
        exact ⟨_, _, _, rfl, (F.fn _ _ _ _ q).1⟩
    · cases h
  case call f es =>
    split at h
    · simp only [Bool.and_eq_true] at h
      rw [eP] at h
      split at h
      · rename_i y np q
        have h1 := h.1
        simp only [Bool.and_eq_true, Bool.not_eq_true', decide_eq_true_eq, decide_eq_false_iff_not] at h1
        obtain ⟨⟨h11, h12⟩, h13⟩ := h1
        obtain ⟨e1, k1, k2⟩ := gl_of O h11
        subst e1
        obtain ⟨FF, hm⟩ := F.fn _ _ _ _ q
        have hstar := chkEs_star h.2
        rename_i xs _ _
        cases xs with
        | nil =>
          have hl := chkEs_len h.2
          cases es with
          | nil =>
            have : np = 0 := h13.symm
            subst this
            exact v_call0 FF (F.room.mono (Nat.le_succ _)) tk k1 (hm h12) k2
          | cons e r => exact absurd hl (by simp [eslen])
        | cons e as => exact v_call FF (F.room.mono (Nat.le_succ _)) tk k1 (hm h12) h13 (ihEs _ _ h.2) k2 (star_ne (hstar e (List.mem_cons_self ..))) (nostar fun a ha => hstar a (List.mem_cons_of_mem _ ha))
      · exact absurd h.1 (by simp)
    · cases h
  case callO f i es =>
    split at h
    · simp only [Bool.and_eq_true] at h
      rw [eP] at h
      obtain ⟨⟨h0, h2⟩, h3⟩ := h
      split at h0
      · rename_i y np q
        simp only [Bool.and_eq_true, Bool.not_eq_true', decide_eq_true_eq, decide_eq_false_iff_not] at h0
        obtain ⟨⟨h11, h12⟩, h13⟩ := h0
        obtain ⟨e1, k1, k2⟩ := gl_of O h11
        subst e1
        obtain ⟨FF, hm⟩ := F.fn _ _ _ _ q
        obtain ⟨g1, g2, g3, g4⟩ := var_of O h2
        exact v_callO FF (F.room.mono (Nat.le_succ _)) tk k1 (hm h12) h13 g1 g2 g3 g4 (ihEs _ _ h3) k2 (star_ne rfl) (nostar (chkEs_star h3))
      · cases h0
    · cases h
  case bi f es =>
    split at h
    · simp only [Bool.and_eq_true] at h
      obtain ⟨e1, k1, k2⟩ := gl_of O h.1
      subst e1
      have hstar := chkEs_star h.2
      rename_i p e xs pos
      have he := star_ne (env := X.env) (es := xs) (hstar e (List.mem_cons_self ..))
      have hp : ∀ pos, (backTo pos (starEach xs X.env)).any (·.1) = false := fun pos => nostar (pos := pos) (env := X.env) fun a ha => hstar a (List.mem_cons_of_mem _ ha)
      have hm := F.bl _ (name_bi f).2
      by_cases hf : f ≠ .int ∧ f ≠ .tup ∧ f ≠ .lst ∧ f ≠ .srt
      · exact v_biF hu O.calm hf rfl k1 hm (boot_bi f ⟨hf.1, hf.2.1, hf.2.2.1⟩) (ihEs _ _ h.2) (name_bi f).1 k2 he (hp _)
      · cases f
        case int => exact v_biT bi_int k1 hm (boot_ty .int) (ihEs _ _ h.2) (name_bi .int).1 k2 he (hp _)
        case tup => exact v_biT bi_tup k1 hm (boot_ty .tup) (ihEs _ _ h.2) (name_bi .tup).1 k2 he (hp _)
        case lst => exact v_of_n (n_lstOf k1 hm (boot_ty .lst) (ihEs _ _ h.2) (name_bi .lst).1 k2 he (hp _)) (fun S d S' e => by
            simp only [evE] at e
            obtain ⟨x, S1, _, e⟩ := bind_ok e
            cases q : biD .lst x with
            | none => rw [q] at e; cases e
            | some y =>
              rw [q] at e; cases e
              exact biD_lst q)
        case srt => exact v_of_n (n_srtOf hu k1 hm (boot_bi .srt ⟨nofun, nofun, nofun⟩) (ihEs _ _ h.2) (name_bi .srt).1 k2 he (hp _)) (fun S d S' e => by
            simp only [evE] at e
            obtain ⟨x, S1, _, e⟩ := bind_ok e
            cases q : biD .srt x with
            | none => rw [q] at e; cases e
            | some y =>
              rw [q] at e; cases e
              exact biD_srt q)
        all_goals exact absurd ⟨(fun z => nomatch z), (fun z => nomatch z), (fun z => nomatch z), (fun z => nomatch z)⟩ hf
    · cases h
  case isi a ts =>
    split at h
    · simp only [Bool.and_eq_true, Bool.not_eq_true'] at h
      obtain ⟨⟨⟨h1, h2⟩, h0⟩, h3⟩ := h
      obtain ⟨e1, k1, k2⟩ := gl_of O h1
      subst e1
      split at h3
      · rename_i t
        simp only [Bool.and_eq_true, decide_eq_true_eq] at h3
        obtain ⟨rfl, h4⟩ := h3
        obtain ⟨n1, n2, n3⟩ := name_ty t
        exact v_isi1 (ihE _ _ h2) k1 (F.bl _ (by decide +kernel)) (glb_of O h4) (F.bl _ n2) (boot_ty t) n1 n3 (star_ne h0) (nostar fun a ha => by rw [List.mem_singleton] at ha; subst ha; rfl) (star_ne rfl)
      · cases h3
    · simp only [Bool.and_eq_true, Bool.not_eq_true', decide_eq_true_eq] at h
      obtain ⟨⟨⟨⟨h1, h2⟩, h0⟩, h3⟩, h4⟩ := h
      obtain ⟨e1, k1, k2⟩ := gl_of O h1
      subst e1
      exact v_isiT (ihE _ _ h2) k1 (F.bl _ (by decide +kernel)) (tys_of O F.bl h3) h4 (star_ne h0) (nostar fun a ha => by rw [List.mem_singleton] at ha; subst ha; rfl)
    · cases h
  case fld a f =>
    split at h
    · simp only [Bool.and_eq_true, decide_eq_true_eq] at h
      obtain ⟨⟨rfl, h1⟩, h2⟩ := h
      exact v_fld (ihE _ _ h2) (plain_base h1) F.cl
    · cases h
  case fldO i f =>
    split at h
    · simp only [Bool.and_eq_true, decide_eq_true_eq] at h
      obtain ⟨rfl, h1⟩ := h
      obtain ⟨g1, g2, g3, g4⟩ := var_of O h1
      exact v_fldO g1 g2 g3 g4 F.cl
    · cases h
  case mk cn f es =>
    split at h
    · simp only [Bool.and_eq_true] at h
      rw [eP] at h
      obtain ⟨h0, h3⟩ := h
      split at h0
      · rename_i y g z np q1 q2
        simp only [Bool.and_eq_true, decide_eq_true_eq] at h0
        obtain ⟨⟨h11, rfl⟩, h13⟩ := h0
        obtain ⟨e1, k1, k2⟩ := gl_of O h11
        subst e1
        obtain ⟨FF, _⟩ := F.fn _ _ _ _ q2
        obtain ⟨C, c1, c2, c3⟩ := F.mkc _ _ _ q1
        have hstar := chkEs_star h3
        exact v_mk c3 FF F.room c1 tk k1 c2 h13 (ihEs _ _ h3) k2 (star_ne (hstar _ (List.mem_cons_self ..))) (nostar fun a ha => hstar a (List.mem_cons_of_mem _ ha))
      · cases h0
    · cases h
  case pop i es =>
    split at h
    · simp only [Bool.and_eq_true, decide_eq_true_eq] at h
      obtain ⟨⟨⟨rfl, h1⟩, h2⟩, h3⟩ := h
      obtain ⟨g1, g2, g3, g4⟩ := var_of O h1
      have hs := chkEs_star h2 _ (List.mem_cons_self ..)
      exact v_pop1 g1 g2 g3 g4 (ihEs _ _ h2) (chkEs_len h2).symm (star_ne hs) h3
    · cases h
  case app i a =>
    split at h
    · simp only [Bool.and_eq_true, decide_eq_true_eq] at h
      rw [Bool.not_eq_true'] at h
      obtain ⟨⟨⟨⟨rfl, h1⟩, h2⟩, h0⟩, h3⟩ := h
      obtain ⟨g1, g2, g3, g4⟩ := var_of O h1
      exact v_app g1 g2 g3 g4 (ihE _ _ h2) (star_ne h0) h3
    · cases h
  case cmpr own ts it cs el =>
    split at h
    · rename_i elt tg iter ifs as scope pos
      rw [Bool.and_eq_true, Bool.and_eq_true, Bool.and_eq_true, Bool.and_eq_true, Bool.and_eq_true, Bool.and_eq_true, Bool.and_eq_true, Bool.and_eq_true, Bool.not_eq_true', decide_eq_true_eq] at h
      obtain ⟨⟨⟨⟨⟨⟨⟨⟨h0, h1⟩, h2⟩, h3⟩, h4⟩, h5⟩, h6⟩, h7⟩, h8⟩ := h
      subst h0
      obtain ⟨b1, b2, b3, b4⟩ := bk_cmpr (W := W) ih eP F O h2 h4 h5 h6
      exact v_of_n (n_cmpr O.calm (by rw [O.N]; exact O.nd) (ih.fI Γ X CT G W it tg iter eP F O tk (enm_of h8) h1) b1 (fun i hi => of_decide_eq_true (List.all_eq_true.mp h3 i hi)) b2 b3 b4 (set_ne h7)) (fun S d S' => cmpr_lst)
    · cases h
end

set_option Elab.async false
set_option linter.all false
set_option maxRecDepth 100000
set_option maxHeartbeats 8000000
open PySem PySem.Spec PyProof.Rows L2

section
variable {P : Prg} {X : Cx} {CT : Nat → Option Addr} {G : Gh} {W : WX} {CF : Nat → List Str} {Φ : Nat → Option OC → List D → FRes} {k : Nat} {FA : Nat → Addr} {FD : Nat → FuncData} {FP : Nat → List Str} {Γ : Gam}
theorem bool_ite {a : Bool} (h : a = true) : (if a = true then BoolOp.And else BoolOp.Or) = .And := by rw [if_pos h]
theorem snd_L {n : Nat} (ih : Snd P CF Φ k FA FD FP n) (Γ : Gam) (X : Cx) (CT : Nat → Option Addr) (G : Gh) (W : WX) (a : Bool) (c : E) (ts : List Expr) (pos : Pos) (eP : Γ.P = P) (F : Facts P X CT CF Φ G.T k FA FD FP) (O : XOk Γ X G.T) (tk : Takes X W) (h : chkL (n + 1) Γ a c ts = true) : PEv X CT G W CF Φ (.BoolOp (if a then .And else .Or) ts pos) c := by
  replace h : stL (ck n) Γ a c ts = true := h
  cases c <;> simp only [stL] at h <;> first | (cases h; done) | skip
  case conj x y =>
    rw [Bool.and_eq_true] at h
    obtain ⟨ha, h⟩ := h
    subst ha
    simp only [if_true]
    split at h
    · simp only [Bool.and_eq_true] at h
      exact v_conj (ih.fE Γ X CT G W _ _ eP F O tk h.1) (v_conj1 (ih.fE Γ X CT G W _ _ eP F O tk h.2))
    · simp only [Bool.and_eq_true] at h
      exact v_conj (ih.fE Γ X CT G W _ _ eP F O tk h.1) (by simpa using ih.fL Γ X CT G W true _ _ _ eP F O tk h.2)
    · cases h
  case disj x y =>
    rw [Bool.and_eq_true, Bool.not_eq_true'] at h
    obtain ⟨ha, h⟩ := h
    subst ha
    simp only [Bool.false_eq_true, if_false]
    split at h
    · simp only [Bool.and_eq_true] at h
      exact v_disj (ih.fE Γ X CT G W _ _ eP F O tk h.1) (v_conj1 (ih.fE Γ X CT G W _ _ eP F O tk h.2))
    · simp only [Bool.and_eq_true] at h
      exact v_disj (ih.fE Γ X CT G W _ _ eP F O tk h.1) (by simpa using ih.fL Γ X CT G W false _ _ _ eP F O tk h.2)
    · cases h
theorem snd_TL {n : Nat} (ih : Snd P CF Φ k FA FD FP n) (Γ : Gam) (X : Cx) (CT : Nat → Option Addr) (G : Gh) (W : WX) (a : Bool) (c : E) (ts : List Expr) (pos : Pos) (eP : Γ.P = P) (F : Facts P X CT CF Φ G.T k FA FD FP) (O : XOk Γ X G.T) (tk : Takes X W) (h : chkTL (n + 1) Γ a c ts = true) : PW X (.BoolOp (if a then .And else .Or) ts pos) (hT X.K CT G W (evT CF Φ c)) := by
  replace h : stTL (ck n) Γ a c ts = true := h
  cases c <;> simp only [stTL] at h <;> first | (cases h; done) | skip
  case conj x y =>
    rw [Bool.and_eq_true] at h
    obtain ⟨ha, h⟩ := h
    subst ha
    simp only [if_true]
    split at h
    · simp only [Bool.and_eq_true] at h
      exact w_conj (ih.fT Γ X CT G W _ _ eP F O tk h.1) (w_conj1 (ih.fT Γ X CT G W _ _ eP F O tk h.2))
    · simp only [Bool.and_eq_true] at h
      exact w_conj (ih.fT Γ X CT G W _ _ eP F O tk h.1) (by simpa using ih.fTL Γ X CT G W true _ _ _ eP F O tk h.2)
    · cases h
  case disj x y =>
    rw [Bool.and_eq_true, Bool.not_eq_true'] at h
    obtain ⟨ha, h⟩ := h
    subst ha
    simp only [Bool.false_eq_true, if_false]
    split at h
    · simp only [Bool.and_eq_true] at h
      exact w_disj (ih.fT Γ X CT G W _ _ eP F O tk h.1) (w_disj1 (ih.fT Γ X CT G W _ _ eP F O tk h.2))
    · simp only [Bool.and_eq_true] at h
      exact w_disj (ih.fT Γ X CT G W _ _ eP F O tk h.1) (by simpa using ih.fTL Γ X CT G W false _ _ _ eP F O tk h.2)
    · cases h
theorem snd_Es {n : Nat} (ih : Snd P CF Φ k FA FD FP n) (Γ : Gam) (X : Cx) (CT : Nat → Option Addr) (G : Gh) (W : WX) (c : Es) (t : List Expr) (eP : Γ.P = P) (F : Facts P X CT CF Φ G.T k FA FD FP) (O : XOk Γ X G.T) (tk : Takes X W) (h : chkEs (n + 1) Γ c t = true) : PAv X CT G W CF Φ t c := by
  replace h : stEs (ck n) Γ c t = true := h
  simp only [stEs] at h
  split at h
  · exact a_nil
  · simp only [Bool.and_eq_true, Bool.not_eq_true'] at h
    exact a_cons (ih.fE Γ X CT G W _ _ eP F O tk h.1.1) (ih.fEs Γ X CT G W _ _ eP F O tk h.2) (star_ne h.1.2)
  · cases h
theorem snd_O {n : Nat} (ih : Snd P CF Φ k FA FD FP n) (Γ : Gam) (X : Cx) (CT : Nat → Option Addr) (G : Gh) (W : WX) (c : E) (t : Option Expr) (eP : Γ.P = P) (F : Facts P X CT CF Φ G.T k FA FD FP) (O : XOk Γ X G.T) (tk : Takes X W) (h : chkO (n + 1) Γ c t = true) : POv X CT G W CF Φ t c := by
  replace h : stO (ck n) Γ c t = true := h
  simp only [stO] at h
  split at h
  · cases c <;> first | exact o_none | (simp [isHole] at h)
  · simp only [Bool.and_eq_true, Bool.not_eq_true'] at h
    refine o_some (ih.fE Γ X CT G W _ _ eP F O tk h.2) fun S => ?_
    have h6 := h.1
    clear h
    cases c <;> first | (simp only [evO]; done) | (simp [isHole] at h6)
theorem snd_T {n : Nat} (ih : Snd P CF Φ k FA FD FP n) (Γ : Gam) (X : Cx) (CT : Nat → Option Addr) (G : Gh) (W : WX) (c : E) (t : Expr) (eP : Γ.P = P) (F : Facts P X CT CF Φ G.T k FA FD FP) (O : XOk Γ X G.T) (tk : Takes X W) (h : chkT (n + 1) Γ c t = true) : PTv X CT G W CF Φ t c := by
  have ihE := fun c t h => ih.fE Γ X CT G W c t eP F O tk h
  have ihT := fun c t h => ih.fT Γ X CT G W c t eP F O tk h
  have hu := F.room.units
  have dflt : ∀ c t, (∀ S, evT CF Φ c S = (evE CF Φ c S).bind fun d S1 => match truD d with | some b => .ok b S1 | none => .stuck) → (!isLogic t && chkE n Γ c t) = true → PTv X CT G W CF Φ t c := fun c t hc h => by
    simp only [Bool.and_eq_true, Bool.not_eq_true'] at h
    exact t_tru (ihE _ _ h.2) (logic_ne h.1) hc
  replace h : stT (ck n) Γ c t = true := h
  cases c <;> simp only [stT] at h <;> first | exact dflt _ _ (fun S => by simp only [evT] <;> rfl) h | skip
  case conj x y =>
    split at h
    · simp only [Bool.and_eq_true] at h
      exact (w_conj (ihT _ _ h.1) (w_conj1 (ihT _ _ h.2))).pt
    · simp only [Bool.and_eq_true] at h
      exact (w_conj (ihT _ _ h.1) (by simpa using ih.fTL Γ X CT G W true _ _ _ eP F O tk h.2)).pt
    · cases h
  case disj x y =>
    split at h
    · simp only [Bool.and_eq_true] at h
      exact (w_disj (ihT _ _ h.1) (w_disj1 (ihT _ _ h.2))).pt
    · simp only [Bool.and_eq_true] at h
      exact (w_disj (ihT _ _ h.1) (by simpa using ih.fTL Γ X CT G W false _ _ _ eP F O tk h.2)).pt
    · cases h
  case not x =>
    split at h
    · exact t_not (ihT _ _ h)
    · cases h
  case cmp o a b =>
    split at h
    · simp only [Bool.and_eq_true, decide_eq_true_eq, Bool.not_eq_true'] at h
      obtain ⟨⟨⟨rfl, h1⟩, h2⟩, h3⟩ := h
      exact t_cmp hu (ihE _ _ h1) (ihE _ _ h2) (mark_ne h3)
    · cases h
  case cmpO o a i =>
    split at h
    · simp only [Bool.and_eq_true, decide_eq_true_eq] at h
      obtain ⟨⟨rfl, h1⟩, h2⟩ := h
      obtain ⟨g1, g2, g3, g4⟩ := var_of O h2
      exact t_cmpO hu (ihE _ _ h1) g1 g2 g3 g4
    · cases h
  case isN ng a =>
    split at h
    · simp only [Bool.and_eq_true, decide_eq_true_eq] at h
      obtain ⟨rfl, h1⟩ := h
      cases ng
      · exact t_isN (ihE _ _ h1)
      · exact t_isNN (ihE _ _ h1)
    · cases h
  case chain o o' a b c =>
    split at h
    · simp only [Bool.and_eq_true, decide_eq_true_eq, Bool.not_eq_true'] at h
      obtain ⟨⟨⟨⟨⟨rfl, rfl⟩, h1⟩, h2⟩, h3⟩, h4⟩ := h
      exact t_chain hu (ihE _ _ h1) (ihE _ _ h2) (ihE _ _ h3) (mark_ne h4)
    · cases h
theorem snd_I {n : Nat} (ih : Snd P CF Φ k FA FD FP n) (Γ : Gam) (X : Cx) (CT : Nat → Option Addr) (G : Gh) (W : WX) (c : E) (tg t : Expr) (eP : Γ.P = P) (F : Facts P X CT CF Φ G.T k FA FD FP) (O : XOk Γ X G.T) (tk : Takes X W) (ht : isTupE tg = true ∨ ∀ a, c ≠ .enm a) (h : chkI (n + 1) Γ c t = true) : PIv X CT G W CF Φ tg t c := by
  have ihE := fun c t h => ih.fE Γ X CT G W c t eP F O tk h
  replace h : stI (ck n) Γ c t = true := h
  cases c <;> simp only [stI] at h <;> first | exact i_val (ihE _ _ h) (fun S => by simp only [evI] <;> rfl) | skip
  case rng es =>
    split at h
    · simp only [Bool.and_eq_true, decide_eq_true_eq] at h
      obtain ⟨⟨h1, h2⟩, h3⟩ := h
      obtain ⟨e1, k1, k2⟩ := gl_of O h1
      subst e1
      have hl := chkEs_len h3
      have hs := chkEs_star h3
      have pa := ih.fEs Γ X CT G W _ _ eP F O tk h3
      have hm := F.bl "range" (by decide +kernel)
      rename_i xs _
      match xs, es, hl, h2, hs, pa with
      | [e], .cons a .nil, _, _, hs, pa => exact i_rng1 k1 hm pa (star_ne (hs e (List.mem_cons_self ..)))
      | [e, f], .cons a (.cons b .nil), _, _, hs, pa => exact i_rng2 k1 hm pa (by rw [star_ne (hs e (List.mem_cons_self ..)), star_ne (hs f (List.mem_cons_of_mem _ (List.mem_cons_self ..)))]; rfl) (star_ne (hs f (List.mem_cons_of_mem _ (List.mem_cons_self ..))))
      | [e], .nil, hl, _, _, _ => simp [eslen] at hl
      | [e], .cons a (.cons b r), hl, _, _, _ => simp [eslen] at hl
      | [e, f], .nil, hl, _, _, _ => simp [eslen] at hl
      | [e, f], .cons a .nil, hl, _, _, _ => simp [eslen] at hl
      | [e, f], .cons a (.cons b (.cons c r)), hl, _, _, _ => simp [eslen] at hl
      | [], _, _, h2, _, _ => simp at h2
      | _ :: _ :: _ :: _, _, _, h2, _, _ => simp at h2
    · cases h
  case enm a =>
    split at h
    · simp only [Bool.and_eq_true, Bool.not_eq_true'] at h
      obtain ⟨⟨h1, h2⟩, h3⟩ := h
      obtain ⟨e1, k1, k2⟩ := gl_of O h1
      subst e1
      rcases ht with ht | ht
      · cases tg <;> first | (simp [isTupE] at ht; done) | skip
        exact i_enum2 k1 (F.bl "enumerate" (by decide +kernel)) (ihE _ _ h2) (star_ne h3)
      · exact absurd rfl (ht a)
    · cases h
theorem snd_0 : Snd P CF Φ k FA FD FP 0 where
  fE := fun _ _ _ _ _ _ _ _ _ _ _ h => nomatch h
  fL := fun _ _ _ _ _ _ _ _ _ _ _ _ _ h => nomatch h
  fEs := fun _ _ _ _ _ _ _ _ _ _ _ h => nomatch h
  fO := fun _ _ _ _ _ _ _ _ _ _ _ h => nomatch h
  fT := fun _ _ _ _ _ _ _ _ _ _ _ h => nomatch h
  fTL := fun _ _ _ _ _ _ _ _ _ _ _ _ _ h => nomatch h
  fI := fun _ _ _ _ _ _ _ _ _ _ _ _ _ h => nomatch h
theorem snd_all : ∀ n m : Nat, m ≤ n → Snd P CF Φ k FA FD FP m
  | 0, m, h => by
    have : m = 0 := Nat.le_zero.mp h
    subst this
    exact snd_0
  | n + 1, m, h => by
    rcases Nat.lt_or_eq_of_le h with h | h
    · exact snd_all n m (Nat.lt_succ_iff.mp h)
    · subst h
      have ihs := snd_all n
      have ih := ihs n (Nat.le_refl n)
      exact ⟨snd_E ih ihs, snd_L ih, snd_Es ih, snd_O ih, snd_T ih, snd_TL ih, snd_I ih⟩
theorem snd (n : Nat) : Snd P CF Φ k FA FD FP n := snd_all n n (Nat.le_refl n)
end

set_option Elab.async false
set_option linter.all false
set_option maxRecDepth 100000
set_option maxHeartbeats 8000000
open PySem PySem.Spec PyProof.Rows L2

section
variable {P : Prg} {X : Cx} {CT : Nat → Option Addr} {G : Gh} {W : WX} {CF : Nat → List Str} {Φ : Nat → Option OC → List D → FRes} {k : Nat} {FA : Nat → Addr} {FD : Nat → FuncData} {FP : Nat → List Str} {Γ : Gam}
/-- a new list -/
theorem snd_N {n : Nat} (Γ : Gam) (X : Cx) (CT : Nat → Option Addr) (G : Gh) (W : WX) (c : E) (t : Expr) (eP : Γ.P = P) (F : Facts P X CT CF Φ G.T k FA FD FP) (O : XOk Γ X G.T) (tk : Takes X W) (hn : isNew c = true) (h : chkE n Γ c t = true) : PE X t (hN CT G W X.K (evE CF Φ c)) := by
  cases n with
  | zero => exact nomatch h
  | succ n =>
  have ih := snd (P := P) (CF := CF) (Φ := Φ) (k := k) (FA := FA) (FD := FD) (FP := FP) n
  have ihE := fun c t h => ih.fE Γ X CT G W c t eP F O tk h
  have ihEs := fun c t h => ih.fEs Γ X CT G W c t eP F O tk h
  cases c <;> first | (simp [isNew] at hn; done) | skip
  case lst es =>
    simp only [chkE, ck, stE] at h
    split at h
    · exact n_lst (ihEs _ _ h)
    · cases h
  case rep a b =>
    simp only [chkE, ck, stE] at h
    split at h
    · simp only [Bool.and_eq_true] at h
      exact n_rep (ihE _ _ h.1) (ihE _ _ h.2)
    · cases h
  case slc a lo hi =>
    simp only [chkE, ck, stE] at h
    split at h
    · simp only [Bool.and_eq_true] at h
      exact n_slc (ihE _ _ h.1.1) (ih.fO Γ X CT G W _ _ eP F O tk h.1.2) (ih.fO Γ X CT G W _ _ eP F O tk h.2)
    · cases h
  case bi f es =>
    have hf : f = .lst := by cases f <;> first | rfl | (simp [isNew] at hn)
    subst hf
    simp only [chkE, ck, stE] at h
    split at h
    · simp only [Bool.and_eq_true] at h
      obtain ⟨e1, k1, k2⟩ := gl_of O h.1
      subst e1
      have hstar := chkEs_star h.2
      rename_i p e xs pos
      exact n_lstOf k1 (F.bl _ (name_bi .lst).2) (boot_ty .lst) (ihEs _ _ h.2) (name_bi .lst).1 k2 (star_ne (hstar e (List.mem_cons_self ..))) (nostar fun a ha => hstar a (List.mem_cons_of_mem _ ha))
    · cases h
  case lrg a =>
    simp only [chkE, ck, stE] at h
    split at h
    · simp only [Bool.and_eq_true, Bool.not_eq_true'] at h
      obtain ⟨⟨⟨h1, h2⟩, h3⟩, h4⟩ := h
      obtain ⟨e1, g1, g2⟩ := gl_of O h1
      obtain ⟨e2, g3, g4⟩ := gl_of O h2
      subst e1 e2
      exact n_lrg O.calm g1 (F.bl _ (by decide +kernel)) g3 (F.bl _ (by decide +kernel)) (ihE _ _ h3) (by rw [star_ne h4]; rfl)
    · cases h
  case cmpr own ts it cs el =>
    simp only [chkE, ck, stE] at h
    split at h
    · rename_i elt tg iter ifs as scope pos
      rw [Bool.and_eq_true, Bool.and_eq_true, Bool.and_eq_true, Bool.and_eq_true, Bool.and_eq_true, Bool.and_eq_true, Bool.and_eq_true, Bool.and_eq_true, Bool.not_eq_true', decide_eq_true_eq] at h
      obtain ⟨⟨⟨⟨⟨⟨⟨⟨h0, h1⟩, h2⟩, h3⟩, h4⟩, h5⟩, h6⟩, h7⟩, h8⟩ := h
      subst h0
      obtain ⟨b1, b2, b3, b4⟩ := bk_cmpr (W := W) ih eP F O h2 h4 h5 h6
      exact n_cmpr O.calm (by rw [O.N]; exact O.nd) (ih.fI Γ X CT G W it tg iter eP F O tk (enm_of h8) h1) b1 (fun i hi => of_decide_eq_true (List.all_eq_true.mp h3 i hi)) b2 b3 b4 (set_ne h7)
    · cases h
theorem swap_comp {elt : Expr} {gs : List Comprehension} {scope : Scope} {pos px : Pos} {t : Str} {l : Nat} {env : Env} : swapsWith (.ListComp elt gs scope pos) (some (.Name t px)) l env =
    pure (env.blockKind == .function && env.kindOf t == some .local && px.line == pos.line && !(scope.names.any fun (n, k) => n == t && (k == .local || k == .cell))) := rfl
/-- a comprehension that a name is given -/
theorem snd_C {n : Nat} {i : Nat} {own : List (Str × Nat)} {ts : List Nat} {it cs el : E} {x : Str} {px pos : Pos} {ex : Expr} (eP : Γ.P = P) (F : Facts P X CT CF Φ G.T k FA FD FP) (O : XOk Γ X G.T) (tk : Takes X W) (hx : Γ.isTgt i x = true) (h : chkE n Γ (.cmpr own ts it cs el) ex = true) :
    PSv X CT G W CF Φ (.Assign [.Name x px] ex pos) (.asgN i (.cmpr own ts it cs el)) := by
  obtain ⟨g1, g2, g3⟩ := tgt_of (pos := px) O hx
  have h' := h
  cases n with
  | zero => exact nomatch h
  | succ n =>
  have ih := snd (P := P) (CF := CF) (Φ := Φ) (k := k) (FA := FA) (FD := FD) (FP := FP) n
  simp only [chkE, ck, stE] at h
  split at h
  · rename_i elt tg iter ifs as scope cpos
    rw [Bool.and_eq_true, Bool.and_eq_true, Bool.and_eq_true, Bool.and_eq_true, Bool.and_eq_true, Bool.and_eq_true, Bool.and_eq_true, Bool.and_eq_true, Bool.not_eq_true', decide_eq_true_eq] at h
    obtain ⟨⟨⟨⟨⟨⟨⟨⟨h0, h1⟩, h2⟩, h3⟩, h4⟩, h5⟩, h6⟩, h7⟩, h8⟩ := h
    subst h0
    obtain ⟨b1, b2, b3, b4⟩ := bk_cmpr (W := W) ih eP F O h2 h4 h5 h6
    cases q : (X.env.blockKind == .function && X.env.kindOf x == some .local && px.line == cpos.line && !(scope.names.any fun (n, k) => n == x && (k == .local || k == .cell))) with
    | true =>
      have hl : X.env.scope.names.lookup x = some .local := by
        simp only [Bool.and_eq_true, beq_iff_eq] at q
        exact q.1.1.2
      exact s_asgC O.calm (by rw [O.N]; exact O.nd) g1 hl (by rw [swap_comp, q]) (ih.fI Γ X CT G W it tg iter eP F O tk (enm_of h8) h1) b1 (fun i hi => of_decide_eq_true (List.all_eq_true.mp h3 i hi)) b2 b3 b4 (set_ne h7)
    | false => exact s_asgN (by rw [O.N]; exact O.nd) g1 g2 g3 (snd_N Γ X CT G W _ _ eP F O tk rfl h') (by rw [swap_comp, q])
  · cases h
theorem sole_eq {t e : Expr} {l : Nat} {env : Env} : swapsWithSole [t] e l env = swapsWith e (some t) l env := by simp only [swapsWithSole]
theorem inst_of {T : List Addr} (O : XOk Γ X T) (eP : Γ.P = P) (XF : XFacts X.K X.mg CT CF P.hn P.hf) (bl : X.mg "isinstance" = none) {i : Nat} {a : Addr} {cls : Value} {d : Option Addr} {oe : Obj} {pn : List (Addr × Obj)} {n x : Str} {t : Expr} (hN : Γ.isVar i n = true) (hz : Zc cls d oe) (hfl : ∃ fv, oe.data = .fields fv)
    (h : instB Γ n x t = true) : PHv X CT G CF i a cls d oe pn t (.inst x) := by
  unfold instB at h
  split at h
  · simp only [Bool.and_eq_true, decide_eq_true_eq, Bool.not_eq_true'] at h
    obtain ⟨⟨⟨⟨⟨h1, rfl⟩, rfl⟩, h4⟩, h5⟩, h6⟩ := h
    obtain ⟨e1, k1, k2⟩ := gl_of O h1
    subst e1
    obtain ⟨g1, g2, g3, g4⟩ := var_of O hN
    exact h_inst XF (by rw [← eP]; exact h6) hz hfl g1 g2 g3 g4 k1 bl (glb_of O h4) h5
  · cases h
theorem ht_of {T : List Addr} (O : XOk Γ X T) (eP : Γ.P = P) (XF : XFacts X.K X.mg CT CF P.hn P.hf) (bl : X.mg "isinstance" = none) {i : Nat} {a : Addr} {cls : Value} {d : Option Addr} {oe : Obj} {pn : List (Addr × Obj)} {n : Str} (hN : Γ.isVar i n = true) (hz : Zc cls d oe) (hfl : ∃ fv, oe.data = .fields fv) :
    ∀ (h : HX) (t : Expr), chkHT Γ n h t = true → PHt X CT G CF i a cls d oe pn t h
  | .inst x, t, h => by
    simp only [chkHT] at h
    refine h_tst (inst_of O eP XF bl hN hz hfl h) ?_
    unfold instB at h
    split at h
    · exact fun _ => rfl
    · cases h
  | .conj p q, t, h => by
    simp only [chkHT] at h
    split at h
    · simp only [Bool.and_eq_true] at h
      exact h_tconj (ht_of O eP XF bl hN hz hfl p _ h.1) (ht_of O eP XF bl hN hz hfl q _ h.2)
    · cases h
  | .str _, _, h => by simp [chkHT] at h
  | .int _, _, h => by simp [chkHT] at h
  | .bl _, _, h => by simp [chkHT] at h
  | .non, _, h => by simp [chkHT] at h
  | .fld _, _, h => by simp [chkHT] at h
  | .tup _, _, h => by simp [chkHT] at h
  | .ite _ _ _, _, h => by simp [chkHT] at h
mutual
theorem hv_of {T : List Addr} (O : XOk Γ X T) (eP : Γ.P = P) (XF : XFacts X.K X.mg CT CF P.hn P.hf) (bl : X.mg "isinstance" = none) {i : Nat} {a : Addr} {cls : Value} {d : Option Addr} {oe : Obj} {pn : List (Addr × Obj)} {n : Str} (hN : Γ.isVar i n = true) (hz : Zc cls d oe) (hfl : ∃ fv, oe.data = .fields fv) :
    ∀ (h : HX) (t : Expr), chkH Γ n h t = true → PHv X CT G CF i a cls d oe pn t h
  | .str s, t, h => by
    simp only [chkH] at h
    split at h
    · cases of_decide_eq_true h; exact h_const (e := .str s) pe_str (fun _ _ _ => by simp only [evH]) fun _ => by simp only [Rep]
    · cases h
  | .int s, t, h => by
    simp only [chkH] at h
    split at h
    · cases of_decide_eq_true h; exact h_const (e := .int s) pe_int (fun _ _ _ => by simp only [evH]) fun _ => by simp only [Rep]
    · cases h
  | .bl s, t, h => by
    simp only [chkH] at h
    split at h
    · cases (beq_iff_eq.mp h); exact h_const (e := .bl s) pe_bl (fun _ _ _ => by simp only [evH]) fun _ => by simp only [Rep]
    · cases h
  | .non, t, h => by
    simp only [chkH] at h
    split at h
    · exact h_const (e := .non) pe_non (fun _ _ _ => by simp only [evH]) fun _ => by simp only [Rep]
    · cases h
  | .fld f, t, h => by
    simp only [chkH] at h
    split at h
    · simp only [Bool.and_eq_true, decide_eq_true_eq] at h
      obtain ⟨⟨rfl, rfl⟩, h3⟩ := h
      obtain ⟨g1, g2, g3, g4⟩ := var_of O hN
      exact h_fld XF (by rw [← eP]; exact h3) hz hfl g1 g2 g3 g4
    · cases h
  | .inst x, t, h => by
    simp only [chkH] at h
    exact inst_of O eP XF bl hN hz hfl h
  | .tup es, t, h => by
    simp only [chkH] at h
    split at h
    · exact h_tup (hvs_of O eP XF bl hN hz hfl es _ h)
    · cases h
  | .conj p q, t, h => by
    simp only [chkH] at h
    split at h
    · simp only [Bool.and_eq_true] at h
      exact h_conj (hv_of O eP XF bl hN hz hfl p _ h.1) (hv_of O eP XF bl hN hz hfl q _ h.2)
    · cases h
  | .ite c p q, t, h => by
    simp only [chkH] at h
    split at h
    · simp only [Bool.and_eq_true] at h
      exact h_ite (ht_of O eP XF bl hN hz hfl c _ h.1.1) (hv_of O eP XF bl hN hz hfl p _ h.1.2) (hv_of O eP XF bl hN hz hfl q _ h.2)
    · cases h
theorem hvs_of {T : List Addr} (O : XOk Γ X T) (eP : Γ.P = P) (XF : XFacts X.K X.mg CT CF P.hn P.hf) (bl : X.mg "isinstance" = none) {i : Nat} {a : Addr} {cls : Value} {d : Option Addr} {oe : Obj} {pn : List (Addr × Obj)} {n : Str} (hN : Γ.isVar i n = true) (hz : Zc cls d oe) (hfl : ∃ fv, oe.data = .fields fv) :
    ∀ (h : HXs) (t : List Expr), chkHs Γ n h t = true → PHa X CT G CF i a cls d oe pn t h
  | .nil, t, h => by
    cases t with
    | nil => exact h_nil
    | cons _ _ => simp [chkHs] at h
  | .cons p r, t, h => by
    cases t with
    | nil => simp [chkHs] at h
    | cons e es =>
      simp only [chkHs, Bool.and_eq_true, Bool.not_eq_true'] at h
      exact h_cons (hv_of O eP XF bl hN hz hfl p _ h.1.1) (hvs_of O eP XF bl hN hz hfl r _ h.2) (star_ne h.1.2)
end
theorem hdv_of {T : List Addr} (O : XOk Γ X T) (eP : Γ.P = P) (XF : XFacts X.K X.mg CT CF P.hn P.hf) (bl : X.mg "isinstance" = none) : ∀ (hs : List (Str × Nat × HX)) (hds : List ExceptHandler), chkHd Γ hs hds = true → ∃ l, HdV X CT G CF hds hs l
  | hs, hds, h => by
    unfold chkHd at h
    split at h
    · exact ⟨[], .nil⟩
    · rename_i q hs x np n t rp ps hds
      simp only [Bool.and_eq_true, decide_eq_true_eq, Bool.not_eq_true'] at h
      obtain ⟨⟨⟨⟨⟨⟨⟨e1, h2⟩, h3⟩, h4⟩, h5⟩, h6⟩, h7⟩, h8⟩ := h
      obtain ⟨l, ih⟩ := hdv_of O eP XF bl hs hds h8
      obtain ⟨x', i, hx⟩ := q
      have e1 : x' = x := e1
      subst e1
      obtain ⟨c, nc, k⟩ := XF.nm x' (by rw [← eP]; exact h4)
      obtain ⟨g1, _, _, _⟩ := var_of O h5
      exact ⟨_, .cons nc (glb_of O h2) h3 (fun cn C lo up ct => (k cn C lo up ct).1) g1 (by show X.env.scope.names.lookup n = _; rw [O.sc]; exact lcl_of h6) (fun a oe cls d pn z f => hv_of O eP XF bl h5 z f hx t h7) ih⟩
    · cases h
theorem Facts.tr {T : List Addr} {pn : List (Addr × Obj)} {xe : Value → Shared → Prop} (F : Facts P X CT CF Φ T k FA FD FP) : Facts P (X.tr pn xe) CT CF Φ T k FA FD FP :=
  ⟨F.room, fun f x io np h => ⟨⟨(F.fn f x io np h).1.kp, (F.fn f x io np h).1.bd, (F.fn f x io np h).1.ok⟩, (F.fn f x io np h).2⟩, F.mkc, F.bl, F.fv1, F.fv2, F.k1, F.xc, F.xf, F.ar, F.gl, F.cl⟩
theorem XOk.tr {T : List Addr} {pn : List (Addr × Obj)} {xe : Value → Shared → Prop} (O : XOk Γ X T) : XOk Γ (X.tr pn xe) T := ⟨O.N, O.nd, O.sc, O.fa, O.calm, O.stk, O.frm, O.code⟩
variable (P CF Φ k FA FD FP) in
structure SndB (n : Nat) : Prop where
  fB : ∀ (Γ : Gam) (X : Cx) (CT : Nat → Option Addr) (G : Gh) (W : WX) (b : B) (st : Stmt), Γ.P = P → Facts P X CT CF Φ G.T k FA FD FP → XOk Γ X G.T → Takes X W → PassesOwn (model X.prog X.w) X.A X.env X.xe → chkB n Γ b st = true → PSv X CT G W CF Φ st b
  fBs : ∀ (Γ : Gam) (X : Cx) (CT : Nat → Option Addr) (G : Gh) (W : WX) (b : Bs) (sts : List Stmt), Γ.P = P → Facts P X CT CF Φ G.T k FA FD FP → XOk Γ X G.T → Takes X W → PassesOwn (model X.prog X.w) X.A X.env X.xe → chkBs n Γ b sts = true → PBv X CT G W CF Φ sts b
theorem sndB : ∀ n : Nat, SndB P CF Φ k FA FD FP n
  | 0 => ⟨fun _ _ _ _ _ _ _ _ _ _ _ _ h => (nomatch h), fun _ _ _ _ _ _ _ _ _ _ _ _ h => (nomatch h)⟩
  | n + 1 => by
    have ihB := sndB n
    have ih := snd (P := P) (CF := CF) (Φ := Φ) (k := k) (FA := FA) (FD := FD) (FP := FP) n
    refine ⟨fun Γ X CT G W b st eP F O tk ps h => ?_, fun Γ X CT G W b sts eP F O tk ps h => ?_⟩
    · have ihE := fun c t h => ih.fE Γ X CT G W c t eP F O tk h
      have hND : X.N.Nodup := by rw [O.N]; exact O.nd
      replace h : stB n (ckB n) Γ b st = true := h
      cases b <;> simp only [stB] at h <;> first | (cases h; done) | skip
      case asg i e =>
        split at h
        · simp only [Bool.and_eq_true, Bool.not_eq_true'] at h
          obtain ⟨g1, g2, g3⟩ := tgt_of (pos := ⟨0, 0, 0, 0⟩) O h.1.1
          exact s_asg hND g1 g2 g3 (ihE _ _ h.1.2) (comp_ne h.2)
        · cases h
      case aug i o e =>
        split at h
        · simp only [Bool.and_eq_true] at h
          obtain ⟨⟨h1, h2⟩, h3⟩ := h
          obtain ⟨g1, g2, g3⟩ := tgt_of (pos := ⟨0, 0, 0, 0⟩) O h1
          refine s_aug hND g1 g2 g3 (ihE _ _ h2) ?_
          split at h3
          · exact .inl ⟨rfl, rfl⟩
          · exact .inr ⟨rfl, rfl⟩
          · cases h3
        · cases h
      case asgN i e =>
        split at h
        · simp only [Bool.and_eq_true] at h
          obtain ⟨⟨h1, h2⟩, h3⟩ := h
          obtain ⟨g1, g2, g3⟩ := tgt_of (pos := ⟨0, 0, 0, 0⟩) O h1
          cases e <;> first | (simp [isNew] at h2; done) | skip
          case cmpr own ts it cs el => exact snd_C eP F O tk h1 h3
          all_goals
            refine s_asgN hND g1 g2 g3 (snd_N Γ X CT G W _ _ eP F O tk h2 h3) (comp_ne ?_)
            cases n with
            | zero => exact nomatch h3
            | succ n =>
              simp only [chkE, ck, stE] at h3
              split at h3 <;> first | rfl | (cases h3)
        · cases h
      case unp ts e =>
        split at h
        · simp only [Bool.and_eq_true, Bool.not_eq_true'] at h
          obtain ⟨⟨⟨⟨h1, h2⟩, h3⟩, h4⟩, h5⟩ := h
          rename_i tg ex pos
          cases tg <;> first | (simp [isTupE] at h1; done) | skip
          exact s_unp (pg_of O h2) (ihE _ _ h3) (by rw [sole_eq]; exact comp_ne h5) (by cases ex <;> first | rfl | (simp [isTupE] at h4)) (by rfl)
        · cases h
      case six i ix e =>
        split at h
        · simp only [Bool.and_eq_true, Bool.not_eq_true'] at h
          obtain ⟨⟨⟨⟨h1, h2⟩, h3⟩, h4⟩, h5⟩ := h
          obtain ⟨g1, g2, g3, g4⟩ := var_of O h1
          rename_i x p ei p2 ex pos
          exact s_six g1 g2 g3 g4 (ihE _ _ h2) (ihE _ _ h4) (by rw [sole_eq]; exact comp_ne h5) (by rfl) (fun v => by cases ei <;> first | rfl | (simp [isSlice] at h3)) (by rfl)
        · cases h
      case sfl i f e =>
        split at h
        · simp only [Bool.and_eq_true, Bool.not_eq_true', decide_eq_true_eq] at h
          obtain ⟨⟨⟨h1, rfl⟩, h3⟩, h4⟩ := h
          obtain ⟨g1, g2, g3, g4⟩ := var_of O h1
          exact s_sfl g1 g2 g3 g4 (ihE _ _ h3) F.cl (comp_ne h4)
        · cases h
      case exp e =>
        split at h
        · simp only [Bool.and_eq_true, Bool.not_eq_true'] at h
          exact s_exp (ihE _ _ h.1) (comp_ne h.2)
        · cases h
      case iff c a b =>
        split at h
        · simp only [Bool.and_eq_true] at h
          exact s_iff (ih.fT Γ X CT G W _ _ eP F O tk h.1.1) (ihB.fBs Γ X CT G W _ _ eP F O tk ps h.1.2) (ihB.fBs Γ X CT G W _ _ eP F O tk ps h.2)
        · cases h
      case «for» ts it b =>
        split at h
        · rw [Bool.and_eq_true, Bool.and_eq_true, Bool.and_eq_true, Bool.and_eq_true, Bool.not_eq_true'] at h
          obtain ⟨⟨⟨⟨h1, h2⟩, h3⟩, h4⟩, h5⟩ := h
          exact s_for ps O.calm (ih.fI Γ X CT G W _ _ _ eP F O tk (enm_of h4) h2) (pg_of O h1) (ihB.fBs Γ X CT G W _ _ eP F O tk ps h5) (set_ne h3)
        · cases h
      case brk =>
        split at h
        · exact s_brk
        · cases h
      case cnt =>
        split at h
        · exact s_cnt
        · cases h
      case pas =>
        split at h
        · exact s_pas
        · cases h
      case ret e =>
        split at h
        · exact s_ret (ihE _ _ h)
        · cases h
      case retN =>
        split at h
        · exact s_retN
        · cases h
      case rse cn fs es =>
        split at h
        · rw [Bool.and_eq_true, eP] at h
          obtain ⟨h1, h2⟩ := h
          split at h1
          · rename_i y f gs q
            simp only [Bool.and_eq_true, decide_eq_true_eq] at h1
            obtain ⟨⟨⟨g0, g1⟩, rfl⟩, g3⟩ := h1
            obtain ⟨e1, k1, k2⟩ := gl_of O g1
            subst e1
            obtain ⟨C, XY⟩ := F.xc _ _ _ _ q
            have XX := XY.1 g3
            rw [show 500 + (cn - 500) = cn by omega] at XX
            have hstar := chkEs_star h2
            exact s_rse XX O.calm (F.room.mono (by have := F.k1; omega)) tk k1 (ih.fEs Γ X CT G W _ _ eP F O tk h2) k2 (star_ne (hstar _ (List.mem_cons_self ..))) (nostar fun a ha => hstar a (List.mem_cons_of_mem _ ha))
          · cases h1
        · cases h
      case rsp cn es =>
        split at h
        · rw [Bool.and_eq_true, eP] at h
          obtain ⟨h1, h2⟩ := h
          split at h1
          · rename_i y f gs q
            simp only [Bool.and_eq_true, decide_eq_true_eq] at h1
            obtain ⟨⟨g0, g1⟩, g3⟩ := h1
            obtain ⟨e1, k1, k2⟩ := gl_of O g1
            subst e1
            obtain ⟨C, XY⟩ := F.xc _ _ _ _ q
            have XX := XY.2 g3
            rw [show 500 + (cn - 500) = cn by omega] at XX
            have hstar := chkEs_star h2
            exact s_rsp XX O.calm tk k1 (ih.fEs Γ X CT G W _ _ eP F O tk h2) k2 (star_ne (hstar _ (List.mem_cons_self ..))) (nostar fun a ha => hstar a (List.mem_cons_of_mem _ ha))
          · cases h1
        · cases h
      case tri b hs =>
        split at h
        · rename_i body hd1 hds pos
          rw [Bool.and_eq_true, Bool.and_eq_true] at h
          obtain ⟨⟨h1, h2⟩, h3⟩ := h
          obtain ⟨l, hh⟩ := hdv_of (G := G) O eP F.xf (F.bl _ (by decide +kernel)) hs _ h3
          exact s_tri (O.stk h1) (O.frm h1) hND tk (fun W pn xe t ps => ihB.fBs Γ (X.tr pn xe) CT G W _ _ eP F.tr O.tr t ps h2) hh
        · cases h
      case retL e =>
        split at h
        · rw [Bool.and_eq_true] at h
          exact s_retL (snd_N Γ X CT G W _ _ eP F O tk h.1 h.2)
        · cases h
      case asgF i f es =>
        split at h
        · rw [Bool.and_eq_true, Bool.and_eq_true, eP] at h
          obtain ⟨⟨h1, h2⟩, h3⟩ := h
          obtain ⟨g1, g2, g3⟩ := tgt_of (pos := ⟨0, 0, 0, 0⟩) O h1
          split at h2
          · rename_i z np q
            simp only [Bool.and_eq_true, Bool.not_eq_true', decide_eq_true_eq, decide_eq_false_iff_not] at h2
            obtain ⟨⟨q1, q2⟩, q3⟩ := h2
            obtain ⟨e1, k1, k2⟩ := gl_of O q1
            subst e1
            obtain ⟨FF, hm⟩ := F.fn _ _ _ _ q
            have hstar := chkEs_star h3
            exact s_asgF hND g1 g2 g3 FF (F.room.mono (Nat.le_succ _)) tk k1 (hm q2) q3 (ih.fEs Γ X CT G W _ _ eP F O tk h3) k2 (star_ne (hstar _ (List.mem_cons_self ..))) (nostar fun a ha => hstar a (List.mem_cons_of_mem _ ha)) (comp_ne rfl)
          · cases h2
        · cases h
    · replace h : stBs n (ckB n) Γ b sts = true := h
      simp only [stBs] at h
      split at h
      · exact b_nil
      · simp only [Bool.and_eq_true] at h
        exact b_cons (ihB.fB Γ X CT G W _ _ eP F O tk ps h.1) (ihB.fBs Γ X CT G W _ _ eP F O tk ps h.2)
      · cases h
end

/-! ### defs -/
def finD (io : Bool) (r : RS) : FRes :=
  match io, r with
  | false, .nx _ => .ret .non none
  | false, .rt d _ => .ret d none
  | false, .rtN xs _ => .retN xs
  | false, .exc c fn vs _ => .exc c fn vs none
  | true, .nx S => match S[(0 : Nat)]? with | some (SD.own false o) => .ret .non (some o) | _ => .stuck
  | true, .rt d S => match S[(0 : Nat)]? with | some (SD.own false o) => .ret d (some o) | _ => .stuck
  | true, .exc c fn vs S => match S[(0 : Nat)]? with | some (SD.own false o) => .exc c fn vs (some o) | _ => .stuck
  | _, _ => .stuck
/-- the slots at a def's entry -/
def startS (n : Nat) (o : Option OC) (ds : List D) : List SD :=
  match o with
  | none => ds.map .val ++ List.replicate (n - ds.length) .un
  | some o => .own false o :: ds.map .val ++ List.replicate (n - (ds.length + 1)) .un
def runD (CF : Nat → List Str) (Φ : Nat → Option OC → List D → FRes) (io : Bool) (n : Nat) (body : Bs) (o : Option OC) (ds : List D) : FRes := finD io (evBs CF Φ body (startS n o ds))
section
variable {K : PySem.W.Frag} {CT : Nat → Option Addr} {T : List Addr} {F H : Hp}
theorem get_map_val {ds : List D} {m i : Nat} {d : D} (h : (ds.map SD.val ++ List.replicate m SD.un)[i]? = some (SD.val d)) : ds[i]? = some d := by
  by_cases hi : i < ds.length
  · rw [List.getElem?_append_left (by simpa using hi), List.getElem?_map] at h
    cases q : ds[i]? with
    | none => rw [q] at h; cases h
    | some x => rw [q] at h; cases h; rfl
  · rw [List.getElem?_append_right (by simpa using Nat.le_of_not_lt hi)] at h
    have := List.mem_of_getElem? h
    rw [List.mem_replicate] at this
    cases this.2
theorem no_own {ds : List D} {m i : Nat} {fz : Bool} {o : OC} (h : (ds.map SD.val ++ List.replicate m SD.un)[i]? = some (SD.own fz o)) : False := by
  have := List.mem_of_getElem? h
  rcases List.mem_append.mp this with q | q
  · obtain ⟨x, _, e⟩ := List.mem_map.mp q; cases e
  · rw [List.mem_replicate] at q; cases q.2
theorem start_get {N : List Str} {vs : List V} {i : Nat} {v : V} (h : vs[i]? = some v) : (start N vs)[i]? = some (some v) := by
  unfold L2.start
  rw [List.getElem?_append_left (by simpa using (List.getElem?_eq_some_iff.mp h).1), List.getElem?_map, h]; rfl
theorem start_len {N : List Str} {vs : List V} (h : vs.length ≤ N.length) : (start N vs).length = N.length := by
  unfold L2.start
  rw [List.length_append, List.length_map, List.length_replicate]; omega
theorem sr_start {N : List Str} {vs : List V} {ds : List D} (e : Same F H) (hT : ∀ P ∈ T, TabV H P ∧ F P = none) (r : Reps K CT F ds vs) (hl : vs.length ≤ N.length) : SR K CT ⟨H, F, none, T⟩ (startS N.length none ds) F (start N vs) H where
  len := by
    rw [start_len hl]
    simp only [startS, List.length_append, List.length_map, List.length_replicate, r.length]; omega
  sub := e
  val := fun i d h => by
    obtain ⟨v, h1, h2⟩ := r.get (get_map_val h)
    exact ⟨v, start_get h1, h2⟩
  own := fun i fz o h => (no_own h).elim
  inj := fun i j a fz o fz' o' h => (no_own h).elim
  keep := fun b o h _ _ => h
  iot := fun a h => nomatch h
  tab := fun P h => (hT P h).1
  tabF := fun P h => (hT P h).2
  frz := fun b h _ => h
  F0 := Same.refl F
theorem sr_startO {N : List Str} {vs : List V} {ds : List D} {a : Addr} {o : OC} (e : Same F H) (hT : ∀ P ∈ T, TabV H P ∧ F P = none) (ho : Own K CT F H a o) (r : Reps K CT F ds vs) (hl : vs.length + 1 ≤ N.length) : SR K CT ⟨H, F, some a, T⟩ (startS N.length (some o) ds) F (start N (.ref a :: vs)) H where
  len := by
    rw [start_len (by simpa using hl)]
    simp only [startS, List.length_append, List.length_cons, List.length_map, List.length_replicate, r.length]; omega
  sub := e
  val := fun i d h => by
    cases i with
    | zero => simp [startS] at h
    | succ i =>
      have h' : (ds.map SD.val ++ List.replicate (N.length - (ds.length + 1)) SD.un)[i]? = some (SD.val d) := h
      obtain ⟨v, h1, h2⟩ := r.get (get_map_val h')
      exact ⟨v, start_get (i := i + 1) h1, h2⟩
  own := fun i fz o' h => by
    cases i with
    | zero =>
      simp only [startS, List.cons_append, List.getElem?_cons_zero, Option.some.injEq, SD.own.injEq] at h
      obtain ⟨rfl, rfl⟩ := h
      exact ⟨a, start_get (i := 0) rfl, ho, ⟨fun z => Bool.noConfusion z, fun _ => rfl⟩⟩
    | succ i => exact (no_own (show (ds.map SD.val ++ List.replicate (N.length - (ds.length + 1)) SD.un)[i]? = some (SD.own fz o') from h)).elim
  inj := fun i j b fz o' fz' o'' h1 h2 _ _ => by
    cases i with
    | succ i => exact (no_own (show (ds.map SD.val ++ List.replicate (N.length - (ds.length + 1)) SD.un)[i]? = some (SD.own fz o') from h1)).elim
    | zero => cases j with
      | zero => rfl
      | succ j => exact (no_own (show (ds.map SD.val ++ List.replicate (N.length - (ds.length + 1)) SD.un)[j]? = some (SD.own fz' o'') from h2)).elim
  keep := fun b o h _ _ => h
  iot := fun b h => by cases h; exact ho.tracked
  tab := fun P h => (hT P h).1
  tabF := fun P h => (hT P h).2
  frz := fun b h _ => h
  F0 := Same.refl F
theorem SR.toAft {io : Option Addr} {S : List SD} {F' H' : Hp} {σ : L2.St} (I : SR K CT ⟨H, F, io, T⟩ S F' σ H') : Aft T io F H F' H' :=
  ⟨I.F0, I.sub, I.frz, I.keep, I.tab⟩
end
section
variable {PR : Program} {w : World} {K : PySem.W.Frag} {mg : Str → Option Value} {base : Heap} {P : Prg} {CT : Nat → Option Addr} {CF : Nat → List Str} {Φ : Nat → Option OC → List D → FRes} {T : List Addr} {k : Nat} {FA : Nat → Addr} {FD : Nat → FuncData} {FP : Nat → List Str}
/-- what is known of the program, wherever one stands -/
structure Stat (PR : Program) (w : World) (K : PySem.W.Frag) (mg : Str → Option Value) (base : Heap) (P : Prg) (CT : Nat → Option Addr) (CF : Nat → List Str) (FA : Nat → Addr) (FD : Nat → FuncData) (FP : Nat → List Str) : Prop where
  kp : ∀ f x io np, P.fn[f]? = some (x, io, np) → PySem.W.keepIn K (.ref (FA f)) = true ∧ Binds K (FD f) (FP f) [] ∧ (FP f).length = np ∧ (x ≠ Str.empty → mg x = some (.ref (FA f)))
  mkc : ∀ cn y f, P.cls[cn]? = some (y, f) → ∃ C, CT cn = some C ∧ mg y = some (.ref C) ∧ Mk K C (FA f)
  bl : ∀ x ∈ bis, mg x = none
  fv1 : ∀ f x io np, P.fn[f]? = some (x, io, np) → CT (1000 + f) = some (FA f)
  fv2 : ∀ c a, 1000 ≤ c → CT c = some a → a = FA (c - 1000) ∧ ∃ q, P.fn[c - 1000]? = some q
  xc : ∀ i y f fs, P.exc[i]? = some (y, f, fs) → ∃ C, XA PR w K mg base CT (500 + i) y C (FA f) (FD f) fs
  xf : XFacts K mg CT CF P.hn P.hf
  gl : ∀ x d, P.gl.lookup x = some d → (∀ i, d = .int i → ∃ u, mg x = some u ∧ RelV (.int i) u) ∧ (∀ s, d = .str s → ∃ u, mg x = some u ∧ RelV (.str s) u)
  cl : ∀ c C g, c < 500 → CT c = some C → g ∈ CF c → Cls K C ∧ NoAttr K C g
/-- all defs hold what Φ says -/
def AllOk (PR : Program) (w : World) (K : PySem.W.Frag) (mg : Str → Option Value) (base : Heap) (P : Prg) (CT : Nat → Option Addr) (Φ : Nat → Option OC → List D → FRes) (T : List Addr) (k : Nat) (FA : Nat → Addr) (FD : Nat → FuncData) (FP : Nat → List Str) : Prop :=
  ∀ f x io np, P.fn[f]? = some (x, io, np) → FnOk PR w K mg base (L2.CX PR w) k (FA f) (FD f) (FP f) (spF K CT T (Φ f) io np)
/-- a def of the text: its promise by its body, its code known -/
theorem funD_okC {K : PySem.W.Frag} {x qual : Str} {params : Arguments} {body : List Stmt} {scope : Scope} {dvs : List V} {kws : List (Str × V)} {f : Addr} {fd : FuncData} {CX : CXT} {N ps : List Str} {k : Nat} {sp : Sp}
    (F : FunD K x qual params body scope dvs kws f fd) (S : FnScope N ps scope) (len : ∀ (vs : List V) (H : Hp) (Q : VK) (E : XK), sp vs H Q E → vs.length = ps.length)
    (hb : ∀ (cdv : Value), fd.code = cdv → ∀ (A : Around) (outer : List Env) (s : Shared) (H : Hp) (vs : List V) (Q : VK) (E : XK), Room k (A.deeper (envOfC qual scope s.heap.objs.size f cdv)) → sp vs H Q E →
      ∃ t, PSs (cxOf CX PR w K mg base N qual scope f cdv A outer s H E) body t ∧ t { nx := fun _ H' => Q .non H', rt := Q } (start N vs) H) :
    FnOk PR w K mg base CX (k + 1) f fd ps sp := by
  obtain ⟨oc, od, dV, kV, doc, pm, an, cdv, ct, osl, rfl, lk, hcd, _, _⟩ := F.ex
  exact fn_of lk hcd S len fun A outer s H vs Q E hr hsp => hb cdv rfl A outer s H vs Q E hr hsp
/-- the __init__ of an exception with fields -/
theorem xinit_ok {K : PySem.W.Frag} {x qual : Str} {params : Arguments} {body : List Stmt} {scope : Scope} {f : Addr} {fd : FuncData} {fs : List Str}
    (F : FunD K x qual params body scope [] [] f fd) (S : FnScope (("self" : Str) :: fs) (("self" : Str) :: fs) scope) (h : chkXI fs body = true) (hne : fs ≠ []) :
    FnOk PR w K mg base (L2.CX PR w) 1 f fd (("self" : Str) :: fs) (spX K fs) := by
  refine funD_okC F S (fun vs H Q E z => ?_) fun cdv _ A outer s H vs Q E _ z => ?_
  · obtain ⟨a, C, ws, rfl, hl, _⟩ := z
    rw [List.length_cons, List.length_cons, hl]
  · obtain ⟨a, C, ws, rfl, hl, h8, T, hf, hA, q⟩ := z
    have vis : ∀ y ∈ (("self" : Str) :: fs), Vis scope y := fun y hy => (S.par y hy).elim (fun e => .inl e) (fun e => .inr (.inl e))
    refine ⟨_, xi_body (X := cxOf (L2.CX PR w) PR w K mg base (("self" : Str) :: fs) qual scope f cdv A outer s H E) rfl (vis _ List.mem_cons_self) fs 1 body (fun j g e => ⟨?_, vis g (List.mem_cons_of_mem _ (List.mem_of_getElem? e))⟩) h, ?_⟩
    · rw [Nat.add_comm]; exact e
    · have st : ∀ (j : Nat) w, ws[j]? = some w → (start (("self" : Str) :: fs) (.ref a :: ws))[1 + j]? = some (some w) := fun j w e => start_get (i := 1 + j) (by rw [Nat.add_comm]; exact e)
      exact xi_read T (start_get (i := 0) rfl) hA fs ws 1 [] H hl hf st (by simp; omega) (.inl ⟨rfl, rfl⟩) (.inl hne) fun dx H'' h1 h2 h3 h4 h5 => q dx H'' h1 h2 h3 h4 h5
/-- a def of the text -/
theorem def_ok {f : Addr} {fd : FuncData} {x qual : Str} {st : Stmt} {N ps : List Str} {io : Bool} {body : Bs} {n : Nat} (S : Stat PR w K mg base P CT CF FA FD FP) (A : AllOk PR w K mg base P CT Φ T k FA FD FP) (Fn : FunD K x qual (defArgs st) (defBody st) (defScope st) [] [] f fd) (sc : FnScope N ps (defScope st)) (k1 : 1 ≤ k) (ar : ∀ f ds, Φ f none ds ≠ .stuck → ∃ x, P.fn[f]? = some (x, false, ds.length)) {tb : Bool} (htb' : tb = true → ∃ c P', fd.code = .ref c ∧ GxR.TabB base mg c P' ∧ P' ∈ T) (h : chkBs n ⟨{ P with tb := tb }, N, defScope st, true⟩ body (defBody st) = true) :
    FnOk PR w K mg base (L2.CX PR w) (k + 2) f fd ps (spF K CT T (runD CF Φ io N.length body) io ps.length) := by
  refine funD_okC Fn sc (fun vs H Q E h => h.1) fun cdv ecd A0 outer s H vs Q E hr hsp => ?_
  have htb : ∀ cdv', fd.code = cdv' → tb = true → ∃ c P', cdv' = .ref c ∧ GxR.TabB base mg c P' ∧ P' ∈ T := fun cdv' e t => by
    obtain ⟨c, P', h1, h2, h3⟩ := htb' t
    exact ⟨c, P', e.symm.trans h1, h2, h3⟩
  have hpl : ps.length ≤ N.length := by have := congrArg List.length sc.pre; rw [List.length_take] at this; omega
  have Fx : ∀ G : Gh, G.T = T → Facts { P with tb := tb } (cxOf (L2.CX PR w) PR w K mg base N qual (defScope st) f cdv A0 outer s H E) CT CF Φ G.T k FA FD FP := fun G eG => by
    rw [eG]
    exact ⟨hr, fun f x io np h => ⟨⟨(S.kp f x io np h).1, (S.kp f x io np h).2.1, A f x io np h⟩, (S.kp f x io np h).2.2.2⟩, S.mkc, S.bl, S.fv1, S.fv2, k1, S.xc, S.xf, ar, S.gl, S.cl⟩
  have Ox : XOk ⟨{ P with tb := tb }, N, defScope st, true⟩ (cxOf (L2.CX PR w) PR w K mg base N qual (defScope st) f cdv A0 outer s H E) T := ⟨rfl, sc.nd, rfl, fun _ _ => rfl, rfl, fun _ => rfl, fun _ => rfl, fun _ t => htb cdv ecd t⟩
  have body_ok : ∀ G : Gh, G.T = T → PBv (cxOf (L2.CX PR w) PR w K mg base N qual (defScope st) f cdv A0 outer s H E) CT G (fun cls d _ H' => E cls d H') CF Φ (defBody st) body := fun G eG =>
    (sndB n).fBs ⟨{ P with tb := tb }, N, defScope st, true⟩ _ CT G _ body _ rfl (Fx G eG) (by rw [eG]; exact Ox) (takes_of rfl rfl rfl rfl) (passes_of rfl) h
  obtain ⟨hlen, F, ds, e, hT, ⟨rfl, r, q⟩ | ⟨rfl, a, o, ws, rfl, ho, r, q⟩⟩ := hsp
  · have I := sr_start (N := N) e hT r (by omega)
    refine ⟨_, body_ok ⟨H, F, none, T⟩ rfl, _, F, I, ?_⟩
    unfold runD at q
    cases ev : evBs CF Φ body (startS N.length none ds) with
    | nx S' => rw [ev] at q; exact fun F' σ' H' _ I' => q F' .non H' I'.toAft (by simp only [Rep])
    | bk S' => rw [ev] at q; exact False.elim (by simpa only [finD, FinF] using q)
    | ct S' => rw [ev] at q; exact False.elim (by simpa only [finD, FinF] using q)
    | rt d S' => rw [ev] at q; exact fun F' v σ' H' _ I' r' => q F' v H' I'.toAft r'
    | rtN xs S' => rw [ev] at q; exact fun F' v σ' H' _ I' ⟨a, us, e, h1, h2, h3, h4, h5, h6⟩ => q F' v H' I'.toAft ⟨a, us, e, h2, h1, h4, h5⟩
    | exc cn fn us S' => rw [ev] at q; exact fun F' σ' H' cls d _ I' x' => q F' H' cls d I'.toAft x'
    | stuck => rw [ev] at q; exact q
  · have I := sr_startO (N := N) e hT ho r (by rw [List.length_cons] at hlen; omega)
    refine ⟨_, body_ok ⟨H, F, some a, T⟩ rfl, _, F, I, ?_⟩
    have own0 : ∀ {S' F' σ' H'} {o' : OC}, SR K CT ⟨H, F, some a, T⟩ S' F' σ' H' → S'[0]? = some (SD.own false o') → Own K CT F' H' a o' := fun {S' F' σ' H' o'} I' hs => by
      obtain ⟨b, _, g2, _, g4⟩ := I'.own 0 false o' hs
      have g5 : some a = some b := g4 rfl
      cases g5
      exact g2
    unfold runD at q
    cases ev : evBs CF Φ body (startS N.length (some o) ds) with
    | nx S' =>
      rw [ev] at q
      simp only [finD] at q
      split at q
      · rename_i o' hs
        exact fun F' σ' H' _ I' => q F' .non H' I'.toAft (own0 I' hs) (by simp only [Rep])
      · exact False.elim q
    | bk S' => rw [ev] at q; exact False.elim (by simpa only [finD, FinF] using q)
    | ct S' => rw [ev] at q; exact False.elim (by simpa only [finD, FinF] using q)
    | rtN xs S' => rw [ev] at q; exact False.elim (by simpa only [finD, FinF] using q)
    | rt d S' =>
      rw [ev] at q
      simp only [finD] at q
      split at q
      · rename_i o' hs
        exact fun F' v σ' H' _ I' r' => q F' v H' I'.toAft (own0 I' hs) r'
      · exact False.elim q
    | exc cn fn us S' =>
      rw [ev] at q
      simp only [finD] at q
      split at q
      · rename_i o' hs
        exact fun F' σ' H' cls d _ I' x' => q F' H' cls d I'.toAft (own0 I' hs) x'
      · exact False.elim q
    | stuck => rw [ev] at q; exact q
end

set_option Elab.async false
set_option linter.all false
set_option maxRecDepth 100000
set_option maxHeartbeats 4000000
open PySem PySem.Spec PyProof.Rows L2

/-- a def of the row, and what it is in the core -/
structure Df where
  at_ : Str × Option Str
  name : Str
  qual : Str
  st : Stmt
  io : Bool
  N : List Str
  ps : List Str
  tb : Bool
  body : Bs
def Df.dd (d : Df) : He.DefD := ⟨d.at_, d.name, d.qual, defArgs d.st, defBody d.st, defScope d.st, [], []⟩
def Df.key (d : Df) : Str := if d.at_.2.isNone then d.name else Str.empty
/-- a row's program -/
structure Src where
  ds : List Df
  cls : List (Str × Nat × List Str)
  gl : List (Str × D)
  exc : List (Str × Nat × List Str)
  hn : List (Str × Bool)
  hf : List Str
  anc : List (List Str)
def Src.prg (S : Src) : Prg := ⟨S.ds.map fun d => (d.key, d.io, d.ps.length), S.cls.map fun c => (c.1, c.2.1), S.gl, false, S.exc, S.hn.map (·.1), S.hf⟩
def Src.CF (S : Src) (c : Nat) : List Str := if 500 ≤ c then S.anc.getD (c - 500) [] else match S.cls[c]? with | some x => x.2.2 | none => []
def Src.CT (S : Src) (K : PySem.W.Frag) (c : Nat) : Option Addr := if 1000 ≤ c then (S.ds[c - 1000]?).map fun d => He.fAd K d.at_ else if 500 ≤ c then (S.exc[c - 500]?).map fun x => He.ga K x.1 else (S.cls[c]?).map fun x => He.ga K x.1
def Src.FA (S : Src) (K : PySem.W.Frag) (f : Nat) : Addr := match S.ds[f]? with | some d => He.fAd K d.at_ | none => 0
def Src.FP (S : Src) (f : Nat) : List Str := match S.ds[f]? with | some d => d.ps | none => []
def glFa (q : Str × D) : Option He.Fa := match q.2 with | .int i => some (.int q.1 i) | .str s => some (.str q.1 s) | _ => none
def exFa (c : Str × Nat × List Str) : List He.Fa := if c.2.2 = [] then [.glo c.1] else .glo c.1 :: .meth c.1 ("__init__" : Str) :: c.2.2.map (.noat c.1)
def Src.fa (S : Src) : List He.Fa := (S.ds.filterMap fun d => if d.at_.2.isNone then some (.glo d.name) else none) ++ (bis.map .free ++ (S.gl.filterMap glFa ++ ((S.cls.flatMap fun c => .glo c.1 :: .cls c.1 :: .mkr c.1 :: c.2.2.map (.noat c.1)) ++ ((S.exc.flatMap exFa) ++ S.hn.map fun q => if q.2 = true then .free q.1 else .glo q.1))))
def Src.fn (S : Src) : List He.DefD := S.ds.map Df.dd
def Src.tf (S : Src) : List He.Defn := S.ds.filterMap fun d => if d.tb then some d.at_ else none
/-- the class that a clause names -/
def nmV (K : PySem.W.Frag) (q : Str × Bool) : Value := if q.2 = true then (match bootBuiltins q.1 with | some v => v | none => .none) else .ref (He.ga K q.1)
def nmB (q : Str × Bool) : Bool := !q.2 || ((match bootBuiltins q.1 with | some (.type _) => true | _ => false) && decide (q.1 ≠ "__name__"))
def exChk (S : Src) (e : Str × Nat × List Str) : Bool := if e.2.2 = [] then true else match S.ds[e.2.1]? with
  | some d => decide (d.at_ = (e.1, some ("__init__" : Str))) && decide (d.N = ("self" : Str) :: e.2.2) && decide (d.ps = ("self" : Str) :: e.2.2) && chkXI e.2.2 (defBody d.st) && decide (e.2.2 ≠ []) && decide (e.2.2.length ≤ 800)
  | none => false
def Src.chk (S : Src) : Bool := decide (S.cls.length ≤ 500) && S.hn.all nmB && (decide (S.exc.length ≤ 500) && ((S.ds.all fun d => !d.at_.2.isNone || decide (d.at_.1 = d.name)) && ((S.cls.all fun c => decide ((S.ds[c.2.1]?).map (·.at_) = some (c.1, some ("__init__" : Str)))) && S.exc.all (exChk S))))
/-- what an exception's class is -/
def xcB (K : PySem.W.Frag) (C : Addr) : Bool := match K.lookup C with
  | some ⟨.type t, _, .cls ⟨_, _, .ref C' :: bm, _, _, true, _, _, _, _, false⟩, sl⟩ => (match sl.toList with | [_, _, _, _, some (.builtin n), _] => decide (n = "ValueError.__new__") | _ => false) && decide (t = "type") && decide (C' = C) && HandSPX.refsVE bm && He.eqO (PySem.W.findIn K (.ref C) "__setattr__") (some (some (.builtin "object.__setattr__"))) && decide (PySem.W.subIn K (.ref C) (.type "BaseException") = some true) && decide (PySem.W.typeIn K (.ref C) = some (.type "type")) && PySem.W.keepIn K (.ref C)
  | _ => false
theorem xcB_ok {K : PySem.W.Frag} {C : Addr} (h : xcB K C = true) : OexC K C := by
  unfold xcB at h
  split at h
  · rename_i t dd nm bs C' bm N q sn sub ab col sl e
    simp only [Bool.and_eq_true, decide_eq_true_eq] at h
    obtain ⟨⟨⟨⟨⟨⟨⟨h1, rfl⟩, rfl⟩, h4⟩, h5⟩, h6⟩, h7⟩, h8⟩ := h
    split at h1
    · rename_i k0 k1 k2 k3 n k5 es
      simp only [decide_eq_true_eq] at h1
      subst h1
      refine ⟨⟨nm, q, N, bs, bm, sn, sub, ab, col, dd, k0, k1, k2, k3, k5, ?_, h4⟩, He.eqO_ok h5, h6, h7, h8⟩
      rw [e]
      have : sl = #[k0, k1, k2, k3, some (.builtin "ValueError.__new__"), k5] := by rw [← es]
      rw [this]
    · cases h1
  · cases h
/-- what clauses ask of an exception's class -/
def xhB (K : PySem.W.Frag) (hn : List (Str × Bool)) (hf anc : List Str) (C : Addr) : Bool :=
  xfB K C && (decide (PySem.W.findIn K (.ref C) "__class__" = some (some (.builtin "object.__class__"))) && (decide (PySem.W.specialIn K (.builtin "object.__class__") "__get__" = some (some (.builtin "getset_descriptor.__get__"))) && (decide (PySem.W.takesIn K (.builtin "object.__class__") = some true) && (decide (PySem.W.mroIn K C (.type "object") = some true) &&
    ((hf.all fun f => decide (PySem.W.findIn K (.ref C) f = some none)) && hn.all fun q => decide (PySem.W.exmOne K (.ref C) (nmV K q) = some (decide (q.1 ∈ anc))) && decide (PySem.W.kitOne K (.ref C) (nmV K q) = some (decide (q.1 ∈ anc))))))))
def xpB (K : PySem.W.Frag) (C : Addr) : Bool := PySem.W.excIn K C [.type "ValueError", .type "Exception", .type "BaseException", .type "object"] "ValueError.__new__" && PySem.W.keepIn K (.ref C) && decide (PySem.W.subIn K (.ref C) (.type "BaseException") = some true) && decide (PySem.W.typeIn K (.ref C) = some (.type "type"))
def Src.ex (S : Src) (K : PySem.W.Frag) : Bool := (S.exc.all fun e => if e.2.2 = [] then xpB K (He.ga K e.1) else xcB K (He.ga K e.1)) && ((List.range S.exc.length).all fun i => match S.exc[i]? with | some e => xhB K S.hn S.hf (S.anc.getD i []) (He.ga K e.1) | none => false)
theorem xhB_ok {K : PySem.W.Frag} {hn : List (Str × Bool)} {hf anc : List Str} {C : Addr} (h : xhB K hn hf anc C = true) : XfC K C ∧ ExcC K C ∧ (∀ f ∈ hf, PySem.W.findIn K (.ref C) f = some none) ∧ ∀ q ∈ hn, PySem.W.exmOne K (.ref C) (nmV K q) = some (decide (q.1 ∈ anc)) ∧ PySem.W.kitOne K (.ref C) (nmV K q) = some (decide (q.1 ∈ anc)) := by
  simp only [xhB, Bool.and_eq_true, decide_eq_true_eq, List.all_eq_true] at h
  obtain ⟨h1, h2, h3, h4, h5, h6, h7⟩ := h
  have x := xfB_ok h1
  exact ⟨x, ⟨x.ga, x.gg, x.exC, x.hdC, h2, h3, h4, h5⟩, h6, h7⟩
/-- what is proved of each def by itself -/
structure Df.Ok (P : Prg) (d : Df) : Prop where
  sc : FnScope d.N d.ps (defScope d.st)
  bd : ∀ (kV doc pm : Value) (an : Option Addr) (cdv ct : Value) (us : List Value), us.length = d.ps.length → bindArgs (PySem.W.fnOf d.name d.qual (defArgs d.st) (defBody d.st) (defScope d.st) .none kV doc pm an cdv ct) ⟨us, []⟩ = pure (d.ps.zip us)
  ck : ∃ n, chkBs n ⟨{ P with tb := d.tb }, d.N, defScope d.st, true⟩ d.body (defBody d.st) = true
/-- the right number of arguments -/
def arOk (d : Df) (b : Bool) (n : Nat) : Bool := (b == d.io) && (n + cond d.io 1 0 == d.ps.length)
/-- the program in the core, calls of depth n at most -/
def Src.run (S : Src) : Nat → Nat → Option OC → List D → FRes
  | 0, _, _, _ => .stuck
  | n + 1, f, o, vs => match S.ds[f]? with | some d => if arOk d o.isSome vs.length = true then runD S.CF (S.run n) d.io d.N.length d.body o vs else .stuck | none => .stuck

section
variable {PR : Program} {w : World} {K : PySem.W.Frag} {mg : Str → Option Value} {base h : Heap} {S : Src} {T : List Addr}
theorem mem_of_lookup {x : Str} {d : D} : ∀ {l : List (Str × D)}, l.lookup x = some d → (x, d) ∈ l
  | [], h => by simp at h
  | (y, e) :: l, h => by
    rw [List.lookup_cons] at h
    split at h
    · rename_i z; have : x = y := by simpa using z
      subst this; cases h; exact List.mem_cons_self
    · exact List.mem_cons_of_mem _ (mem_of_lookup h)
theorem fn_at {f : Nat} {x : Str} {io : Bool} {np : Nat} (q : S.prg.fn[f]? = some (x, io, np)) : ∃ d, S.ds[f]? = some d ∧ x = d.key ∧ io = d.io ∧ np = d.ps.length := by
  have q' : (S.ds.map fun d => (d.key, d.io, d.ps.length))[f]? = some (x, io, np) := q
  rw [List.getElem?_map] at q'
  cases e : S.ds[f]? with
  | none => rw [e] at q'; cases q'
  | some d => rw [e] at q'; cases q'; exact ⟨d, rfl, rfl, rfl, rfl⟩
theorem defs_of {ts : List He.Tab} {tf : List He.Defn} {ex : PySem.W.Frag → Bool} {fa : List He.Fa} (c : He.SaysX fa S.fn ts tf ex w h K) : ∃ FD : Nat → FuncData, ∀ f d, S.ds[f]? = some d → FunD K d.name d.qual (defArgs d.st) (defBody d.st) (defScope d.st) [] [] (S.FA K f) (FD f) := by
  have key : ∀ f, ∃ fd, ∀ d, S.ds[f]? = some d → FunD K d.name d.qual (defArgs d.st) (defBody d.st) (defScope d.st) [] [] (S.FA K f) fd := fun f => by
    cases e : S.ds[f]? with
    | none => exact ⟨default, fun d z => nomatch z⟩
    | some d =>
      obtain ⟨fd, F⟩ := He.SaysD.defs c.t.d (d := d.dd) (List.mem_map_of_mem (List.mem_of_getElem? e))
      refine ⟨fd, fun d' z => ?_⟩
      cases z
      have : S.FA K f = He.fAd K d.at_ := by unfold Src.FA; rw [e]
      rw [this]
      exact F
  exact ⟨fun f => (key f).choose, fun f => (key f).choose_spec⟩
theorem stat_of {ts : List He.Tab} {tf : List He.Defn} {fa : List He.Fa} {FD : Nat → FuncData} (hfa : ∀ x ∈ S.fa, x ∈ fa) (X : K.In h) (G : h.Ns mainGlobals mg) (c : He.SaysX fa S.fn ts tf S.ex w h K) (ck : S.chk = true) (ok : ∀ d ∈ S.ds, d.Ok S.prg)
    (Fn : ∀ f d, S.ds[f]? = some d → FunD K d.name d.qual (defArgs d.st) (defBody d.st) (defScope d.st) [] [] (S.FA K f) (FD f)) : Stat PR w K mg base S.prg (S.CT K) S.CF (S.FA K) FD S.FP := by
  have fact : ∀ x ∈ S.fa, He.Fa.ok K x = true := fun x q => He.SaysD.facts c.t.d (hfa x q)
  simp only [Src.chk, Bool.and_eq_true, List.all_eq_true, Bool.or_eq_true, Bool.not_eq_true', decide_eq_true_eq] at ck
  obtain ⟨⟨ck0, ckn⟩, ck3, ck1, ck2, ck4⟩ := ck
  have lt2 : ∀ {cn : Nat} {x : Str × Nat × List Str}, S.exc[cn]? = some x → cn < 500 := fun e => by have := (List.getElem?_eq_some_iff.mp e).1; omega
  have lt : ∀ {cn : Nat} {x : Str × Nat × List Str}, S.cls[cn]? = some x → ¬ 500 ≤ cn := fun e => by have := (List.getElem?_eq_some_iff.mp e).1; omega
  have xh : ∀ (cn : Nat) (C : Addr), 500 ≤ cn → cn < 1000 → S.CT K cn = some C → ∃ e : Str × Nat × List Str, XfC K C ∧ ExcC K C ∧ (∀ f ∈ S.hf, PySem.W.findIn K (.ref C) f = some none) ∧ ∀ q ∈ S.hn, PySem.W.exmOne K (.ref C) (nmV K q) = some (decide (q.1 ∈ S.anc.getD (cn - 500) [])) ∧ PySem.W.kitOne K (.ref C) (nmV K q) = some (decide (q.1 ∈ S.anc.getD (cn - 500) [])) := fun cn C lo up ct => by
    unfold Src.CT at ct
    rw [if_neg (by omega), if_pos lo] at ct
    cases e : S.exc[cn - 500]? with
    | none => rw [e] at ct; cases ct
    | some x =>
      rw [e] at ct
      cases ct
      have m := c.more
      unfold Src.ex at m
      rw [Bool.and_eq_true] at m
      have m2 := List.all_eq_true.mp m.2 (cn - 500) (List.mem_range.mpr (List.getElem?_eq_some_iff.mp e).1)
      rw [e] at m2
      exact ⟨x, xhB_ok m2⟩
  refine ⟨fun f x io np q => ?_, fun cn y f q => ?_, fun x q => ?_, fun f x io np q => ?_, fun c a h1 h2 => ?_, fun i y f fs q => ?_, ⟨fun cn C lo up ct => ?_, fun x hx => ?_⟩, fun x d q => ?_, fun cn C g hc5 q hg => ?_⟩
  · obtain ⟨d, e, rfl, rfl, rfl⟩ := fn_at q
    have F := Fn f d e
    have O := ok d (List.mem_of_getElem? e)
    have eP : S.FP f = d.ps := by unfold Src.FP; rw [e]
    refine ⟨F.kp, ?_, by rw [eP], fun nx => ?_⟩
    · rw [eP]; exact FunD.bindsN F O.bd
    · have hn : d.at_.2.isNone = true := by
        unfold Df.key at nx
        cases z : d.at_.2.isNone with
        | true => rfl
        | false => rw [z] at nx; exact absurd rfl nx
      have hk : d.key = d.name := by unfold Df.key; rw [hn] <;> rfl
      have h1 := ck1 d (List.mem_of_getElem? e)
      rw [hn] at h1
      have h2 : d.at_.1 = d.name := by rcases h1 with z | z; cases z; exact z
      have h3 : He.Fa.glo d.name ∈ S.fa := List.mem_append_left _ (List.mem_filterMap.mpr ⟨d, List.mem_of_getElem? e, by rw [hn] <;> rfl⟩)
      rw [hk, He.glo_ok X G (fact _ h3)]
      have : S.FA K f = He.ga K d.name := by
        unfold Src.FA; rw [e]
        show He.fAd K d.at_ = _
        unfold He.fAd
        cases z : d.at_.2 with
        | none => show He.ga K d.at_.1 = _; rw [h2]
        | some m => rw [z] at hn; cases hn
      rw [this]
  · have q' : (S.cls.map fun c => (c.1, c.2.1))[cn]? = some (y, f) := q
    rw [List.getElem?_map] at q'
    cases e : S.cls[cn]? with
    | none => rw [e] at q'; cases q'
    | some c =>
      rw [e] at q'; cases q'
      have m := List.mem_of_getElem? e
      have fc : ∀ z, z ∈ (He.Fa.glo c.1 :: He.Fa.cls c.1 :: He.Fa.mkr c.1 :: c.2.2.map (He.Fa.noat c.1)) → He.Fa.ok K z = true := fun z q => fact z (List.mem_append_right _ (List.mem_append_right _ (List.mem_append_right _ (List.mem_append_left _ (List.mem_flatMap.mpr ⟨c, m, q⟩)))))
      refine ⟨He.ga K c.1, by unfold Src.CT; rw [if_neg (by have := lt e; omega), if_neg (lt e), e]; rfl, He.glo_ok X G (fc _ List.mem_cons_self), ?_⟩
      have hm := He.mkr_ok (fc (.mkr c.1) (List.mem_cons_of_mem _ (List.mem_cons_of_mem _ List.mem_cons_self)))
      have h2 := ck2 c m
      cases e2 : S.ds[c.2.1]? with
      | none => rw [e2] at h2; cases h2
      | some d =>
        rw [e2] at h2
        have h3 : d.at_ = (c.1, some ("__init__" : Str)) := by simpa using h2
        have : S.FA K c.2.1 = He.ma K (He.ga K c.1) "__init__" := by unfold Src.FA; rw [e2]; show He.fAd K d.at_ = _; rw [h3]; rfl
        rw [this]; exact hm
  · exact He.free_ok X G (fact (.free x) (List.mem_append_right _ (List.mem_append_left _ (List.mem_map_of_mem q))))
  · obtain ⟨d, e, _, _, _⟩ := fn_at q
    unfold Src.CT Src.FA
    rw [if_pos (Nat.le_add_right _ _), Nat.add_sub_cancel_left, e]
    rfl
  · unfold Src.CT at h2
    rw [if_pos h1] at h2
    unfold Src.FA
    cases e : S.ds[c - 1000]? with
    | none => rw [e] at h2; cases h2
    | some d =>
      rw [e] at h2
      cases h2
      exact ⟨rfl, _, by show (S.ds.map _)[c - 1000]? = _; rw [List.getElem?_map, e]; rfl⟩
  · have q' : S.exc[i]? = some (y, f, fs) := q
    have m := List.mem_of_getElem? q'
    have hi := lt2 q'
    have fc0 : ∀ z, z ∈ exFa (y, f, fs) → He.Fa.ok K z = true := fun z q => fact z (List.mem_append_right _ (List.mem_append_right _ (List.mem_append_right _ (List.mem_append_right _ (List.mem_append_left _ (List.mem_flatMap.mpr ⟨_, m, q⟩))))))
    have ctE : S.CT K (500 + i) = some (He.ga K y) := by unfold Src.CT; rw [if_neg (by omega), if_pos (by omega), Nat.add_sub_cancel_left, q']; rfl
    have xe0 := c.more
    unfold Src.ex at xe0
    rw [Bool.and_eq_true] at xe0
    have xe1 := List.all_eq_true.mp xe0.1 _ m
    have gloE : mg y = some (.ref (He.ga K y)) := He.glo_ok X G (fc0 _ (by unfold exFa; split <;> exact List.mem_cons_self))
    refine ⟨He.ga K y, fun hne => ?_, fun hnil => ?_⟩
    rotate_left
    · rw [if_pos (show (y, f, fs).2.2 = [] from hnil)] at xe1
      unfold xpB at xe1
      simp only [Bool.and_eq_true, decide_eq_true_eq] at xe1
      obtain ⟨⟨⟨x1, x2⟩, x3⟩, x4⟩ := xe1
      exact ⟨ctE, gloE, x1, x2, x3, x4⟩
    have fc : ∀ z, z ∈ (He.Fa.glo y :: He.Fa.meth y ("__init__" : Str) :: fs.map (He.Fa.noat y)) → He.Fa.ok K z = true := fun z q => fc0 z (by unfold exFa; rw [if_neg (show ¬ (y, f, fs).2.2 = [] from hne)]; exact q)
    have h4 := ck4 _ m
    unfold exChk at h4
    rw [if_neg (show ¬ (y, f, fs).2.2 = [] from hne)] at h4
    cases e2 : S.ds[f]? with
    | none => simp only [e2] at h4; cases h4
    | some d =>
      simp only [e2, Bool.and_eq_true, decide_eq_true_eq] at h4
      obtain ⟨⟨⟨⟨⟨h5, h6⟩, h7⟩, h8⟩, h9⟩, h10⟩ := h4
      have eA : S.FA K f = He.ma K (He.ga K y) "__init__" := by unfold Src.FA; rw [e2]; show He.fAd K d.at_ = _; rw [h5]; rfl
      have hm := He.meth_ok (fc (.meth y ("__init__" : Str)) (List.mem_cons_of_mem _ List.mem_cons_self))
      rw [← eA] at hm
      have O := ok d (List.mem_of_getElem? e2)
      have sc := O.sc
      rw [h6, h7] at sc
      have bd := FunD.bindsN (Fn f d e2) O.bd
      rw [h7] at bd
      have xe : xcB K (He.ga K y) = true := by rw [if_neg (show ¬ (y, f, fs).2.2 = [] from hne)] at xe1; exact xe1
      exact ⟨ctE, He.glo_ok X G (fc _ List.mem_cons_self), xcB_ok xe, fun g hg => He.noat_ok (fc (.noat y g) (List.mem_cons_of_mem _ (List.mem_cons_of_mem _ (List.mem_map_of_mem hg)))), hm.at_, beq_iff_eq.mp hm.fn, xinit_ok (Fn f d e2) sc h8 h9, bd, h9, h10⟩
  · obtain ⟨e, z⟩ := xh cn C lo up ct
    exact ⟨z.1, z.2.1, z.2.2.1⟩
  · obtain ⟨p, hp, rfl⟩ := List.mem_map.mp hx
    refine ⟨nmV K p, ?_, fun cn C lo up ct => ?_⟩
    · have hb := ckn p hp
      have fp : (if p.2 = true then He.Fa.free p.1 else He.Fa.glo p.1) ∈ S.fa := List.mem_append_right _ (List.mem_append_right _ (List.mem_append_right _ (List.mem_append_right _ (List.mem_append_right _ (List.mem_map_of_mem hp)))))
      obtain ⟨y, b⟩ := p
      cases b with
      | true =>
        simp only [nmB, Bool.not_true, Bool.false_or, Bool.and_eq_true, decide_eq_true_eq] at hb
        obtain ⟨hb1, hb2⟩ := hb
        have f0 := He.free_ok X G (fact _ fp)
        split at hb1
        · rename_i tt et
          have : nmV K (y, true) = .type tt := by
            unfold nmV
            rw [if_pos rfl]
            simp only [et]
          rw [this]
          exact .bt f0 et hb2
        · cases hb1
      | false => exact .own (He.glo_ok X G (fact _ fp))
    · obtain ⟨e, z⟩ := xh cn C lo up ct
      have eCF : S.CF cn = S.anc.getD (cn - 500) [] := by unfold Src.CF; rw [if_pos lo]
      rw [eCF]
      exact z.2.2.2 p hp
  · have m := mem_of_lookup q
    refine ⟨fun i e => ?_, fun s e => ?_⟩
    · subst e
      obtain ⟨t, h1⟩ := He.int_ok X G (fact (.int x i) (List.mem_append_right _ (List.mem_append_right _ (List.mem_append_left _ (List.mem_filterMap.mpr ⟨_, m, rfl⟩)))))
      exact ⟨_, h1, ⟨t, rfl⟩⟩
    · subst e
      obtain ⟨t, h1⟩ := He.str_ok X G (fact (.str x s) (List.mem_append_right _ (List.mem_append_right _ (List.mem_append_left _ (List.mem_filterMap.mpr ⟨_, m, rfl⟩)))))
      exact ⟨_, h1, ⟨t, rfl⟩⟩
  · unfold Src.CF at hg
    unfold Src.CT at q
    split at hg
    · omega
    · rename_i hc
      rw [if_neg (by omega), if_neg hc] at q
      cases e : S.cls[cn]? with
      | none => rw [e] at q; cases q
      | some c =>
        rw [e] at q hg; cases q
        have m := List.mem_of_getElem? e
        have fc : ∀ z, z ∈ (He.Fa.glo c.1 :: He.Fa.cls c.1 :: He.Fa.mkr c.1 :: c.2.2.map (He.Fa.noat c.1)) → He.Fa.ok K z = true := fun z q => fact z (List.mem_append_right _ (List.mem_append_right _ (List.mem_append_right _ (List.mem_append_left _ (List.mem_flatMap.mpr ⟨c, m, q⟩)))))
        exact ⟨He.cls_ok (fc _ (List.mem_cons_of_mem _ List.mem_cons_self)), He.noat_ok (fc (.noat c.1 g) (List.mem_cons_of_mem _ (List.mem_cons_of_mem _ (List.mem_cons_of_mem _ (List.mem_map_of_mem hg)))))⟩
theorem run_ar {n f : Nat} {ds : List D} (h : S.run n f none ds ≠ .stuck) : ∃ x, S.prg.fn[f]? = some (x, false, ds.length) := by
  cases n with
  | zero => exact absurd rfl h
  | succ n =>
    simp only [Src.run] at h
    cases e : S.ds[f]? with
    | none => rw [e] at h; exact absurd rfl h
    | some d =>
      rw [e] at h
      by_cases q : arOk d (none : Option OC).isSome ds.length = true
      · simp only [arOk, Bool.and_eq_true, beq_iff_eq] at q
        obtain ⟨q1, q2⟩ := q
        have io : d.io = false := q1.symm
        rw [io] at q2
        refine ⟨d.key, ?_⟩
        show (S.ds.map _)[f]? = _
        rw [List.getElem?_map, e]
        show some (d.key, d.io, d.ps.length) = _
        rw [io, ← q2]; rfl
      · exact absurd (if_neg q) h
theorem all_ok {FD : Nat → FuncData} (St : Stat PR w K mg base S.prg (S.CT K) S.CF (S.FA K) FD S.FP) (ok : ∀ d ∈ S.ds, d.Ok S.prg)
    (Fn : ∀ f d, S.ds[f]? = some d → FunD K d.name d.qual (defArgs d.st) (defBody d.st) (defScope d.st) [] [] (S.FA K f) (FD f))
    (tb : ∀ f d, S.ds[f]? = some d → d.tb = true → ∃ c P', (FD f).code = .ref c ∧ GxR.TabB base mg c P' ∧ P' ∈ T) : ∀ n, AllOk PR w K mg base S.prg (S.CT K) (S.run n) T (2 * n + 1) (S.FA K) FD S.FP
  | 0 => fun f x io np q => by
    obtain ⟨d, e, rfl, rfl, rfl⟩ := fn_at q
    have eP : S.FP f = d.ps := by unfold Src.FP; rw [e]
    refine ⟨fun vs H Q E h => by rw [eP]; exact h.1, fun A outer s H args us vs Q E _ _ _ _ h => ?_⟩
    obtain ⟨_, F, ds, _, _, ⟨_, _, z⟩ | ⟨_, a, o, ws, _, _, _, z⟩⟩ := h
    · exact False.elim (by simpa only [Src.run, FinF] using z)
    · exact False.elim (by simpa only [Src.run, FinF] using z)
  | n + 1 => fun f x io np q => by
    obtain ⟨d, e, rfl, rfl, rfl⟩ := fn_at q
    have eP : S.FP f = d.ps := by unfold Src.FP; rw [e]
    obtain ⟨m, hc⟩ := (ok d (List.mem_of_getElem? e)).ck
    have r := def_ok (PR := PR) (w := w) (io := d.io) St (all_ok St ok Fn tb n) (Fn f d e) (ok d (List.mem_of_getElem? e)).sc (by omega) (fun f ds => run_ar) (tb f d e) hc
    rw [eP]
    refine FnOk.imp r fun vs H Q E z => ?_
    have eR : ∀ o ws, S.run (n + 1) f o ws = if arOk d o.isSome ws.length = true then runD S.CF (S.run n) d.io d.N.length d.body o ws else .stuck := fun o ws => by
      simp only [Src.run]
      rw [e]
    obtain ⟨hl, F, ds, h1, h2, ⟨h3, h4, z⟩ | ⟨h3, a, o, ws, h5, h6, h7, z⟩⟩ := z
    · refine ⟨hl, F, ds, h1, h2, .inl ⟨h3, h4, ?_⟩⟩
      rw [eR] at z
      split at z
      · exact z
      · exact False.elim (by simpa only [FinF] using z)
    · refine ⟨hl, F, ds, h1, h2, .inr ⟨h3, a, o, ws, h5, h6, h7, ?_⟩⟩
      rw [eR] at z
      split at z
      · exact z
      · exact False.elim (by simpa only [FinF] using z)
end

set_option Elab.async false
set_option linter.all false
set_option maxRecDepth 100000
set_option maxHeartbeats 4000000
open PySem PySem.Spec PyProof.Rows L2
section
variable {l : PySem.W.OpenLaw} {w : World} {K : PySem.W.Frag} {mg : Str → Option Value} {h : Heap} {S : Src}
theorem reps_ints {K : PySem.W.Frag} {CT : Nat → Option Addr} {F : Hp} : ∀ (ns : List Int), Reps K CT F (ns.map D.int) (ns.map V.int)
  | [] => by simp only [List.map_nil, Reps]
  | n :: ns => by
    simp only [List.map_cons, Reps]
    exact ⟨_, _, rfl, by simp only [Rep], reps_ints ns⟩
theorem hdIn_code {c P : Addr} (z : PySem.W.codeHdIn K c P = true) : PySem.W.codeHdIn K c P = true := z
theorem law_at {ts : List He.Tab} {x : Str} {a : Addr} {n fl : Nat} {d : Df} {most : Nat} (X : K.In h) (G : h.Ns mainGlobals mg) (c : He.SaysX S.fa S.fn ts S.tf S.ex w h K) (ck : S.chk = true) (ok : ∀ d ∈ S.ds, d.Ok S.prg) (hd : S.ds[fl]? = some d) (hps : d.ps = [x]) (hio : d.io = false) (hat : d.at_.2.isNone = true) (hne : d.name ≠ Str.empty) (hmg : mg d.name = some (.ref a))
    (core : ∀ ns : List Int, ns.length ≤ most → (∀ z ∈ ns, Builtin.Int.intBits z ≤ 1048576) → S.run n fl none [.scr (ns.map .int)] = .ret (.bl true) none) : LamX.LawAtS l w K (L2.CX l.prog w) (2 * n + 1) most x mg a h := by
  obtain ⟨FD, Fn⟩ := defs_of c
  have St : ∀ base, Stat l.prog w K mg base S.prg (S.CT K) S.CF (S.FA K) FD S.FP := fun base => stat_of (fun x q => q) X G c ck ok Fn
  have eP : S.FP fl = [x] := by unfold Src.FP; rw [hd]; exact hps
  have q : S.prg.fn[fl]? = some (d.key, d.io, d.ps.length) := by show (S.ds.map _)[fl]? = _; rw [List.getElem?_map, hd]; rfl
  have hk : d.key = d.name := by unfold Df.key; rw [hat] <;> rfl
  have ea : a = S.FA K fl := by
    have := ((St h).kp fl _ _ _ q).2.2.2 (by rw [hk]; exact hne)
    rw [hk, hmg] at this
    cases this; rfl
  subst ea
  refine ⟨FD fl, S.tf.map fun p => He.cT K p, spF K (S.CT K) (S.tf.map fun p => (He.cT K p).2) (S.run n fl) false 1, ?_, ?_, ?_, ?_, ?_, ?_⟩
  · intro p hp
    obtain ⟨t, ht, rfl⟩ := List.mem_map.mp hp
    exact c.empty t ht
  · intro p hp
    obtain ⟨t, ht, rfl⟩ := List.mem_map.mp hp
    exact c.out t ht
  · intro p hp
    obtain ⟨t, ht, rfl⟩ := List.mem_map.mp hp
    exact PySem.W.codeHd_of_K X (c.hd t ht)
  · intro s u
    have b := FunD.bindsA (ps := d.ps) (Fn fl d hd) (ok d (List.mem_of_getElem? hd)).bd s [u] (by rw [hps]; rfl)
    rw [hps] at b
    exact b
  · intro H a ns hl hb ht hS
    refine ⟨rfl, fun b => if b ∈ (S.tf.map fun p => (He.cT K p).2) then none else H b, [.scr (ns.map .int)], fun b o e => ?_, fun P hP => ⟨?_, ?_⟩, .inl ⟨rfl, ?_, ?_⟩⟩
    · show H b = some o
      have e' : (if b ∈ (S.tf.map fun p => (He.cT K p).2) then none else H b) = some o := e
      split at e'
      · cases e'
      · exact e'
    · obtain ⟨t, ht', rfl⟩ := List.mem_map.mp hP
      exact ⟨#[], ht (He.cT K t) (List.mem_map_of_mem ht'), by simp [TriplesOk], fun pos cv hcv => by simp [codeAmong] at hcv⟩
    · show (if P ∈ _ then none else H P) = none
      rw [if_pos hP]
    · simp only [Reps, Rep]
      refine ⟨_, _, rfl, ⟨a, ns.map V.int, rfl, ?_, reps_ints ns⟩, rfl⟩
      have na : ∀ u : HO, (∀ r, u ≠ .tbl r) → H a = some u → (if a ∈ (S.tf.map fun p => (He.cT K p).2) then none else H a) = some u := fun u hu e => by
        by_cases hP : a ∈ (S.tf.map fun p => (He.cT K p).2)
        · obtain ⟨t, ht', et⟩ := List.mem_map.mp hP
          have z := ht (He.cT K t) (List.mem_map_of_mem ht')
          rw [et, e] at z
          cases z
          exact absurd rfl (hu _)
        · rw [if_neg hP]; exact e
      rcases hS with (z | ⟨o, z⟩) | z
      · exact .inl (.inl (na _ (by intro r e; cases e) z))
      · exact .inl (.inr ⟨o, na _ (by intro r e; cases e) z⟩)
      · exact .inr z
    · rw [core ns hl hb]
      simp only [FinF]
      intro F' v H' _ r
      simpa only [Rep] using r
  · intro base Kb Nb hT
    have tb : ∀ f d', S.ds[f]? = some d' → d'.tb = true → ∃ c' P', (FD f).code = .ref c' ∧ GxR.TabB base mg c' P' ∧ P' ∈ (S.tf.map fun p => (He.cT K p).2) := fun f d' e t => by
      have m : d'.at_ ∈ S.tf := List.mem_filterMap.mpr ⟨d', List.mem_of_getElem? e, by rw [if_pos t]⟩
      have z := hT (He.cT K d'.at_) (List.mem_map_of_mem m)
      refine ⟨(He.cT K d'.at_).1, (He.cT K d'.at_).2, ?_, ⟨z.code, z.bm, z.gP⟩, List.mem_map.mpr ⟨_, m, rfl⟩⟩
      obtain ⟨oc, od, dV, kV, doc, pm, an, cdv, ct, osl, efd, lk, hcd, _, _⟩ := (Fn f d' e).ex
      have eA : S.FA K f = He.fAd K d'.at_ := by unfold Src.FA; rw [e]
      rw [eA] at lk
      obtain ⟨c0, ec⟩ := He.codeIn_ref hcd
      have e1 : (FD f).code = cdv := by rw [efd]
      show (FD f).code = .ref (He.codeOf K d'.at_)
      unfold He.codeOf
      rw [lk]
      show (FD f).code = .ref (match (FD f).code with | .ref c => c | _ => 0)
      rw [e1, ec]
    have r := all_ok (St base) ok Fn tb n fl _ _ _ q
    rw [eP, hps, hio] at r
    exact r
end
theorem cx_none {P : Program} (w : World) (H : Hp) (s : Shared) (e : Value) (s' : Shared) : L2.CX P w [] H s (fun _ _ _ => False) e s' → False := by
  rintro ⟨a, B, H', cls, d, _, _, _, _, _, _, _, z⟩
  exact z

set_option linter.all false
set_option maxRecDepth 100000
set_option maxHeartbeats 4000000
open PySem PySem.Spec PyProof.Rows L2

/-! ### runs in small steps: what is left to do is data -/
section
variable (CF : Nat → List Str) (Φ : Nat → Option OC → List D → FRes)

def kCh3 (o2 : COp) (y : D) (c : E) (S : List SD) (k : Option Bool) : Res D := match k with | some true => (evE CF Φ c S).bind fun z S3 => ofB (cmpD o2 y z) S3 | some false => .ok (.bl false) S | none => .stuck
def kCh4 (o2 : COp) (y : D) (r : Res D) : Res D := r.bind fun z S3 => ofB (cmpD o2 y z) S3
def sLoop (ts : List Nat) (b : Bs) (xs : List D) (S : List SD) : RS := loopF (fun x S => match bindT ts x S with | some S2 => evBs CF Φ b S2 | none => .stuck) xs S
def sBody (ts : List Nat) (b : Bs) (x : D) (S : List SD) : RS := match bindT ts x S with | some S2 => evBs CF Φ b S2 | none => .stuck
def kBin (o : BOp) (b : E) (r : Res (D)) : Res D := r.bind fun x S1 => (evE CF Φ b S1).bind fun y S2 => ofO (binD o x y) S2
def kBin2 (o : BOp) (x : D) (r : Res (D)) : Res D := r.bind fun y S2 => ofO (binD o x y) S2
def kNeg  (r : Res (D)) : Res D := r.bind fun x S1 => match x with | .int i => .ok (.int (-i)) S1 | _ => .stuck
def kCmp (o : COp) (b : E) (r : Res (D)) : Res D := r.bind fun x S1 => (evE CF Φ b S1).bind fun y S2 => ofB (cmpD o x y) S2
def kCmp2 (o : COp) (x : D) (r : Res (D)) : Res D := r.bind fun y S2 => ofB (cmpD o x y) S2
def kCmpO (o : COp) (i : Nat) (r : Res (D)) : Res D := r.bind fun x S1 => match peekS S1 i with | some y => ofB (cmpD o x y) S1 | none => .stuck
def kIsN (n : Bool) (r : Res (D)) : Res D := r.bind fun x S1 => .ok (.bl (match x with | .non => !n | _ => n)) S1
def kCh (o o2 : COp) (b c : E) (r : Res (D)) : Res D := r.bind fun x S1 => (evE CF Φ b S1).bind fun y S2 => match cmpD o x y with | some true => (evE CF Φ c S2).bind fun z S3 => ofB (cmpD o2 y z) S3 | some false => .ok (.bl false) S2 | none => .stuck
def kCh2 (o o2 : COp) (x : D) (c : E) (r : Res (D)) : Res D := r.bind fun y S2 => match cmpD o x y with | some true => (evE CF Φ c S2).bind fun z S3 => ofB (cmpD o2 y z) S3 | some false => .ok (.bl false) S2 | none => .stuck
def kConj (b : E) (r : Res (D)) : Res D := r.bind fun x S1 => match x with | .bl true => evE CF Φ b S1 | .bl false => .ok (.bl false) S1 | _ => .stuck
def kDisj (b : E) (r : Res (D)) : Res D := r.bind fun x S1 => match x with | .bl true => .ok (.bl true) S1 | .bl false => evE CF Φ b S1 | _ => .stuck
def kNot  (r : Res (D)) : Res D := r.bind fun x S1 => match x with | .bl b => .ok (.bl (!b)) S1 | _ => .stuck
def kIte (a b : E) (r : Res (Bool)) : Res D := r.bind fun k S1 => if k = true then evE CF Φ a S1 else evE CF Φ b S1
def kTup  (r : Res (List D)) : Res D := r.bind fun ds S1 => if ds.length ≤ cap then .ok (.tup ds) S1 else .stuck
def kLst  (r : Res (List D)) : Res D := r.bind fun ds S1 => if ds.length ≤ cap then .ok (.lst ds) S1 else .stuck
def kDct (ks : List Str) (r : Res (List D)) : Res D := r.bind fun ds S1 => .ok (.dct (ks.map Sum.inr) ds) S1
def kRep (b : E) (r : Res (D)) : Res D := r.bind fun x S1 => (evE CF Φ b S1).bind fun y S2 => match x, y with | .lst ds, .int k => if -(2 ^ 63) ≤ k ∧ k < 2 ^ 63 ∧ ds.length * k.toNat ≤ cap then .ok (.lst (List.replicate k.toNat ds).flatten) S2 else .stuck | _, _ => .stuck
def kRep2 (x : D) (r : Res (D)) : Res D := r.bind fun y S2 => match x, y with | .lst ds, .int k => if -(2 ^ 63) ≤ k ∧ k < 2 ^ 63 ∧ ds.length * k.toNat ≤ cap then .ok (.lst (List.replicate k.toNat ds).flatten) S2 else .stuck | _, _ => .stuck
def kIdx (b : E) (r : Res (D)) : Res D := r.bind fun x S1 => (evE CF Φ b S1).bind fun y S2 => ofO (idxD x y) S2
def kIdx2 (x : D) (r : Res (D)) : Res D := r.bind fun y S2 => ofO (idxD x y) S2
def kIdxO (i : Nat) (r : Res (D)) : Res D := r.bind fun y S1 => match peekS S1 i with | some (.lst xs) => ofO (idxD (.lst xs) y) S1 | _ => .stuck
def kSlV (lo hi : E) (r : Res (D)) : Res D := r.bind fun x S1 => (evO CF Φ lo S1).bind fun l S2 => match optI l with | none => .stuck | some l => (evO CF Φ hi S2).bind fun h S3 => match optI h with | some h => ofO (slvD x l h) S3 | none => .stuck
def kSlV2 (x : D) (hi : E) (r : Res (Option D)) : Res D := r.bind fun l S2 => match optI l with | none => .stuck | some l => (evO CF Φ hi S2).bind fun h S3 => match optI h with | some h => ofO (slvD x l h) S3 | none => .stuck
def kSlV3 (x : D) (l : Option (Option Int)) (r : Res (Option D)) : Res D := match l with | none => .stuck | some l => r.bind fun h S3 => match optI h with | some h => ofO (slvD x l h) S3 | none => .stuck
def kLrg  (r : Res (D)) : Res D := r.bind fun d S1 => match d with | .int n => if -100000 ≤ n ∧ n ≤ 100000 then .ok (.lst ((List.range n.toNat).map fun (k : Nat) => .int (0 + (k : Int)))) S1 else .stuck | _ => .stuck
def kCall (f : Nat) (r : Res (List D)) : Res D := r.bind fun ds S1 => ofF (Φ f none ds) S1
def kCallV (c : Nat) (r : Res (List D)) : Res D := r.bind fun ds S1 => ofF (Φ (c - 1000) none ds) S1
def kCallO (f i : Nat) (r : Res (List D)) : Res D := r.bind fun ds S1 => match S1[i]? with | some (.own fz o) => ofFO (Φ f (some o) ds) i fz S1 | _ => .stuck
def kBi (f : Bi) (r : Res (List D)) : Res D := r.bind fun ds S1 => ofO (biD f ds) S1
def kIsi (ts : List Ty) (r : Res (D)) : Res D := r.bind fun x S1 => match kdD x with | some k => .ok (.bl (ts.any fun t => isiK k t)) S1 | none => .stuck
def kFld (f : Str) (r : Res (D)) : Res D := r.bind fun x S1 => match x with | .obj c fn vs => if c < 500 ∧ f ∈ CF c then ofO ((fn.zip vs).lookup f) S1 else .stuck | _ => .stuck
def kMk (cn f : Nat) (r : Res (List D)) : Res D := r.bind fun ds S1 => match Φ f (some (.ins cn [] [])) ds with | .ret .non (some (.ins c fn vs)) => .ok (.obj c fn vs) S1 | .exc c fn vs (some _) => .exc c fn vs S1 | _ => .stuck
def kPop (i : Nat) (r : Res (List D)) : Res D := r.bind fun ds S1 => match S1[i]?, ds with | some (.own fz (.lst xs)), [.int k] => (if -(2 ^ 63) ≤ k ∧ k < 2 ^ 63 then (match seqIndex? k xs.length with | some j => (match xs[j]? with | some d => .ok d (S1.set i (.own fz (.lst (xs.eraseIdx j)))) | none => .stuck) | none => .stuck) else .stuck) | some (.own fz (.lst xs)), [] => (match xs[xs.length - 1]? with | some d => .ok d (S1.set i (.own fz (.lst xs.dropLast))) | none => .stuck) | _, _ => .stuck
def kApp (i : Nat) (r : Res (D)) : Res D := r.bind fun d S1 => match S1[i]? with | some (.own fz (.lst xs)) => if xs.length < cap then .ok .non (S1.set i (.own fz (.lst (xs ++ [d])))) else .stuck | _ => .stuck
def kGen (all : Bool) (el : PX) (r : Res (D)) : Res D := r.bind fun d S1 => match elmD d with | some xs => (match gnB S1 el xs with | some bs => .ok (.bl (if all then bs.all id else bs.any id)) S1 | none => .stuck) | none => .stuck
def kSrt (el : PX) (r : Res (D)) : Res D := r.bind fun d S1 => match d with | .lst xs => (match keysD S1 el xs with | some ks => if ks.Nodup ∧ xs.length ≤ cap then .ok (.lst ((srtD (ks.zip xs)).map (·.2))) S1 else .stuck | none => .stuck) | _ => .stuck
def kCons (es : Es) (r : Res (D)) : Res (List D) := r.bind fun d S1 => (evEs CF Φ es S1).bind fun ds S2 => .ok (d :: ds) S2
def kCons2 (d : D) (r : Res (List D)) : Res (List D) := r.bind fun ds S2 => .ok (d :: ds) S2
def kSome  (r : Res (D)) : Res (Option D) := r.bind fun d S1 => .ok (some d) S1
def kTr  (r : Res (D)) : Res Bool := r.bind fun d S1 => match truD d with | some b => .ok b S1 | none => .stuck
def kTAnd (b : E) (r : Res (Bool)) : Res Bool := r.bind fun k S1 => if k = true then evT CF Φ b S1 else .ok false S1
def kTOr (b : E) (r : Res (Bool)) : Res Bool := r.bind fun k S1 => if k = true then .ok true S1 else evT CF Φ b S1
def kTNot  (r : Res (Bool)) : Res Bool := r.bind fun k S1 => .ok (!k) S1
def kRng  (r : Res (List D)) : Res (List D) := r.bind fun ds S1 => match rngD ds with | some xs => .ok xs S1 | none => .stuck
def kEnm  (r : Res (D)) : Res (List D) := r.bind fun d S1 => match d with | .lst xs => .ok (xs.zipIdx.map fun p => .tup [.int (p.2 : Nat), p.1]) S1 | .tup xs => .ok (xs.zipIdx.map fun p => .tup [.int (p.2 : Nat), p.1]) S1 | _ => .stuck
def kElm  (r : Res (D)) : Res (List D) := r.bind fun d S1 => match elmD d with | some xs => .ok xs S1 | none => .stuck
def sAsg (i : Nat) (r : Res (D)) : RS := onE r fun d S1 => .nx (S1.set i (.val d))
def sAsgN (i : Nat) (r : Res (D)) : RS := onE r fun d S1 => match d with | .lst xs => .nx (S1.set i (.own true (.lst xs))) | _ => .stuck
def sAug (i : Nat) (o : BOp) (x : Option SD) (r : Res (D)) : RS := match x with | some (.val (.int a)) => onE r fun d S1 => (match d with | .int y => (match o with | .add => .nx (S1.set i (.val (.int (a + y)))) | .sub => .nx (S1.set i (.val (.int (a - y)))) | _ => .stuck) | _ => .stuck) | _ => .stuck
def sUnp (ts : List Nat) (r : Res (D)) : RS := onE r fun d S1 => match bindT ts d S1 with | some S2 => .nx S2 | none => .stuck
def sSix (i : Nat) (ix : E) (r : Res (D)) : RS := onE r fun d S1 => if (peekS S1 i).isSome = true then onE (evE CF Φ ix S1) fun y S2 => match S2[i]?, y with | some (.own fz (.lst xs)), .int k => (match ixN xs.length k with | some j => .nx (S2.set i (.own fz (.lst (xs.set j d)))) | none => .stuck) | _, _ => .stuck else .stuck
def sSix2 (i : Nat) (d : D) (r : Res (D)) : RS := onE r fun y S2 => match S2[i]?, y with | some (.own fz (.lst xs)), .int k => (match ixN xs.length k with | some j => .nx (S2.set i (.own fz (.lst (xs.set j d)))) | none => .stuck) | _, _ => .stuck
def sSfl (i : Nat) (f : Str) (r : Res (D)) : RS := onE r fun d S1 => match S1[i]? with | some (.own fz (.ins c fn vs)) => if c < 500 ∧ f ∈ CF c ∧ fn.length < 1000 then (match putD f d fn vs with | some p => .nx (S1.set i (.own fz (.ins c p.1 p.2))) | none => .stuck) else .stuck | _ => .stuck
def sExp  (r : Res (D)) : RS := onE r fun _ S1 => .nx S1
def sIff (a b : Bs) (r : Res (Bool)) : RS := onE r fun k S1 => if k = true then evBs CF Φ a S1 else evBs CF Φ b S1
def sFor (ts : List Nat) (b : Bs) (r : Res (List D)) : RS := onE r fun xs S1 => loopF (fun x S => match bindT ts x S with | some S2 => evBs CF Φ b S2 | none => .stuck) xs S1
def sRet  (r : Res (D)) : RS := onE r fun d S1 => .rt d S1
def sRetL  (r : Res (D)) : RS := onE r fun d S1 => match d with | .lst xs => .rtN xs S1 | _ => .stuck
def sAsgF (i f : Nat) (r : Res (List D)) : RS := onE r fun ds S1 => match Φ f none ds with | .retN xs => .nx (S1.set i (.own true (.lst xs))) | .exc c fn vs none => .exc c fn vs S1 | _ => .stuck
def sRse (cn : Nat) (fs : List Str) (r : Res (List D)) : RS := onE r fun ds S1 => if ds.length = fs.length then .exc cn fs.reverse ds.reverse S1 else .stuck
def cBody (vs : List Nat) (ts : List Nat) (cs el : E) (x : D) (S : List SD) : Res (Option D) := match bindT ts x S with
        | none => .stuck
        | some S2 => (evC CF Φ cs S2).bind fun b S3 => if b = true then (evE CF Φ el S3).bind fun d S4 => .ok (some d) (wipeS S4 vs) else .ok none (wipeS S3 vs)
def cBody2 (vs : List Nat) (el : E) (r : Res Bool) : Res (Option D) := r.bind fun b S3 => if b = true then (evE CF Φ el S3).bind fun d S4 => .ok (some d) (wipeS S4 vs) else .ok none (wipeS S3 vs)
def cBody3 (vs : List Nat) (r : Res D) : Res (Option D) := r.bind fun d S4 => .ok (some d) (wipeS S4 vs)
def cEnd (vs : List Nat) (S1 : List SD) (r : Res (List D)) : Res D := r.quiet.bind fun ds S5 => if ds.length < cap then .ok (.lst ds) (backS S1 vs S5) else .stuck
def kCmpr (vs ts : List Nat) (cs el : E) (r : Res (List D)) : Res D := r.bind fun xs S1 => if vs.all (fun v => isVal S1[v]?) = true then cEnd vs S1 (loopC (cBody CF Φ vs ts cs el) xs (wipeS S1 vs)) else .stuck
def seqB (b : Bs) (r : RS) : RS := r.andThen fun S1 => evBs CF Φ b S1
def sRsp (cn : Nat) (r : Res (List D)) : RS := onE r fun ds S1 => if ds.length ≤ 1000 then .exc cn [] [] S1 else .stuck
def triR (hs : List (Str × Nat × HX)) (r : RS) : RS := match r with | .exc cn fn vs S1 => if 500 ≤ cn ∧ cn < 1000 then triH CF cn fn vs S1 hs else .stuck | r => r
end
section
variable {CF : Nat → List Str} {Φ : Nat → Option OC → List D → FRes} {S : List SD}
theorem kBin_ok (o : BOp) (b : E) {x : D} : kBin CF Φ o b (.ok x S) = kBin2 o x (evE CF Φ b S) := rfl
theorem kBin_exc (o : BOp) (b : E) {cn : Nat} {fn : List Str} {vs : List D} : kBin CF Φ o b (.exc cn fn vs S) = .exc cn fn vs S := rfl
theorem kBin2_ok (o : BOp) (x : D) {y : D} : kBin2 o x (.ok y S) = ofO (binD o x y) S := rfl
theorem kBin2_exc (o : BOp) (x : D) {cn : Nat} {fn : List Str} {vs : List D} : kBin2 o x (.exc cn fn vs S) = .exc cn fn vs S := rfl
theorem kNeg_exc  {cn : Nat} {fn : List Str} {vs : List D} : kNeg  (.exc cn fn vs S) = .exc cn fn vs S := rfl
theorem kCmp_ok (o : COp) (b : E) {x : D} : kCmp CF Φ o b (.ok x S) = kCmp2 o x (evE CF Φ b S) := rfl
theorem kCmp_exc (o : COp) (b : E) {cn : Nat} {fn : List Str} {vs : List D} : kCmp CF Φ o b (.exc cn fn vs S) = .exc cn fn vs S := rfl
theorem kCmp2_ok (o : COp) (x : D) {y : D} : kCmp2 o x (.ok y S) = ofB (cmpD o x y) S := rfl
theorem kCmp2_exc (o : COp) (x : D) {cn : Nat} {fn : List Str} {vs : List D} : kCmp2 o x (.exc cn fn vs S) = .exc cn fn vs S := rfl
theorem kCmpO_ok (o : COp) (i : Nat) {x : D} : kCmpO o i (.ok x S) = match peekS S i with | some y => ofB (cmpD o x y) S | none => .stuck := rfl
theorem kCmpO_exc (o : COp) (i : Nat) {cn : Nat} {fn : List Str} {vs : List D} : kCmpO o i (.exc cn fn vs S) = .exc cn fn vs S := rfl
theorem kIsN_ok (n : Bool) {x : D} : kIsN n (.ok x S) = .ok (.bl (match x with | .non => !n | _ => n)) S := rfl
theorem kIsN_exc (n : Bool) {cn : Nat} {fn : List Str} {vs : List D} : kIsN n (.exc cn fn vs S) = .exc cn fn vs S := rfl
theorem kCh_ok (o o2 : COp) (b c : E) {x : D} : kCh CF Φ o o2 b c (.ok x S) = kCh2 CF Φ o o2 x c (evE CF Φ b S) := rfl
theorem kCh_exc (o o2 : COp) (b c : E) {cn : Nat} {fn : List Str} {vs : List D} : kCh CF Φ o o2 b c (.exc cn fn vs S) = .exc cn fn vs S := rfl
theorem kCh2_ok (o o2 : COp) (x : D) (c : E) {y : D} : kCh2 CF Φ o o2 x c (.ok y S) = kCh3 CF Φ o2 y c S (cmpD o x y) := rfl
theorem kCh2_exc (o o2 : COp) (x : D) (c : E) {cn : Nat} {fn : List Str} {vs : List D} : kCh2 CF Φ o o2 x c (.exc cn fn vs S) = .exc cn fn vs S := rfl
theorem kConj_exc (b : E) {cn : Nat} {fn : List Str} {vs : List D} : kConj CF Φ b (.exc cn fn vs S) = .exc cn fn vs S := rfl
theorem kDisj_exc (b : E) {cn : Nat} {fn : List Str} {vs : List D} : kDisj CF Φ b (.exc cn fn vs S) = .exc cn fn vs S := rfl
theorem kNot_exc  {cn : Nat} {fn : List Str} {vs : List D} : kNot  (.exc cn fn vs S) = .exc cn fn vs S := rfl
theorem kIte_exc (a b : E) {cn : Nat} {fn : List Str} {vs : List D} : kIte CF Φ a b (.exc cn fn vs S) = .exc cn fn vs S := rfl
theorem kTup_ok  {ds : List D} : kTup  (.ok ds S) = if ds.length ≤ cap then .ok (.tup ds) S else .stuck := rfl
theorem kTup_exc  {cn : Nat} {fn : List Str} {vs : List D} : kTup  (.exc cn fn vs S) = .exc cn fn vs S := rfl
theorem kLst_ok  {ds : List D} : kLst  (.ok ds S) = if ds.length ≤ cap then .ok (.lst ds) S else .stuck := rfl
theorem kLst_exc  {cn : Nat} {fn : List Str} {vs : List D} : kLst  (.exc cn fn vs S) = .exc cn fn vs S := rfl
theorem kDct_ok (ks : List Str) {ds : List D} : kDct ks (.ok ds S) = .ok (.dct (ks.map Sum.inr) ds) S := rfl
theorem kDct_exc (ks : List Str) {cn : Nat} {fn : List Str} {vs : List D} : kDct ks (.exc cn fn vs S) = .exc cn fn vs S := rfl
theorem kRep_ok (b : E) {x : D} : kRep CF Φ b (.ok x S) = kRep2 x (evE CF Φ b S) := rfl
theorem kRep_exc (b : E) {cn : Nat} {fn : List Str} {vs : List D} : kRep CF Φ b (.exc cn fn vs S) = .exc cn fn vs S := rfl
theorem kRep2_ok (x : D) {y : D} : kRep2 x (.ok y S) = match x, y with | .lst ds, .int k => if -(2 ^ 63) ≤ k ∧ k < 2 ^ 63 ∧ ds.length * k.toNat ≤ cap then .ok (.lst (List.replicate k.toNat ds).flatten) S else .stuck | _, _ => .stuck := rfl
theorem kRep2_exc (x : D) {cn : Nat} {fn : List Str} {vs : List D} : kRep2 x (.exc cn fn vs S) = .exc cn fn vs S := rfl
theorem kIdx_ok (b : E) {x : D} : kIdx CF Φ b (.ok x S) = kIdx2 x (evE CF Φ b S) := rfl
theorem kIdx_exc (b : E) {cn : Nat} {fn : List Str} {vs : List D} : kIdx CF Φ b (.exc cn fn vs S) = .exc cn fn vs S := rfl
theorem kIdx2_ok (x : D) {y : D} : kIdx2 x (.ok y S) = ofO (idxD x y) S := rfl
theorem kIdx2_exc (x : D) {cn : Nat} {fn : List Str} {vs : List D} : kIdx2 x (.exc cn fn vs S) = .exc cn fn vs S := rfl
theorem kIdxO_ok (i : Nat) {y : D} : kIdxO i (.ok y S) = match peekS S i with | some (.lst xs) => ofO (idxD (.lst xs) y) S | _ => .stuck := rfl
theorem kIdxO_exc (i : Nat) {cn : Nat} {fn : List Str} {vs : List D} : kIdxO i (.exc cn fn vs S) = .exc cn fn vs S := rfl
theorem kSlV_ok (lo hi : E) {x : D} : kSlV CF Φ lo hi (.ok x S) = kSlV2 CF Φ x hi (evO CF Φ lo S) := rfl
theorem kSlV_exc (lo hi : E) {cn : Nat} {fn : List Str} {vs : List D} : kSlV CF Φ lo hi (.exc cn fn vs S) = .exc cn fn vs S := rfl
theorem kSlV2_ok (x : D) (hi : E) {l : Option D} : kSlV2 CF Φ x hi (.ok l S) = kSlV3 x (optI l) (evO CF Φ hi S) := rfl
theorem kSlV2_exc (x : D) (hi : E) {cn : Nat} {fn : List Str} {vs : List D} : kSlV2 CF Φ x hi (.exc cn fn vs S) = .exc cn fn vs S := rfl
theorem kSlV3_ok (x : D) (l : Option (Option Int)) {h : Option D} : kSlV3 x l (.ok h S) = match l with | none => .stuck | some l => (match optI h with | some h => ofO (slvD x l h) S | none => .stuck) := rfl
theorem kLrg_ok  {d : D} : kLrg  (.ok d S) = match d with | .int n => if -100000 ≤ n ∧ n ≤ 100000 then .ok (.lst ((List.range n.toNat).map fun (k : Nat) => .int (0 + (k : Int)))) S else .stuck | _ => .stuck := rfl
theorem kLrg_exc  {cn : Nat} {fn : List Str} {vs : List D} : kLrg  (.exc cn fn vs S) = .exc cn fn vs S := rfl
theorem kCall_ok (f : Nat) {ds : List D} : kCall Φ f (.ok ds S) = ofF (Φ f none ds) S := rfl
theorem kCall_exc (f : Nat) {cn : Nat} {fn : List Str} {vs : List D} : kCall Φ f (.exc cn fn vs S) = .exc cn fn vs S := rfl
theorem kCallV_ok (c : Nat) {ds : List D} : kCallV Φ c (.ok ds S) = ofF (Φ (c - 1000) none ds) S := rfl
theorem kCallV_exc (c : Nat) {cn : Nat} {fn : List Str} {vs : List D} : kCallV Φ c (.exc cn fn vs S) = .exc cn fn vs S := rfl
theorem kCallO_ok (f i : Nat) {ds : List D} : kCallO Φ f i (.ok ds S) = match S[i]? with | some (.own fz o) => ofFO (Φ f (some o) ds) i fz S | _ => .stuck := rfl
theorem kCallO_exc (f i : Nat) {cn : Nat} {fn : List Str} {vs : List D} : kCallO Φ f i (.exc cn fn vs S) = .exc cn fn vs S := rfl
theorem kBi_ok (f : Bi) {ds : List D} : kBi f (.ok ds S) = ofO (biD f ds) S := rfl
theorem kBi_exc (f : Bi) {cn : Nat} {fn : List Str} {vs : List D} : kBi f (.exc cn fn vs S) = .exc cn fn vs S := rfl
theorem kIsi_ok (ts : List Ty) {x : D} : kIsi ts (.ok x S) = match kdD x with | some k => .ok (.bl (ts.any fun t => isiK k t)) S | none => .stuck := rfl
theorem kIsi_exc (ts : List Ty) {cn : Nat} {fn : List Str} {vs : List D} : kIsi ts (.exc cn fn vs S) = .exc cn fn vs S := rfl
theorem kFld_ok (f : Str) {x : D} : kFld CF f (.ok x S) = match x with | .obj c fn vs => if c < 500 ∧ f ∈ CF c then ofO ((fn.zip vs).lookup f) S else .stuck | _ => .stuck := rfl
theorem kFld_exc (f : Str) {cn : Nat} {fn : List Str} {vs : List D} : kFld CF f (.exc cn fn vs S) = .exc cn fn vs S := rfl
theorem kMk_ok (cn f : Nat) {ds : List D} : kMk Φ cn f (.ok ds S) = match Φ f (some (.ins cn [] [])) ds with | .ret .non (some (.ins c fn vs)) => .ok (.obj c fn vs) S | .exc c fn vs (some _) => .exc c fn vs S | _ => .stuck := rfl
theorem kMk_exc (cn f : Nat) {cn : Nat} {fn : List Str} {vs : List D} : kMk Φ cn f (.exc cn fn vs S) = .exc cn fn vs S := rfl
theorem kPop_ok (i : Nat) {ds : List D} : kPop i (.ok ds S) = match S[i]?, ds with | some (.own fz (.lst xs)), [.int k] => (if -(2 ^ 63) ≤ k ∧ k < 2 ^ 63 then (match seqIndex? k xs.length with | some j => (match xs[j]? with | some d => .ok d (S.set i (.own fz (.lst (xs.eraseIdx j)))) | none => .stuck) | none => .stuck) else .stuck) | some (.own fz (.lst xs)), [] => (match xs[xs.length - 1]? with | some d => .ok d (S.set i (.own fz (.lst xs.dropLast))) | none => .stuck) | _, _ => .stuck := rfl
theorem kPop_exc (i : Nat) {cn : Nat} {fn : List Str} {vs : List D} : kPop i (.exc cn fn vs S) = .exc cn fn vs S := rfl
theorem kApp_ok (i : Nat) {d : D} : kApp i (.ok d S) = match S[i]? with | some (.own fz (.lst xs)) => if xs.length < cap then .ok .non (S.set i (.own fz (.lst (xs ++ [d])))) else .stuck | _ => .stuck := rfl
theorem kApp_exc (i : Nat) {cn : Nat} {fn : List Str} {vs : List D} : kApp i (.exc cn fn vs S) = .exc cn fn vs S := rfl
theorem kGen_ok (all : Bool) (el : PX) {d : D} : kGen all el (.ok d S) = match elmD d with | some xs => (match gnB S el xs with | some bs => .ok (.bl (if all then bs.all id else bs.any id)) S | none => .stuck) | none => .stuck := rfl
theorem kGen_exc (all : Bool) (el : PX) {cn : Nat} {fn : List Str} {vs : List D} : kGen all el (.exc cn fn vs S) = .exc cn fn vs S := rfl
theorem kSrt_ok (el : PX) {d : D} : kSrt el (.ok d S) = match d with | .lst xs => (match keysD S el xs with | some ks => if ks.Nodup ∧ xs.length ≤ cap then .ok (.lst ((srtD (ks.zip xs)).map (·.2))) S else .stuck | none => .stuck) | _ => .stuck := rfl
theorem kSrt_exc (el : PX) {cn : Nat} {fn : List Str} {vs : List D} : kSrt el (.exc cn fn vs S) = .exc cn fn vs S := rfl
theorem kCons_ok (es : Es) {d : D} : kCons CF Φ es (.ok d S) = kCons2 d (evEs CF Φ es S) := rfl
theorem kCons_exc (es : Es) {cn : Nat} {fn : List Str} {vs : List D} : kCons CF Φ es (.exc cn fn vs S) = .exc cn fn vs S := rfl
theorem kCons2_ok (d : D) {ds : List D} : kCons2 d (.ok ds S) = .ok (d :: ds) S := rfl
theorem kCons2_exc (d : D) {cn : Nat} {fn : List Str} {vs : List D} : kCons2 d (.exc cn fn vs S) = .exc cn fn vs S := rfl
theorem kSome_ok  {d : D} : kSome  (.ok d S) = .ok (some d) S := rfl
theorem kSome_exc  {cn : Nat} {fn : List Str} {vs : List D} : kSome  (.exc cn fn vs S) = .exc cn fn vs S := rfl
theorem kTr_ok  {d : D} : kTr  (.ok d S) = match truD d with | some b => .ok b S | none => .stuck := rfl
theorem kTr_exc  {cn : Nat} {fn : List Str} {vs : List D} : kTr  (.exc cn fn vs S) = .exc cn fn vs S := rfl
theorem kTAnd_exc (b : E) {cn : Nat} {fn : List Str} {vs : List D} : kTAnd CF Φ b (.exc cn fn vs S) = .exc cn fn vs S := rfl
theorem kTOr_exc (b : E) {cn : Nat} {fn : List Str} {vs : List D} : kTOr CF Φ b (.exc cn fn vs S) = .exc cn fn vs S := rfl
theorem kTNot_ok  {k : Bool} : kTNot  (.ok k S) = .ok (!k) S := rfl
theorem kTNot_exc  {cn : Nat} {fn : List Str} {vs : List D} : kTNot  (.exc cn fn vs S) = .exc cn fn vs S := rfl
theorem kRng_ok  {ds : List D} : kRng  (.ok ds S) = match rngD ds with | some xs => .ok xs S | none => .stuck := rfl
theorem kRng_exc  {cn : Nat} {fn : List Str} {vs : List D} : kRng  (.exc cn fn vs S) = .exc cn fn vs S := rfl
theorem kEnm_ok  {d : D} : kEnm  (.ok d S) = match d with | .lst xs => .ok (xs.zipIdx.map fun p => .tup [.int (p.2 : Nat), p.1]) S | .tup xs => .ok (xs.zipIdx.map fun p => .tup [.int (p.2 : Nat), p.1]) S | _ => .stuck := rfl
theorem kEnm_exc  {cn : Nat} {fn : List Str} {vs : List D} : kEnm  (.exc cn fn vs S) = .exc cn fn vs S := rfl
theorem kElm_ok  {d : D} : kElm  (.ok d S) = match elmD d with | some xs => .ok xs S | none => .stuck := rfl
theorem kElm_exc  {cn : Nat} {fn : List Str} {vs : List D} : kElm  (.exc cn fn vs S) = .exc cn fn vs S := rfl
theorem sAsg_ok (i : Nat) {d : D} : sAsg i (.ok d S) = .nx (S.set i (.val d)) := rfl
theorem sAsg_exc (i : Nat) {cn : Nat} {fn : List Str} {vs : List D} : sAsg i (.exc cn fn vs S) = .exc cn fn vs S := rfl
theorem sAsgN_ok (i : Nat) {d : D} : sAsgN i (.ok d S) = match d with | .lst xs => .nx (S.set i (.own true (.lst xs))) | _ => .stuck := rfl
theorem sAsgN_exc (i : Nat) {cn : Nat} {fn : List Str} {vs : List D} : sAsgN i (.exc cn fn vs S) = .exc cn fn vs S := rfl
theorem sAug_add (i : Nat) {a b : Int} : sAug i .add (some (.val (.int a))) (.ok (.int b) S) = .nx (S.set i (.val (.int (a + b)))) := rfl
theorem sAug_sub (i : Nat) {a b : Int} : sAug i .sub (some (.val (.int a))) (.ok (.int b) S) = .nx (S.set i (.val (.int (a - b)))) := rfl
theorem sUnp_ok (ts : List Nat) {d : D} : sUnp ts (.ok d S) = match bindT ts d S with | some S2 => .nx S2 | none => .stuck := rfl
theorem sUnp_exc (ts : List Nat) {cn : Nat} {fn : List Str} {vs : List D} : sUnp ts (.exc cn fn vs S) = .exc cn fn vs S := rfl
theorem sSix_ok (i : Nat) (ix : E) {d : D} : sSix CF Φ i ix (.ok d S) = if (peekS S i).isSome = true then sSix2 i d (evE CF Φ ix S) else .stuck := rfl
theorem sSix_exc (i : Nat) (ix : E) {cn : Nat} {fn : List Str} {vs : List D} : sSix CF Φ i ix (.exc cn fn vs S) = .exc cn fn vs S := rfl
theorem sSix2_ok (i : Nat) (d : D) {y : D} : sSix2 i d (.ok y S) = match S[i]?, y with | some (.own fz (.lst xs)), .int k => (match ixN xs.length k with | some j => .nx (S.set i (.own fz (.lst (xs.set j d)))) | none => .stuck) | _, _ => .stuck := rfl
theorem sSix2_exc (i : Nat) (d : D) {cn : Nat} {fn : List Str} {vs : List D} : sSix2 i d (.exc cn fn vs S) = .exc cn fn vs S := rfl
theorem sSfl_ok (i : Nat) (f : Str) {d : D} : sSfl CF i f (.ok d S) = match S[i]? with | some (.own fz (.ins c fn vs)) => if c < 500 ∧ f ∈ CF c ∧ fn.length < 1000 then (match putD f d fn vs with | some p => .nx (S.set i (.own fz (.ins c p.1 p.2))) | none => .stuck) else .stuck | _ => .stuck := rfl
theorem sSfl_exc (i : Nat) (f : Str) {cn : Nat} {fn : List Str} {vs : List D} : sSfl CF i f (.exc cn fn vs S) = .exc cn fn vs S := rfl
theorem sExp_ok  {d : D} : sExp  (.ok d S) = .nx S := rfl
theorem sExp_exc  {cn : Nat} {fn : List Str} {vs : List D} : sExp  (.exc cn fn vs S) = .exc cn fn vs S := rfl
theorem sIff_exc (a b : Bs) {cn : Nat} {fn : List Str} {vs : List D} : sIff CF Φ a b (.exc cn fn vs S) = .exc cn fn vs S := rfl
theorem sFor_ok (ts : List Nat) (b : Bs) {xs : List D} : sFor CF Φ ts b (.ok xs S) = sLoop CF Φ ts b xs S := rfl
theorem sFor_exc (ts : List Nat) (b : Bs) {cn : Nat} {fn : List Str} {vs : List D} : sFor CF Φ ts b (.exc cn fn vs S) = .exc cn fn vs S := rfl
theorem sRet_ok  {d : D} : sRet  (.ok d S) = .rt d S := rfl
theorem sRet_exc  {cn : Nat} {fn : List Str} {vs : List D} : sRet  (.exc cn fn vs S) = .exc cn fn vs S := rfl
theorem sRetL_ok  {d : D} : sRetL  (.ok d S) = match d with | .lst xs => .rtN xs S | _ => .stuck := rfl
theorem sRetL_exc  {cn : Nat} {fn : List Str} {vs : List D} : sRetL  (.exc cn fn vs S) = .exc cn fn vs S := rfl
theorem sAsgF_ok (i f : Nat) {ds : List D} : sAsgF Φ i f (.ok ds S) = match Φ f none ds with | .retN xs => .nx (S.set i (.own true (.lst xs))) | .exc c fn vs none => .exc c fn vs S | _ => .stuck := rfl
theorem sAsgF_exc (i f : Nat) {cn : Nat} {fn : List Str} {vs : List D} : sAsgF Φ i f (.exc cn fn vs S) = .exc cn fn vs S := rfl
theorem sRse_ok (cn : Nat) (fs : List Str) {ds : List D} : sRse cn fs (.ok ds S) = if ds.length = fs.length then .exc cn fs.reverse ds.reverse S else .stuck := rfl
theorem sRsp_1 (cn : Nat) {d : D} : sRsp cn (.ok [d] S) = .exc cn [] [] S := rfl
theorem sRse_exc (cn : Nat) (fs : List Str) {cn : Nat} {fn : List Str} {vs : List D} : sRse cn fs (.exc cn fn vs S) = .exc cn fn vs S := rfl
theorem kNeg_ok {i : Int} : kNeg (.ok (.int i) S) = .ok (.int (-i)) S := rfl
theorem kConj_t (b : E) : kConj CF Φ b (.ok (.bl true) S) = evE CF Φ b S := rfl
theorem kConj_f (b : E) : kConj CF Φ b (.ok (.bl false) S) = .ok (.bl false) S := rfl
theorem kDisj_t (b : E) : kDisj CF Φ b (.ok (.bl true) S) = .ok (.bl true) S := rfl
theorem kDisj_f (b : E) : kDisj CF Φ b (.ok (.bl false) S) = evE CF Φ b S := rfl
theorem kNot_ok {b : Bool} : kNot (.ok (.bl b) S) = .ok (.bl (!b)) S := rfl
theorem kIte_t (a b : E) : kIte CF Φ a b (.ok true S) = evE CF Φ a S := rfl
theorem kIte_f (a b : E) : kIte CF Φ a b (.ok false S) = evE CF Φ b S := rfl
theorem kTAnd_t (b : E) : kTAnd CF Φ b (.ok true S) = evT CF Φ b S := rfl
theorem kTAnd_f (b : E) : kTAnd CF Φ b (.ok false S) = .ok false S := rfl
theorem kTOr_t (b : E) : kTOr CF Φ b (.ok true S) = .ok true S := rfl
theorem kTOr_f (b : E) : kTOr CF Φ b (.ok false S) = evT CF Φ b S := rfl
theorem sIff_t (a b : Bs) : sIff CF Φ a b (.ok true S) = evBs CF Φ a S := rfl
theorem sIff_f (a b : Bs) : sIff CF Φ a b (.ok false S) = evBs CF Φ b S := rfl
theorem kCh3_t (o2 : COp) (y : D) (c : E) : kCh3 CF Φ o2 y c S (some true) = kCh4 o2 y (evE CF Φ c S) := rfl
theorem kCh3_f (o2 : COp) (y : D) (c : E) : kCh3 CF Φ o2 y c S (some false) = .ok (.bl false) S := rfl
theorem kCh4_ok (o2 : COp) (y : D) {z : D} : kCh4 o2 y (.ok z S) = ofB (cmpD o2 y z) S := rfl
theorem seq_nx (b : Bs) : seqB CF Φ b (.nx S) = evBs CF Φ b S := rfl
theorem seq_rt (b : Bs) {d : D} : seqB CF Φ b (.rt d S) = .rt d S := rfl
theorem seq_rtN (b : Bs) {xs : List D} : seqB CF Φ b (.rtN xs S) = .rtN xs S := rfl
theorem seq_bk (b : Bs) : seqB CF Φ b (.bk S) = .bk S := rfl
theorem seq_ct (b : Bs) : seqB CF Φ b (.ct S) = .ct S := rfl
theorem seq_exc (b : Bs) {cn : Nat} {fn : List Str} {vs : List D} : seqB CF Φ b (.exc cn fn vs S) = .exc cn fn vs S := rfl
theorem tri_nx (hs : List (Str × Nat × HX)) : triR CF hs (.nx S) = .nx S := rfl
theorem tri_rt (hs : List (Str × Nat × HX)) {d : D} : triR CF hs (.rt d S) = .rt d S := rfl
theorem tri_exc (hs : List (Str × Nat × HX)) {cn : Nat} {fn : List Str} {vs : List D} (h : 500 ≤ cn ∧ cn < 1000) : triR CF hs (.exc cn fn vs S) = triH CF cn fn vs S hs := if_pos h
theorem ofO_some {d : D} : ofO (some d) S = .ok d S := rfl
theorem ofB_some {b : Bool} : ofB (some b) S = .ok (.bl b) S := rfl
theorem ofF_ret {d : D} : ofF (.ret d none) S = .ok d S := rfl
theorem ofF_retN {xs : List D} : ofF (.retN xs) S = .ok (.lst xs) S := rfl
theorem ofF_exc {cn : Nat} {fn : List Str} {vs : List D} : ofF (.exc cn fn vs none) S = .exc cn fn vs S := rfl
theorem ofFO_ret {d : D} {o : OC} (i : Nat) (fz : Bool) : ofFO (.ret d (some o)) i fz S = .ok d (S.set i (.own fz o)) := rfl
theorem kCmpr_ok (vs ts : List Nat) (cs el : E) {xs : List D} : kCmpr CF Φ vs ts cs el (.ok xs S) = if vs.all (fun v => isVal S[v]?) = true then cEnd vs S (loopC (cBody CF Φ vs ts cs el) xs (wipeS S vs)) else .stuck := rfl
theorem cEnd_ok (vs : List Nat) (S1 : List SD) {ds : List D} : cEnd vs S1 (.ok ds S) = if ds.length < cap then .ok (.lst ds) (backS S1 vs S) else .stuck := rfl
theorem cBody_some (vs ts : List Nat) (cs el : E) {x : D} {S2 : List SD} (h : bindT ts x S = some S2) : cBody CF Φ vs ts cs el x S = cBody2 CF Φ vs el (evC CF Φ cs S2) := by unfold cBody; rw [h]; rfl
theorem cBody2_t (vs : List Nat) (el : E) : cBody2 CF Φ vs el (.ok true S) = cBody3 vs (evE CF Φ el S) := rfl
theorem cBody2_f (vs : List Nat) (el : E) : cBody2 CF Φ vs el (.ok false S) = .ok none (wipeS S vs) := rfl
theorem cBody3_ok (vs : List Nat) {d : D} : cBody3 vs (.ok d S) = .ok (some d) (wipeS S vs) := rfl
theorem e_cmpr (own : List (Str × Nat)) (ts : List Nat) (it cs el : E) : evE CF Φ (.cmpr own ts it cs el) S = kCmpr CF Φ (own.map (·.2)) ts cs el (evI CF Φ it S) := by rw [evE]; rfl
theorem sBody_some (ts : List Nat) (b : Bs) {x : D} {S2 : List SD} (h : bindT ts x S = some S2) : sBody CF Φ ts b x S = evBs CF Φ b S2 := by unfold sBody; rw [h]
/-- a loop that goes through -/
theorem loop_nx {ts : List Nat} {b : Bs} (I : Nat → List SD → Prop) : ∀ (xs : List D) (i : Nat) (S : List SD), I i S → (∀ j x S, xs[j]? = some x → I (i + j) S → ∃ S', (sBody CF Φ ts b x S = .nx S' ∨ sBody CF Φ ts b x S = .ct S') ∧ I (i + j + 1) S') → ∃ S', sLoop CF Φ ts b xs S = .nx S' ∧ I (i + xs.length) S'
  | [], i, S, h0, _ => ⟨S, rfl, h0⟩
  | x :: xs, i, S, h0, st => by
    obtain ⟨S1, e1, h1⟩ := st 0 x S rfl h0
    obtain ⟨S2, e2, h2⟩ := loop_nx I xs (i + 1) S1 h1 fun j y S' hj hI => by
      have := st (j + 1) y S' (by simpa using hj) (by rw [show i + (j + 1) = i + 1 + j by omega]; exact hI)
      rw [show i + (j + 1) + 1 = i + 1 + j + 1 by omega] at this
      exact this
    refine ⟨S2, ?_, by rw [show i + (x :: xs).length = i + 1 + xs.length by simp; omega]; exact h2⟩
    unfold sLoop at e2 ⊢
    unfold loopF
    have e1' : (match bindT ts x S with | some S2 => evBs CF Φ b S2 | none => .stuck) = .nx S1 ∨ (match bindT ts x S with | some S2 => evBs CF Φ b S2 | none => .stuck) = .ct S1 := e1
    rcases e1' with e1' | e1' <;> simp only [e1'] <;> exact e2
/-- .. or is left by a break -/
theorem loop_bk {ts : List Nat} {b : Bs} (I : Nat → List SD → Prop) (B : List SD → Prop) : ∀ (xs : List D) (i : Nat) (S : List SD), I i S → (∀ j x S, xs[j]? = some x → I (i + j) S → ∃ S', (sBody CF Φ ts b x S = .nx S' ∧ I (i + j + 1) S') ∨ (sBody CF Φ ts b x S = .bk S' ∧ B S')) → ∃ S', sLoop CF Φ ts b xs S = .nx S' ∧ (I (i + xs.length) S' ∨ B S')
  | [], i, S, h0, _ => ⟨S, rfl, .inl h0⟩
  | x :: xs, i, S, h0, st => by
    obtain ⟨S1, ⟨e1, h1⟩ | ⟨e1, h1⟩⟩ := st 0 x S rfl h0
    · obtain ⟨S2, e2, h2⟩ := loop_bk I B xs (i + 1) S1 h1 fun j y S' hj hI => by
        have := st (j + 1) y S' (by simpa using hj) (by rw [show i + (j + 1) = i + 1 + j by omega]; exact hI)
        rw [show i + (j + 1) + 1 = i + 1 + j + 1 by omega] at this
        exact this
      refine ⟨S2, ?_, by rw [show i + (x :: xs).length = i + 1 + xs.length by simp; omega]; exact h2⟩
      unfold sLoop at e2 ⊢
      unfold loopF
      have e1' : (match bindT ts x S with | some S2 => evBs CF Φ b S2 | none => .stuck) = .nx S1 := e1
      simp only [e1']; exact e2
    · refine ⟨S1, ?_, .inr h1⟩
      unfold sLoop loopF
      have e1' : (match bindT ts x S with | some S2 => evBs CF Φ b S2 | none => .stuck) = .bk S1 := e1
      simp only [e1']
/-- a loop that may be left by what it hands back or raises: R -/
theorem loop_out {ts : List Nat} {b : Bs} (I : Nat → List SD → Prop) (R : RS → Prop) : ∀ (xs : List D) (i : Nat) (S : List SD), I i S →
    (∀ j x S, xs[j]? = some x → I (i + j) S → (∃ S', sBody CF Φ ts b x S = .nx S' ∧ I (i + j + 1) S') ∨ (∃ d S', sBody CF Φ ts b x S = .rt d S' ∧ R (.rt d S')) ∨ (∃ cn fn vs S', sBody CF Φ ts b x S = .exc cn fn vs S' ∧ R (.exc cn fn vs S'))) →
    (∃ S', sLoop CF Φ ts b xs S = .nx S' ∧ I (i + xs.length) S') ∨ R (sLoop CF Φ ts b xs S) ∧ ∀ S', sLoop CF Φ ts b xs S ≠ .nx S'
  | [], i, S, h0, _ => .inl ⟨S, rfl, h0⟩
  | x :: xs, i, S, h0, st => by
    have un : sLoop CF Φ ts b (x :: xs) S = match sBody CF Φ ts b x S with | .nx S1 => sLoop CF Φ ts b xs S1 | .ct S1 => sLoop CF Φ ts b xs S1 | .bk S1 => .nx S1 | r => r := by
      unfold sLoop sBody
      rw [loopF] <;> rfl
    rcases st 0 x S rfl h0 with ⟨S1, e1, h1⟩ | ⟨d, S1, e1, h1⟩ | ⟨cn, fn, vs, S1, e1, h1⟩
    · have ih := loop_out I R xs (i + 1) S1 h1 fun j y S' hj hI => by
        have := st (j + 1) y S' (by simpa using hj) (by rw [show i + (j + 1) = i + 1 + j by omega]; exact hI)
        rw [show i + (j + 1) + 1 = i + 1 + j + 1 by omega] at this
        exact this
      rw [un, e1]
      rw [show i + (x :: xs).length = i + 1 + xs.length by simp; omega]
      exact ih
    · rw [un, e1]; exact .inr ⟨h1, fun _ z => nomatch z⟩
    · rw [un, e1]; exact .inr ⟨h1, fun _ z => nomatch z⟩
/-- a comprehension's loop, each item kept -/
theorem loopC_all {f : D → List SD → Res (Option D)} (I : Nat → List D → List SD → Prop) : ∀ (xs : List D) (i : Nat) (acc : List D) (S : List SD), I i acc S → (∀ j x acc S, xs[j]? = some x → I (i + j) acc S → ∃ o S', f x S = .ok o S' ∧ I (i + j + 1) (acc ++ o.toList) S') →
    ∃ ds S', loopC f xs S = .ok ds S' ∧ I (i + xs.length) (acc ++ ds) S'
  | [], i, acc, S, h0, _ => ⟨[], S, rfl, by simpa using h0⟩
  | x :: xs, i, acc, S, h0, st => by
    obtain ⟨o, S1, e1, h1⟩ := st 0 x acc S rfl h0
    obtain ⟨ds, S2, e2, h2⟩ := loopC_all I xs (i + 1) _ S1 h1 fun j y acc' S' hj hI => by
      have := st (j + 1) y acc' S' (by simpa using hj) (by rw [show i + (j + 1) = i + 1 + j by omega]; exact hI)
      rw [show i + (j + 1) + 1 = i + 1 + j + 1 by omega] at this
      exact this
    have hn : i + (x :: xs).length = i + 1 + xs.length := by simp; omega
    cases o with
    | none => exact ⟨ds, S2, by unfold loopC; rw [e1]; simp only [Res.bind, e2], by rw [hn]; simpa using h2⟩
    | some d => exact ⟨d :: ds, S2, by unfold loopC; rw [e1]; simp only [Res.bind, e2], by rw [hn]; simpa using h2⟩
theorem e_var (i : Nat) : evE CF Φ (.var i) S = match frzS S i with | some (d, S2) => .ok d S2 | none => .stuck := by rw [evE] <;> rfl
theorem e_non  : evE CF Φ (.non) S = .ok .non S := by rw [evE] <;> rfl
theorem e_bl (b : Bool) : evE CF Φ (.bl b) S = .ok (.bl b) S := by rw [evE] <;> rfl
theorem e_int (i : Int) : evE CF Φ (.int i) S = .ok (.int i) S := by rw [evE] <;> rfl
theorem e_str (s : Str) : evE CF Φ (.str s) S = .ok (.str s) S := by rw [evE] <;> rfl
theorem e_glob (x : Str) (d : D) : evE CF Φ (.glob x d) S = .ok d S := by rw [evE] <;> rfl
theorem e_bin (o : BOp) (a b : E) : evE CF Φ (.bin o a b) S = kBin CF Φ o b (evE CF Φ a S) := by rw [evE] <;> rfl
theorem e_neg (a : E) : evE CF Φ (.neg a) S = kNeg (evE CF Φ a S) := by rw [evE] <;> rfl
theorem e_cmp (o : COp) (a b : E) : evE CF Φ (.cmp o a b) S = kCmp CF Φ o b (evE CF Φ a S) := by rw [evE] <;> rfl
theorem e_cmpO (o : COp) (a : E) (i : Nat) : evE CF Φ (.cmpO o a i) S = kCmpO o i (evE CF Φ a S) := by rw [evE] <;> rfl
theorem e_isN (n : Bool) (a : E) : evE CF Φ (.isN n a) S = kIsN n (evE CF Φ a S) := by rw [evE] <;> rfl
theorem e_chain (o o2 : COp) (a b c : E) : evE CF Φ (.chain o o2 a b c) S = kCh CF Φ o o2 b c (evE CF Φ a S) := by rw [evE] <;> rfl
theorem e_conj (a b : E) : evE CF Φ (.conj a b) S = kConj CF Φ b (evE CF Φ a S) := by rw [evE] <;> rfl
theorem e_disj (a b : E) : evE CF Φ (.disj a b) S = kDisj CF Φ b (evE CF Φ a S) := by rw [evE] <;> rfl
theorem e_not (a : E) : evE CF Φ (.not a) S = kNot (evE CF Φ a S) := by rw [evE] <;> rfl
theorem e_ite (c a b : E) : evE CF Φ (.ite c a b) S = kIte CF Φ a b (evT CF Φ c S) := by rw [evE] <;> rfl
theorem e_tup (es : Es) : evE CF Φ (.tup es) S = kTup (evEs CF Φ es S) := by rw [evE] <;> rfl
theorem e_lst (es : Es) : evE CF Φ (.lst es) S = kLst (evEs CF Φ es S) := by rw [evE] <;> rfl
theorem e_dct (ks : List Str) (es : Es) : evE CF Φ (.dct ks es) S = kDct ks (evEs CF Φ es S) := by rw [evE] <;> rfl
theorem e_rep (a b : E) : evE CF Φ (.rep a b) S = kRep CF Φ b (evE CF Φ a S) := by rw [evE] <;> rfl
theorem e_idx (a b : E) : evE CF Φ (.idx a b) S = kIdx CF Φ b (evE CF Φ a S) := by rw [evE] <;> rfl
theorem e_idxO (i : Nat) (b : E) : evE CF Φ (.idxO i b) S = if (peekS S i).isSome = true then kIdxO i (evE CF Φ b S) else .stuck := by rw [evE] <;> rfl
theorem e_lenO (i : Nat) : evE CF Φ (.lenO i) S = match peekS S i with | some (.lst xs) => .ok (.int xs.length) S | _ => .stuck := by rw [evE] <;> rfl
theorem e_slV (a lo hi : E) : evE CF Φ (.slV a lo hi) S = kSlV CF Φ lo hi (evE CF Φ a S) := by rw [evE] <;> rfl
theorem e_lrg (a : E) : evE CF Φ (.lrg a) S = kLrg (evE CF Φ a S) := by rw [evE] <;> rfl
theorem e_gfn (f : Nat) : evE CF Φ (.gfn f) S = .ok (.fnv (1000 + f)) S := by rw [evE] <;> rfl
theorem e_callV (i : Nat) (es : Es) : evE CF Φ (.callV i es) S = match S[i]? with | some (.val (.fnv c)) => if 1000 ≤ c then kCallV Φ c (evEs CF Φ es S) else .stuck | _ => .stuck := by rw [evE] <;> rfl
theorem e_call (f : Nat) (es : Es) : evE CF Φ (.call f es) S = kCall Φ f (evEs CF Φ es S) := by rw [evE] <;> rfl
theorem e_callO (f i : Nat) (es : Es) : evE CF Φ (.callO f i es) S = if (peekS S i).isSome = true then kCallO Φ f i (evEs CF Φ es S) else .stuck := by rw [evE] <;> rfl
theorem e_bi (f : Bi) (es : Es) : evE CF Φ (.bi f es) S = kBi f (evEs CF Φ es S) := by rw [evE] <;> rfl
theorem e_isi (a : E) (ts : List Ty) : evE CF Φ (.isi a ts) S = kIsi ts (evE CF Φ a S) := by rw [evE] <;> rfl
theorem e_fld (a : E) (f : Str) : evE CF Φ (.fld a f) S = kFld CF f (evE CF Φ a S) := by rw [evE] <;> rfl
theorem e_fldO (i : Nat) (f : Str) : evE CF Φ (.fldO i f) S = match S[i]? with | some (.own _ (.ins c fn vs)) => if c < 500 ∧ f ∈ CF c then ofO ((fn.zip vs).lookup f) S else .stuck | _ => .stuck := by rw [evE] <;> rfl
theorem e_mk (cn f : Nat) (es : Es) : evE CF Φ (.mk cn f es) S = kMk Φ cn f (evEs CF Φ es S) := by rw [evE] <;> rfl
theorem e_pop (i : Nat) (es : Es) : evE CF Φ (.pop i es) S = match peekS S i with | some (.lst _) => kPop i (evEs CF Φ es S) | _ => .stuck := by rw [evE] <;> rfl
theorem e_app (i : Nat) (e : E) : evE CF Φ (.app i e) S = match peekS S i with | some (.lst _) => kApp i (evE CF Φ e S) | _ => .stuck := by rw [evE] <;> rfl
theorem e_gen (all : Bool) (it : E) (el : PX) : evE CF Φ (.gen all it el) S = kGen all el (evE CF Φ it S) := by rw [evE] <;> rfl
theorem e_srt (el : PX) (a : E) : evE CF Φ (.srt el a) S = kSrt el (evE CF Φ a S) := by rw [evE] <;> rfl
theorem es_nil  : evEs CF Φ (.nil) S = .ok [] S := by rw [evEs] <;> rfl
theorem es_cons (e : E) (r : Es) : evEs CF Φ (.cons e r) S = kCons CF Φ r (evE CF Φ e S) := by rw [evEs] <;> rfl
theorem o_hole : evO CF Φ .hole S = .ok none S := by rw [evO]
theorem o_var (i : Nat) : evO CF Φ (.var i) S = kSome (evE CF Φ (.var i) S) := by rw [evO] <;> first | rfl | (intros; contradiction)
theorem o_int (i : Int) : evO CF Φ (.int i) S = kSome (evE CF Φ (.int i) S) := by rw [evO] <;> first | rfl | (intros; contradiction)
theorem o_bin (o : BOp) (a b : E) : evO CF Φ (.bin o a b) S = kSome (evE CF Φ (.bin o a b) S) := by rw [evO] <;> first | rfl | (intros; contradiction)
theorem o_neg (a : E) : evO CF Φ (.neg a) S = kSome (evE CF Φ (.neg a) S) := by rw [evO] <;> first | rfl | (intros; contradiction)
theorem c_hole : evC CF Φ .hole S = .ok true S := by rw [evC]
theorem t_varE (i : Nat) : evT CF Φ (.var i) S = kTr (evE CF Φ (.var i) S) := by rw [evT] <;> first | rfl | (intros; contradiction)
theorem t_cmpE (o : COp) (a b : E) : evT CF Φ (.cmp o a b) S = kTr (evE CF Φ (.cmp o a b) S) := by rw [evT] <;> first | rfl | (intros; contradiction)
theorem t_cmpOE (o : COp) (a : E) (i : Nat) : evT CF Φ (.cmpO o a i) S = kTr (evE CF Φ (.cmpO o a i) S) := by rw [evT] <;> first | rfl | (intros; contradiction)
theorem t_isNE (n : Bool) (a : E) : evT CF Φ (.isN n a) S = kTr (evE CF Φ (.isN n a) S) := by rw [evT] <;> first | rfl | (intros; contradiction)
theorem t_chainE (o o2 : COp) (a b c : E) : evT CF Φ (.chain o o2 a b c) S = kTr (evE CF Φ (.chain o o2 a b c) S) := by rw [evT] <;> first | rfl | (intros; contradiction)
theorem t_isiE (a : E) (ts : List Ty) : evT CF Φ (.isi a ts) S = kTr (evE CF Φ (.isi a ts) S) := by rw [evT] <;> first | rfl | (intros; contradiction)
theorem t_callE (f : Nat) (es : Es) : evT CF Φ (.call f es) S = kTr (evE CF Φ (.call f es) S) := by rw [evT] <;> first | rfl | (intros; contradiction)
theorem t_callOE (f i : Nat) (es : Es) : evT CF Φ (.callO f i es) S = kTr (evE CF Φ (.callO f i es) S) := by rw [evT] <;> first | rfl | (intros; contradiction)
theorem t_callVE (i : Nat) (es : Es) : evT CF Φ (.callV i es) S = kTr (evE CF Φ (.callV i es) S) := by rw [evT] <;> first | rfl | (intros; contradiction)
theorem t_genE (all : Bool) (it : E) (el : PX) : evT CF Φ (.gen all it el) S = kTr (evE CF Φ (.gen all it el) S) := by rw [evT] <;> first | rfl | (intros; contradiction)
theorem t_biE (f : Bi) (es : Es) : evT CF Φ (.bi f es) S = kTr (evE CF Φ (.bi f es) S) := by rw [evT] <;> first | rfl | (intros; contradiction)
theorem t_idxE (a b : E) : evT CF Φ (.idx a b) S = kTr (evE CF Φ (.idx a b) S) := by rw [evT] <;> first | rfl | (intros; contradiction)
theorem t_idxOE (i : Nat) (b : E) : evT CF Φ (.idxO i b) S = kTr (evE CF Φ (.idxO i b) S) := by rw [evT] <;> first | rfl | (intros; contradiction)
theorem t_fldE (a : E) (f : Str) : evT CF Φ (.fld a f) S = kTr (evE CF Φ (.fld a f) S) := by rw [evT] <;> first | rfl | (intros; contradiction)
theorem t_slVE (a lo hi : E) : evT CF Φ (.slV a lo hi) S = kTr (evE CF Φ (.slV a lo hi) S) := by rw [evT] <;> first | rfl | (intros; contradiction)
theorem t_conjE (a b : E) : evT CF Φ (.conj a b) S = kTAnd CF Φ b (evT CF Φ a S) := by rw [evT] <;> rfl
theorem t_disjE (a b : E) : evT CF Φ (.disj a b) S = kTOr CF Φ b (evT CF Φ a S) := by rw [evT] <;> rfl
theorem t_notE (a : E) : evT CF Φ (.not a) S = kTNot (evT CF Φ a S) := by rw [evT] <;> rfl
theorem c_varE (i : Nat) : evC CF Φ (.var i) S = evT CF Φ (.var i) S := by rw [evC] <;> first | rfl | (intros; contradiction)
theorem c_cmpE (o : COp) (a b : E) : evC CF Φ (.cmp o a b) S = evT CF Φ (.cmp o a b) S := by rw [evC] <;> first | rfl | (intros; contradiction)
theorem c_cmpOE (o : COp) (a : E) (i : Nat) : evC CF Φ (.cmpO o a i) S = evT CF Φ (.cmpO o a i) S := by rw [evC] <;> first | rfl | (intros; contradiction)
theorem c_isNE (n : Bool) (a : E) : evC CF Φ (.isN n a) S = evT CF Φ (.isN n a) S := by rw [evC] <;> first | rfl | (intros; contradiction)
theorem c_chainE (o o2 : COp) (a b c : E) : evC CF Φ (.chain o o2 a b c) S = evT CF Φ (.chain o o2 a b c) S := by rw [evC] <;> first | rfl | (intros; contradiction)
theorem c_isiE (a : E) (ts : List Ty) : evC CF Φ (.isi a ts) S = evT CF Φ (.isi a ts) S := by rw [evC] <;> first | rfl | (intros; contradiction)
theorem c_callE (f : Nat) (es : Es) : evC CF Φ (.call f es) S = evT CF Φ (.call f es) S := by rw [evC] <;> first | rfl | (intros; contradiction)
theorem c_callOE (f i : Nat) (es : Es) : evC CF Φ (.callO f i es) S = evT CF Φ (.callO f i es) S := by rw [evC] <;> first | rfl | (intros; contradiction)
theorem c_callVE (i : Nat) (es : Es) : evC CF Φ (.callV i es) S = evT CF Φ (.callV i es) S := by rw [evC] <;> first | rfl | (intros; contradiction)
theorem c_genE (all : Bool) (it : E) (el : PX) : evC CF Φ (.gen all it el) S = evT CF Φ (.gen all it el) S := by rw [evC] <;> first | rfl | (intros; contradiction)
theorem c_biE (f : Bi) (es : Es) : evC CF Φ (.bi f es) S = evT CF Φ (.bi f es) S := by rw [evC] <;> first | rfl | (intros; contradiction)
theorem c_idxE (a b : E) : evC CF Φ (.idx a b) S = evT CF Φ (.idx a b) S := by rw [evC] <;> first | rfl | (intros; contradiction)
theorem c_idxOE (i : Nat) (b : E) : evC CF Φ (.idxO i b) S = evT CF Φ (.idxO i b) S := by rw [evC] <;> first | rfl | (intros; contradiction)
theorem c_fldE (a : E) (f : Str) : evC CF Φ (.fld a f) S = evT CF Φ (.fld a f) S := by rw [evC] <;> first | rfl | (intros; contradiction)
theorem c_slVE (a lo hi : E) : evC CF Φ (.slV a lo hi) S = evT CF Φ (.slV a lo hi) S := by rw [evC] <;> first | rfl | (intros; contradiction)
theorem c_conjE (a b : E) : evC CF Φ (.conj a b) S = evT CF Φ (.conj a b) S := by rw [evC] <;> first | rfl | (intros; contradiction)
theorem c_disjE (a b : E) : evC CF Φ (.disj a b) S = evT CF Φ (.disj a b) S := by rw [evC] <;> first | rfl | (intros; contradiction)
theorem c_notE (a : E) : evC CF Φ (.not a) S = evT CF Φ (.not a) S := by rw [evC] <;> first | rfl | (intros; contradiction)
theorem i_rng (es : Es) : evI CF Φ (.rng es) S = kRng (evEs CF Φ es S) := by rw [evI] <;> rfl
theorem i_enm (a : E) : evI CF Φ (.enm a) S = kEnm (evE CF Φ a S) := by rw [evI] <;> rfl
theorem i_varE (i : Nat) : evI CF Φ (.var i) S = kElm (evE CF Φ (.var i) S) := by rw [evI] <;> first | rfl | (intros; contradiction)
theorem i_idxE (a b : E) : evI CF Φ (.idx a b) S = kElm (evE CF Φ (.idx a b) S) := by rw [evI] <;> first | rfl | (intros; contradiction)
theorem i_callE (f : Nat) (es : Es) : evI CF Φ (.call f es) S = kElm (evE CF Φ (.call f es) S) := by rw [evI] <;> first | rfl | (intros; contradiction)
theorem i_callOE (f i : Nat) (es : Es) : evI CF Φ (.callO f i es) S = kElm (evE CF Φ (.callO f i es) S) := by rw [evI] <;> first | rfl | (intros; contradiction)
theorem i_slVE (a lo hi : E) : evI CF Φ (.slV a lo hi) S = kElm (evE CF Φ (.slV a lo hi) S) := by rw [evI] <;> first | rfl | (intros; contradiction)
theorem i_fldE (a : E) (f : Str) : evI CF Φ (.fld a f) S = kElm (evE CF Φ (.fld a f) S) := by rw [evI] <;> first | rfl | (intros; contradiction)
theorem i_fldOE (i : Nat) (f : Str) : evI CF Φ (.fldO i f) S = kElm (evE CF Φ (.fldO i f) S) := by rw [evI] <;> first | rfl | (intros; contradiction)
theorem i_tupE (es : Es) : evI CF Φ (.tup es) S = kElm (evE CF Φ (.tup es) S) := by rw [evI] <;> first | rfl | (intros; contradiction)
theorem i_biE (f : Bi) (es : Es) : evI CF Φ (.bi f es) S = kElm (evE CF Φ (.bi f es) S) := by rw [evI] <;> first | rfl | (intros; contradiction)
theorem i_lstE (es : Es) : evI CF Φ (.lst es) S = kElm (evE CF Φ (.lst es) S) := by rw [evI] <;> first | rfl | (intros; contradiction)
theorem b_asg (i : Nat) (e : E) : evB CF Φ (.asg i e) S = sAsg i (evE CF Φ e S) := by rw [evB] <;> first | rfl | (cases evBs CF Φ b S <;> rfl)
theorem b_asgN (i : Nat) (e : E) : evB CF Φ (.asgN i e) S = sAsgN i (evE CF Φ e S) := by rw [evB] <;> first | rfl | (cases evBs CF Φ b S <;> rfl)
theorem b_aug (i : Nat) (o : BOp) (e : E) : evB CF Φ (.aug i o e) S = sAug i o S[i]? (evE CF Φ e S) := by simp only [evB] <;> rfl
theorem b_unp (ts : List Nat) (e : E) : evB CF Φ (.unp ts e) S = sUnp ts (evE CF Φ e S) := by rw [evB] <;> first | rfl | (cases evBs CF Φ b S <;> rfl)
theorem b_six (i : Nat) (ix e : E) : evB CF Φ (.six i ix e) S = sSix CF Φ i ix (evE CF Φ e S) := by rw [evB] <;> first | rfl | (cases evBs CF Φ b S <;> rfl)
theorem b_sfl (i : Nat) (f : Str) (e : E) : evB CF Φ (.sfl i f e) S = sSfl CF i f (evE CF Φ e S) := by rw [evB] <;> first | rfl | (cases evBs CF Φ b S <;> rfl)
theorem b_exp (e : E) : evB CF Φ (.exp e) S = sExp (evE CF Φ e S) := by rw [evB] <;> first | rfl | (cases evBs CF Φ b S <;> rfl)
theorem b_iff (c : E) (a b : Bs) : evB CF Φ (.iff c a b) S = sIff CF Φ a b (evT CF Φ c S) := by rw [evB] <;> first | rfl | (cases evBs CF Φ b S <;> rfl)
theorem b_for (ts : List Nat) (it : E) (b : Bs) : evB CF Φ (.for ts it b) S = sFor CF Φ ts b (evI CF Φ it S) := by rw [evB] <;> first | rfl | (cases evBs CF Φ b S <;> rfl)
theorem b_brk  : evB CF Φ (.brk) S = .bk S := by rw [evB] <;> first | rfl | (cases evBs CF Φ b S <;> rfl)
theorem b_cnt  : evB CF Φ (.cnt) S = .ct S := by rw [evB] <;> first | rfl | (cases evBs CF Φ b S <;> rfl)
theorem b_pas  : evB CF Φ (.pas) S = .nx S := by rw [evB] <;> first | rfl | (cases evBs CF Φ b S <;> rfl)
theorem b_ret (e : E) : evB CF Φ (.ret e) S = sRet (evE CF Φ e S) := by rw [evB] <;> first | rfl | (cases evBs CF Φ b S <;> rfl)
theorem b_retN  : evB CF Φ (.retN) S = .rt .non S := by rw [evB] <;> first | rfl | (cases evBs CF Φ b S <;> rfl)
theorem b_retL (e : E) : evB CF Φ (.retL e) S = sRetL (evE CF Φ e S) := by rw [evB] <;> first | rfl | (cases evBs CF Φ b S <;> rfl)
theorem b_asgF (i f : Nat) (es : Es) : evB CF Φ (.asgF i f es) S = sAsgF Φ i f (evEs CF Φ es S) := by rw [evB] <;> first | rfl | (cases evBs CF Φ b S <;> rfl)
theorem b_rse (cn : Nat) (fs : List Str) (es : Es) : evB CF Φ (.rse cn fs es) S = sRse cn fs (evEs CF Φ es S) := by rw [evB] <;> first | rfl | (cases evBs CF Φ b S <;> rfl)
theorem b_rsp (cn : Nat) (es : Es) : evB CF Φ (.rsp cn es) S = sRsp cn (evEs CF Φ es S) := by rw [evB] <;> first | rfl | (cases evBs CF Φ b S <;> rfl)
theorem b_tri (b : Bs) (hs : List (Str × Nat × HX)) : evB CF Φ (.tri b hs) S = triR CF hs (evBs CF Φ b S) := by rw [evB] <;> first | rfl | (cases evBs CF Φ b S <;> rfl)
theorem bs_nil : evBs CF Φ .nil S = .nx S := by rw [evBs]
theorem bs_cons (b : B) (r : Bs) : evBs CF Φ (.cons b r) S = seqB CF Φ r (evB CF Φ b S) := by rw [evBs] <;> rfl
end

set_option linter.all false
set_option maxRecDepth 100000
set_option maxHeartbeats 4000000
open PySem PySem.Spec PyProof.Rows L2

/-! ### data -/
theorem bin_add (i j : Int) : binD .add (.int i) (.int j) = some (.int (i + j)) := rfl
theorem bin_sub (i j : Int) : binD .sub (.int i) (.int j) = some (.int (i - j)) := rfl
theorem bin_mod {i j : Int} (h : 0 < j) : binD .mod (.int i) (.int j) = some (.int (i % j)) := if_pos h
theorem bin_fdiv {i j : Int} (h : 0 < j) (h2 : j.natAbs.log2 < 9000) : binD .fdiv (.int i) (.int j) = some (.int (i / j)) := if_pos ⟨h, h2⟩
theorem bin_mulR {i j : Int} (h : j.natAbs < 2 ^ 64) : binD .mul (.int i) (.int j) = some (.int (i * j)) := if_pos (.inl (.inr h))
theorem bin_mulL {i j : Int} (h : i.natAbs < 2 ^ 64) : binD .mul (.int i) (.int j) = some (.int (i * j)) := if_pos (.inl (.inl h))
theorem bin_pow {i j : Int} (h : 0 ≤ j ∧ j ≤ 1000000 ∧ i.natAbs < 2 ^ 64) : binD .pow (.int i) (.int j) = some (.int (i ^ j.toNat)) := if_pos h
theorem pow_8 : binD .pow (.int 10) (.int 8) = some (.int 100000000) := by rw [bin_pow (by decide)]; rfl
theorem pow_18 : binD .pow (.int 10) (.int 18) = some (.int 1000000000000000000) := by rw [bin_pow (by decide)]; rfl
theorem pow_28 : binD .pow (.int 10) (.int 28) = some (.int 10000000000000000000000000000) := by rw [bin_pow (by decide)]; rfl
theorem pow_30 : binD .pow (.int 10) (.int 30) = some (.int 1000000000000000000000000000000) := by rw [bin_pow (by decide)]; rfl
theorem pow_31 : binD .pow (.int 10) (.int 31) = some (.int 10000000000000000000000000000000) := by rw [bin_pow (by decide)]; rfl
theorem pow_9 : binD .pow (.int 10) (.int 9) = some (.int 1000000000) := by rw [bin_pow (by decide)]; rfl
theorem atI_get {α : Type} (xs : List α) (i : Int) (h0 : 0 ≤ i) (h1 : i < xs.length) : atI xs i = xs[i.toNat]? := by
  show (ixN _ _).bind _ = _
  unfold ixN
  rw [if_pos h0, if_pos (by omega)]
  rfl
theorem atI_ex {α : Type} (xs : List α) (i : Int) (h0 : 0 ≤ i) (h1 : i < xs.length) : ∃ x, atI xs i = some x ∧ x ∈ xs := by
  rw [atI_get xs i h0 h1]
  have : i.toNat < xs.length := by omega
  exact ⟨xs[i.toNat], List.getElem?_eq_getElem this, List.getElem_mem this⟩
theorem len_lst (xs : List D) : biD .len [.lst xs] = some (.int xs.length) := rfl
theorem len_tup (xs : List D) : biD .len [.tup xs] = some (.int xs.length) := rfl
theorem cmp_lt (i j : Int) : cmpD .lt (.int i) (.int j) = some (decide (i < j)) := rfl
theorem cmp_le (i j : Int) : cmpD .le (.int i) (.int j) = some (decide (i ≤ j)) := rfl
theorem cmp_gt (i j : Int) : cmpD .gt (.int i) (.int j) = some (decide (j < i)) := rfl
theorem cmp_ge (i j : Int) : cmpD .ge (.int i) (.int j) = some (decide (j ≤ i)) := rfl
theorem cmp_eqI (i j : Int) : cmpD .eq (.int i) (.int j) = some (decide (i = j)) := rfl
theorem cmp_neI (i j : Int) : cmpD .ne (.int i) (.int j) = some (!decide (i = j)) := rfl
theorem ixN_0 (n : Nat) : ixN (n + 1) 0 = some 0 := by unfold ixN; simp
theorem ixN_1 (n : Nat) : ixN (n + 1 + 1) 1 = some 1 := by unfold ixN; simp; omega
theorem ixN_2 (n : Nat) : ixN (n + 1 + 1 + 1) 2 = some 2 := by unfold ixN; simp; omega
theorem ixN_3 (n : Nat) : ixN (n + 1 + 1 + 1 + 1) 3 = some 3 := by unfold ixN; simp; omega
theorem idx_l0 (a : D) (l : List D) : idxD (.lst (a :: l)) (.int 0) = some a := by
  show (ixN _ 0).bind _ = _
  rw [List.length_cons, ixN_0]; rfl
theorem idx_l1 (a b : D) (l : List D) : idxD (.lst (a :: b :: l)) (.int 1) = some b := by
  show (ixN _ 1).bind _ = _
  rw [List.length_cons, List.length_cons, ixN_1]; rfl
theorem idx_l2 (a b c : D) (l : List D) : idxD (.lst (a :: b :: c :: l)) (.int 2) = some c := by
  show (ixN _ 2).bind _ = _
  rw [List.length_cons, List.length_cons, List.length_cons, ixN_2]; rfl
theorem idx_l3 (a b c d : D) (l : List D) : idxD (.lst (a :: b :: c :: d :: l)) (.int 3) = some d := by
  show (ixN _ 3).bind _ = _
  rw [List.length_cons, List.length_cons, List.length_cons, List.length_cons, ixN_3]; rfl
theorem tru_bl (b : Bool) : truD (.bl b) = some b := rfl
theorem bi_intI (i : Int) : biD .int [.int i] = some (.int i) := rfl
theorem peekS_succ {a : SD} {S : List SD} {i : Nat} : peekS (a :: S) (i + 1) = peekS S i := rfl
theorem peek_val {d : D} {S : List SD} : peekS (.val d :: S) 0 = some d := rfl
theorem peek_own {fz : Bool} {o : OC} {S : List SD} : peekS (.own fz o :: S) 0 = some o.toD := rfl
theorem toD_lst (xs : List D) : (OC.lst xs).toD = .lst xs := rfl
theorem toD_ins (c : Nat) (fn : List Str) (vs : List D) : (OC.ins c fn vs).toD = .obj c fn vs := rfl
theorem frz_val {d : D} {S : List SD} : frzS (.val d :: S) 0 = some (d, .val d :: S) := rfl
theorem frz_own {o : OC} {S : List SD} : frzS (.own true o :: S) 0 = some (o.toD, .val o.toD :: S) := rfl
theorem frz_succ {a : SD} {S : List SD} {i : Nat} : frzS (a :: S) (i + 1) = (frzS S i).map fun p => (p.1, a :: p.2) := by
  unfold frzS
  rw [List.getElem?_cons_succ]
  cases S[i]? with
  | none => rfl
  | some x =>
    cases x with
    | un => rfl
    | val d => rfl
    | own fz o => cases fz <;> rfl
theorem lt_cap {n : Nat} (h : n < 100000) : n < cap := h
theorem le_cap {n : Nat} (h : n ≤ 100000) : n ≤ cap := h
theorem tup_1 {a0 : D} {S : List SD} : kTup (.ok [a0] S) = .ok (.tup [a0]) S := by
  rw [kTup_ok, if_pos]
  exact le_cap (by simp)
theorem tup_2 {a0 a1 : D} {S : List SD} : kTup (.ok [a0, a1] S) = .ok (.tup [a0, a1]) S := by
  rw [kTup_ok, if_pos]
  exact le_cap (by simp)
theorem tup_3 {a0 a1 a2 : D} {S : List SD} : kTup (.ok [a0, a1, a2] S) = .ok (.tup [a0, a1, a2]) S := by
  rw [kTup_ok, if_pos]
  exact le_cap (by simp)
theorem tup_4 {a0 a1 a2 a3 : D} {S : List SD} : kTup (.ok [a0, a1, a2, a3] S) = .ok (.tup [a0, a1, a2, a3]) S := by
  rw [kTup_ok, if_pos]
  exact le_cap (by simp)
theorem tup_5 {a0 a1 a2 a3 a4 : D} {S : List SD} : kTup (.ok [a0, a1, a2, a3, a4] S) = .ok (.tup [a0, a1, a2, a3, a4]) S := by
  rw [kTup_ok, if_pos]
  exact le_cap (by simp)
theorem tup_12 {a0 a1 a2 a3 a4 a5 a6 a7 a8 a9 a10 a11 : D} {S : List SD} : kTup (.ok [a0, a1, a2, a3, a4, a5, a6, a7, a8, a9, a10, a11] S) = .ok (.tup [a0, a1, a2, a3, a4, a5, a6, a7, a8, a9, a10, a11]) S := by
  rw [kTup_ok, if_pos]
  exact le_cap (by simp)
theorem lst_0 {S : List SD} : kLst (.ok [] S) = .ok (.lst []) S := by
  rw [kLst_ok, if_pos]
  exact le_cap (by simp)
theorem lst_1 {a0 : D} {S : List SD} : kLst (.ok [a0] S) = .ok (.lst [a0]) S := by
  rw [kLst_ok, if_pos]
  exact le_cap (by simp)
theorem lst_4 {a0 a1 a2 a3 : D} {S : List SD} : kLst (.ok [a0, a1, a2, a3] S) = .ok (.lst [a0, a1, a2, a3]) S := by
  rw [kLst_ok, if_pos]
  exact le_cap (by simp)
theorem elm_lst (xs : List D) : elmD (.lst xs) = some xs := rfl
theorem elm_tup (xs : List D) : elmD (.tup xs) = some xs := rfl
theorem tru_lst (xs : List D) : truD (.lst xs) = some (!xs.isEmpty) := rfl
theorem bindT_1 (i : Nat) (d : D) (S : List SD) : bindT [i] d S = some (S.set i (.val d)) := rfl

theorem finD_rtT {d : D} {o : OC} {S : List SD} : finD true (.rt d (.own false o :: S)) = .ret d (some o) := rfl
theorem finD_nxT {o : OC} {S : List SD} : finD true (.nx (.own false o :: S)) = .ret .non (some o) := rfl
theorem finD_excT {cn : Nat} {fn : List Str} {vs : List D} {o : OC} {S : List SD} : finD true (.exc cn fn vs (.own false o :: S)) = .exc cn fn vs (some o) := rfl
theorem finD_rtF {d : D} {S : List SD} : finD false (.rt d S) = .ret d none := rfl
theorem finD_nxF {S : List SD} : finD false (.nx S) = .ret .non none := rfl
theorem finD_rtNF {xs : List D} {S : List SD} : finD false (.rtN xs S) = .retN xs := rfl
theorem finD_excF {cn : Nat} {fn : List Str} {vs : List D} {S : List SD} : finD false (.exc cn fn vs S) = .exc cn fn vs none := rfl
theorem log2_le {n k : Nat} (h : n < 2 ^ k) (hk : 0 < k) : n.log2 < k := by
  by_cases h0 : n = 0
  · subst h0; simpa using hk
  · exact (Nat.log2_lt h0).mpr h
/-! ### defs, by their bodies -/
def Has (S : Src) (i : Nat) (io : Bool) (nN np : Nat) (body : Bs) : Prop := ∃ d, S.ds[i]? = some d ∧ d.io = io ∧ d.N.length = nN ∧ d.ps.length = np ∧ d.body = body
theorem Has.run {S : Src} {i : Nat} {io : Bool} {nN np : Nat} {body : Bs} (h : Has S i io nN np body) (n : Nat) (o : Option OC) (vs : List D) (e1 : o.isSome = io) (e2 : vs.length + cond io 1 0 = np) :
    S.run (n + 1) i o vs = finD io (evBs S.CF (S.run n) body (startS nN o vs)) := by
  obtain ⟨d, h1, h2, h3, h4, h5⟩ := h
  simp only [Src.run]
  rw [h1]
  simp only [arOk, h2, h4, e1, e2, h3, h5, beq_self_eq_true, Bool.and_self, if_true]
  rfl
def bTake : Bs := (.cons (.iff (.cmp .gt (.idxO 0 (.int 2)) (.int 0)) (.cons (.asg 2 (.bin .mod (.bi .int (.cons (.idxO 0 (.int 2)) .nil)) (.var 1))) (.cons (.six 0 (.int 2) (.bin .fdiv (.idxO 0 (.int 2)) (.var 1))) (.cons (.ret (.var 2)) .nil))) .nil) (.cons (.asg 3 (.int 0)) (.cons (.iff (.cmp .lt (.idxO 0 (.int 1)) (.bi .len (.cons (.idxO 0 (.int 0)) .nil))) (.cons (.asg 3 (.idx (.idxO 0 (.int 0)) (.idxO 0 (.int 1)))) .nil) .nil) (.cons (.six 0 (.int 1) (.bin .add (.idxO 0 (.int 1)) (.int 1))) (.cons (.iff (.cmp .ge (.var 3) (.bin .pow (.int 10) (.int 18))) (.cons (.six 0 (.int 2) (.bin .fdiv (.var 3) (.int 2))) (.cons (.ret (.callO 8 0 (.cons (.var 1) .nil))) .nil)) .nil) (.cons (.six 0 (.int 3) (.bin .mod (.bi .int (.cons (.bin .add (.bin .add (.bin .mul (.idxO 0 (.int 3)) (.int 48271)) (.bin .mul (.var 3) (.int 69621))) (.bin .mul (.idxO 0 (.int 1)) (.int 613))) .nil)) (.int 2147483647))) (.cons (.asg 4 (.bin .mod (.bi .int (.cons (.bin .add (.bin .add (.bin .mul (.idxO 0 (.int 3)) (.idxO 0 (.int 3))) (.bin .mul (.idxO 0 (.int 3)) (.int 7919))) (.int 104729)) .nil)) (.int 1000000007))) (.cons (.ret (.bin .mod (.bi .int (.cons (.bin .fdiv (.var 4) (.int 3)) .nil)) (.var 1))) .nil))))))))
/-- a pool's content -/
def poolD (xs : List D) (p r s : Int) : OC := .lst [.lst xs, .int p, .int r, .int s]
local macro_rules | `(tactic| simp! [$a,*]) => `(tactic| simp only [kBin_ok, kBin2_ok, kCmp_ok, kCmp2_ok, kCmpO_ok, kIsN_ok, kCh_ok, kCh2_ok, kDct_ok, kRep_ok, kIdx_ok, kIdx2_ok, kIdxO_ok, kSlV_ok, kSlV2_ok, kSlV3_ok, kCall_ok, kCallV_ok, kCallO_ok, kBi_ok, kIsi_ok, kFld_ok, kMk_ok, kPop_ok, kApp_ok, kGen_ok, kSrt_ok, kCons_ok, kCons2_ok, kSome_ok, kTr_ok, kTNot_ok, kRng_ok, kEnm_ok, kElm_ok, sAsg_ok, sAsgN_ok, sAug_add, sAug_sub, sUnp_ok, sSix_ok, sSix2_ok, sSfl_ok, sExp_ok, sFor_ok, sRet_ok, sRetL_ok, sAsgF_ok, sRse_ok, sRsp_1, kNeg_ok, kConj_t, kConj_f, kDisj_t, kDisj_f, kNot_ok, kIte_t, kIte_f, kTAnd_t, kTAnd_f, kTOr_t, kTOr_f, sIff_t, sIff_f, kCh3_t, kCh3_f, kCh4_ok, seq_nx, seq_rt, seq_rtN, seq_bk, seq_ct, tri_nx, tri_rt, ofO_some, ofB_some, ofF_ret, ofF_retN, ofFO_ret, kCmpr_ok, cEnd_ok, cBody_some, cBody2_t, cBody2_f, cBody3_ok, e_cmpr, sBody_some, loop_nx, loop_bk, loop_out, loopC_all, e_var, e_non, e_bl, e_int, e_str, e_glob, e_bin, e_neg, e_cmp, e_cmpO, e_isN, e_chain, e_conj, e_disj, e_not, e_ite, e_tup, e_lst, e_dct, e_rep, e_idx, e_idxO, e_lenO, e_slV, e_lrg, e_gfn, e_callV, e_call, e_callO, e_bi, e_isi, e_fld, e_fldO, e_mk, e_pop, e_app, e_gen, e_srt, es_nil, es_cons, o_hole, o_var, o_int, o_bin, o_neg, c_hole, t_varE, t_cmpE, t_cmpOE, t_isNE, t_chainE, t_isiE, t_callE, t_callOE, t_callVE, t_genE, t_biE, t_idxE, t_idxOE, t_fldE, t_slVE, t_conjE, t_disjE, t_notE, c_varE, c_cmpE, c_cmpOE, c_isNE, c_chainE, c_isiE, c_callE, c_callOE, c_callVE, c_genE, c_biE, c_idxE, c_idxOE, c_fldE, c_slVE, c_conjE, c_disjE, c_notE, i_rng, i_enm, i_varE, i_idxE, i_callE, i_callOE, i_slVE, i_fldE, i_fldOE, i_tupE, i_biE, i_lstE, b_asg, b_asgN, b_aug, b_unp, b_six, b_sfl, b_exp, b_iff, b_for, b_brk, b_cnt, b_pas, b_ret, b_retN, b_retL, b_asgF, b_rse, b_rsp, b_tri, bs_nil, bs_cons, ofO_some, ofB_some, peek_val, peek_own, peekS_succ, frz_val, frz_own, frz_succ, Option.map_some, finD_rtT, finD_nxT, finD_rtF, finD_nxF, finD_rtNF, finD_excF, finD_excT, toD_lst, toD_ins, List.getElem?_cons_zero, List.getElem?_cons_succ, List.set_cons_zero, List.set_cons_succ, Option.isSome_some, if_true, tru_bl, bi_intI, bin_add, bin_sub, cmp_lt, cmp_le, cmp_gt, cmp_ge, idx_l0, idx_l1, idx_l2, idx_l3, decide_true, decide_false, tup_1, tup_2, tup_3, tup_4, tup_5, tup_12, lst_0, lst_1, lst_4, List.map_cons, List.map_nil, elm_lst, elm_tup, tru_lst, List.length_cons, List.length_nil, ixN_0, ixN_1, ixN_2, ixN_3, bindT_1, $a,*])
local macro_rules | `(tactic| simp! [$a,*] at $h:ident) => `(tactic| simp only [kBin_ok, kBin2_ok, kCmp_ok, kCmp2_ok, kCmpO_ok, kIsN_ok, kCh_ok, kCh2_ok, kDct_ok, kRep_ok, kIdx_ok, kIdx2_ok, kIdxO_ok, kSlV_ok, kSlV2_ok, kSlV3_ok, kCall_ok, kCallV_ok, kCallO_ok, kBi_ok, kIsi_ok, kFld_ok, kMk_ok, kPop_ok, kApp_ok, kGen_ok, kSrt_ok, kCons_ok, kCons2_ok, kSome_ok, kTr_ok, kTNot_ok, kRng_ok, kEnm_ok, kElm_ok, sAsg_ok, sAsgN_ok, sAug_add, sAug_sub, sUnp_ok, sSix_ok, sSix2_ok, sSfl_ok, sExp_ok, sFor_ok, sRet_ok, sRetL_ok, sAsgF_ok, sRse_ok, sRsp_1, kNeg_ok, kConj_t, kConj_f, kDisj_t, kDisj_f, kNot_ok, kIte_t, kIte_f, kTAnd_t, kTAnd_f, kTOr_t, kTOr_f, sIff_t, sIff_f, kCh3_t, kCh3_f, kCh4_ok, seq_nx, seq_rt, seq_rtN, seq_bk, seq_ct, tri_nx, tri_rt, ofO_some, ofB_some, ofF_ret, ofF_retN, ofFO_ret, kCmpr_ok, cEnd_ok, cBody_some, cBody2_t, cBody2_f, cBody3_ok, e_cmpr, sBody_some, loop_nx, loop_bk, loop_out, loopC_all, e_var, e_non, e_bl, e_int, e_str, e_glob, e_bin, e_neg, e_cmp, e_cmpO, e_isN, e_chain, e_conj, e_disj, e_not, e_ite, e_tup, e_lst, e_dct, e_rep, e_idx, e_idxO, e_lenO, e_slV, e_lrg, e_gfn, e_callV, e_call, e_callO, e_bi, e_isi, e_fld, e_fldO, e_mk, e_pop, e_app, e_gen, e_srt, es_nil, es_cons, o_hole, o_var, o_int, o_bin, o_neg, c_hole, t_varE, t_cmpE, t_cmpOE, t_isNE, t_chainE, t_isiE, t_callE, t_callOE, t_callVE, t_genE, t_biE, t_idxE, t_idxOE, t_fldE, t_slVE, t_conjE, t_disjE, t_notE, c_varE, c_cmpE, c_cmpOE, c_isNE, c_chainE, c_isiE, c_callE, c_callOE, c_callVE, c_genE, c_biE, c_idxE, c_idxOE, c_fldE, c_slVE, c_conjE, c_disjE, c_notE, i_rng, i_enm, i_varE, i_idxE, i_callE, i_callOE, i_slVE, i_fldE, i_fldOE, i_tupE, i_biE, i_lstE, b_asg, b_asgN, b_aug, b_unp, b_six, b_sfl, b_exp, b_iff, b_for, b_brk, b_cnt, b_pas, b_ret, b_retN, b_retL, b_asgF, b_rse, b_rsp, b_tri, bs_nil, bs_cons, ofO_some, ofB_some, peek_val, peek_own, peekS_succ, frz_val, frz_own, frz_succ, Option.map_some, finD_rtT, finD_nxT, finD_rtF, finD_nxF, finD_rtNF, finD_excF, finD_excT, toD_lst, toD_ins, List.getElem?_cons_zero, List.getElem?_cons_succ, List.set_cons_zero, List.set_cons_succ, Option.isSome_some, if_true, tru_bl, bi_intI, bin_add, bin_sub, cmp_lt, cmp_le, cmp_gt, cmp_ge, idx_l0, idx_l1, idx_l2, idx_l3, decide_true, decide_false, tup_1, tup_2, tup_3, tup_4, tup_5, tup_12, lst_0, lst_1, lst_4, List.map_cons, List.map_nil, elm_lst, elm_tup, tru_lst, List.length_cons, List.length_nil, ixN_0, ixN_1, ixN_2, ixN_3, bindT_1, $a,*] at $h:ident)
local macro_rules | `(tactic| dsimp! [$a,*]) => `(tactic| simp only [kBin_ok, kBin2_ok, kCmp_ok, kCmp2_ok, kCmpO_ok, kIsN_ok, kCh_ok, kCh2_ok, kDct_ok, kRep_ok, kIdx_ok, kIdx2_ok, kIdxO_ok, kSlV_ok, kSlV2_ok, kSlV3_ok, kCall_ok, kCallV_ok, kCallO_ok, kBi_ok, kIsi_ok, kFld_ok, kMk_ok, kPop_ok, kApp_ok, kGen_ok, kSrt_ok, kCons_ok, kCons2_ok, kSome_ok, kTr_ok, kTNot_ok, kRng_ok, kEnm_ok, kElm_ok, sAsg_ok, sAsgN_ok, sAug_add, sAug_sub, sUnp_ok, sSix_ok, sSix2_ok, sSfl_ok, sExp_ok, sFor_ok, sRet_ok, sRetL_ok, sAsgF_ok, sRse_ok, sRsp_1, kNeg_ok, kConj_t, kConj_f, kDisj_t, kDisj_f, kNot_ok, kIte_t, kIte_f, kTAnd_t, kTAnd_f, kTOr_t, kTOr_f, sIff_t, sIff_f, kCh3_t, kCh3_f, kCh4_ok, seq_nx, seq_rt, seq_rtN, seq_bk, seq_ct, tri_nx, tri_rt, ofO_some, ofB_some, ofF_ret, ofF_retN, ofFO_ret, kCmpr_ok, cEnd_ok, cBody_some, cBody2_t, cBody2_f, cBody3_ok, e_cmpr, sBody_some, loop_nx, loop_bk, loop_out, loopC_all, e_var, e_non, e_bl, e_int, e_str, e_glob, e_bin, e_neg, e_cmp, e_cmpO, e_isN, e_chain, e_conj, e_disj, e_not, e_ite, e_tup, e_lst, e_dct, e_rep, e_idx, e_idxO, e_lenO, e_slV, e_lrg, e_gfn, e_callV, e_call, e_callO, e_bi, e_isi, e_fld, e_fldO, e_mk, e_pop, e_app, e_gen, e_srt, es_nil, es_cons, o_hole, o_var, o_int, o_bin, o_neg, c_hole, t_varE, t_cmpE, t_cmpOE, t_isNE, t_chainE, t_isiE, t_callE, t_callOE, t_callVE, t_genE, t_biE, t_idxE, t_idxOE, t_fldE, t_slVE, t_conjE, t_disjE, t_notE, c_varE, c_cmpE, c_cmpOE, c_isNE, c_chainE, c_isiE, c_callE, c_callOE, c_callVE, c_genE, c_biE, c_idxE, c_idxOE, c_fldE, c_slVE, c_conjE, c_disjE, c_notE, i_rng, i_enm, i_varE, i_idxE, i_callE, i_callOE, i_slVE, i_fldE, i_fldOE, i_tupE, i_biE, i_lstE, b_asg, b_asgN, b_aug, b_unp, b_six, b_sfl, b_exp, b_iff, b_for, b_brk, b_cnt, b_pas, b_ret, b_retN, b_retL, b_asgF, b_rse, b_rsp, b_tri, bs_nil, bs_cons, kBin_exc, kBin2_exc, kNeg_exc, kCmp_exc, kCmp2_exc, kCmpO_exc, kIsN_exc, kCh_exc, kCh2_exc, kConj_exc, kDisj_exc, kNot_exc, kIte_exc, kTup_exc, kLst_exc, kDct_exc, kRep_exc, kRep2_exc, kIdx_exc, kIdx2_exc, kIdxO_exc, kSlV_exc, kSlV2_exc, kLrg_exc, kCall_exc, kCallV_exc, kCallO_exc, kBi_exc, kIsi_exc, kFld_exc, kMk_exc, kPop_exc, kApp_exc, kGen_exc, kSrt_exc, kCons_exc, kCons2_exc, kSome_exc, kTr_exc, kTAnd_exc, kTOr_exc, kTNot_exc, kRng_exc, kEnm_exc, kElm_exc, sAsg_exc, sAsgN_exc, sUnp_exc, sSix_exc, sSix2_exc, sSfl_exc, sExp_exc, sIff_exc, sFor_exc, sRet_exc, sRetL_exc, sAsgF_exc, sRse_exc, seq_exc, tri_exc, ofF_exc, ofO_some, ofB_some, peek_val, peek_own, peekS_succ, frz_val, frz_own, frz_succ, Option.map_some, finD_rtT, finD_nxT, finD_rtF, finD_nxF, finD_rtNF, finD_excF, finD_excT, toD_lst, toD_ins, List.getElem?_cons_zero, List.getElem?_cons_succ, List.set_cons_zero, List.set_cons_succ, Option.isSome_some, if_true, tru_bl, bi_intI, bin_add, bin_sub, cmp_lt, cmp_le, cmp_gt, cmp_ge, idx_l0, idx_l1, idx_l2, idx_l3, decide_true, decide_false, tup_1, tup_2, tup_3, tup_4, tup_5, tup_12, lst_0, lst_1, lst_4, List.map_cons, List.map_nil, elm_lst, elm_tup, tru_lst, List.length_cons, List.length_nil, ixN_0, ixN_1, ixN_2, ixN_3, bindT_1, $a,*])
local macro_rules | `(tactic| dsimp! [$a,*] at $h:ident) => `(tactic| simp only [kBin_ok, kBin2_ok, kCmp_ok, kCmp2_ok, kCmpO_ok, kIsN_ok, kCh_ok, kCh2_ok, kDct_ok, kRep_ok, kIdx_ok, kIdx2_ok, kIdxO_ok, kSlV_ok, kSlV2_ok, kSlV3_ok, kCall_ok, kCallV_ok, kCallO_ok, kBi_ok, kIsi_ok, kFld_ok, kMk_ok, kPop_ok, kApp_ok, kGen_ok, kSrt_ok, kCons_ok, kCons2_ok, kSome_ok, kTr_ok, kTNot_ok, kRng_ok, kEnm_ok, kElm_ok, sAsg_ok, sAsgN_ok, sAug_add, sAug_sub, sUnp_ok, sSix_ok, sSix2_ok, sSfl_ok, sExp_ok, sFor_ok, sRet_ok, sRetL_ok, sAsgF_ok, sRse_ok, sRsp_1, kNeg_ok, kConj_t, kConj_f, kDisj_t, kDisj_f, kNot_ok, kIte_t, kIte_f, kTAnd_t, kTAnd_f, kTOr_t, kTOr_f, sIff_t, sIff_f, kCh3_t, kCh3_f, kCh4_ok, seq_nx, seq_rt, seq_rtN, seq_bk, seq_ct, tri_nx, tri_rt, ofO_some, ofB_some, ofF_ret, ofF_retN, ofFO_ret, kCmpr_ok, cEnd_ok, cBody_some, cBody2_t, cBody2_f, cBody3_ok, e_cmpr, sBody_some, loop_nx, loop_bk, loop_out, loopC_all, e_var, e_non, e_bl, e_int, e_str, e_glob, e_bin, e_neg, e_cmp, e_cmpO, e_isN, e_chain, e_conj, e_disj, e_not, e_ite, e_tup, e_lst, e_dct, e_rep, e_idx, e_idxO, e_lenO, e_slV, e_lrg, e_gfn, e_callV, e_call, e_callO, e_bi, e_isi, e_fld, e_fldO, e_mk, e_pop, e_app, e_gen, e_srt, es_nil, es_cons, o_hole, o_var, o_int, o_bin, o_neg, c_hole, t_varE, t_cmpE, t_cmpOE, t_isNE, t_chainE, t_isiE, t_callE, t_callOE, t_callVE, t_genE, t_biE, t_idxE, t_idxOE, t_fldE, t_slVE, t_conjE, t_disjE, t_notE, c_varE, c_cmpE, c_cmpOE, c_isNE, c_chainE, c_isiE, c_callE, c_callOE, c_callVE, c_genE, c_biE, c_idxE, c_idxOE, c_fldE, c_slVE, c_conjE, c_disjE, c_notE, i_rng, i_enm, i_varE, i_idxE, i_callE, i_callOE, i_slVE, i_fldE, i_fldOE, i_tupE, i_biE, i_lstE, b_asg, b_asgN, b_aug, b_unp, b_six, b_sfl, b_exp, b_iff, b_for, b_brk, b_cnt, b_pas, b_ret, b_retN, b_retL, b_asgF, b_rse, b_rsp, b_tri, bs_nil, bs_cons, kBin_exc, kBin2_exc, kNeg_exc, kCmp_exc, kCmp2_exc, kCmpO_exc, kIsN_exc, kCh_exc, kCh2_exc, kConj_exc, kDisj_exc, kNot_exc, kIte_exc, kTup_exc, kLst_exc, kDct_exc, kRep_exc, kRep2_exc, kIdx_exc, kIdx2_exc, kIdxO_exc, kSlV_exc, kSlV2_exc, kLrg_exc, kCall_exc, kCallV_exc, kCallO_exc, kBi_exc, kIsi_exc, kFld_exc, kMk_exc, kPop_exc, kApp_exc, kGen_exc, kSrt_exc, kCons_exc, kCons2_exc, kSome_exc, kTr_exc, kTAnd_exc, kTOr_exc, kTNot_exc, kRng_exc, kEnm_exc, kElm_exc, sAsg_exc, sAsgN_exc, sUnp_exc, sSix_exc, sSix2_exc, sSfl_exc, sExp_exc, sIff_exc, sFor_exc, sRet_exc, sRetL_exc, sAsgF_exc, sRse_exc, seq_exc, tri_exc, ofF_exc, ofO_some, ofB_some, peek_val, peek_own, peekS_succ, frz_val, frz_own, frz_succ, Option.map_some, finD_rtT, finD_nxT, finD_rtF, finD_nxF, finD_rtNF, finD_excF, finD_excT, toD_lst, toD_ins, List.getElem?_cons_zero, List.getElem?_cons_succ, List.set_cons_zero, List.set_cons_succ, Option.isSome_some, if_true, tru_bl, bi_intI, bin_add, bin_sub, cmp_lt, cmp_le, cmp_gt, cmp_ge, idx_l0, idx_l1, idx_l2, idx_l3, decide_true, decide_false, tup_1, tup_2, tup_3, tup_4, tup_5, tup_12, lst_0, lst_1, lst_4, List.map_cons, List.map_nil, elm_lst, elm_tup, tru_lst, List.length_cons, List.length_nil, ixN_0, ixN_1, ixN_2, ixN_3, bindT_1, $a,*] at $h:ident)
theorem take_digit {S : Src} (h : Has S 8 true 5 2 bTake) (n : Nat) (xs : List D) (p r s m : Int) (hr : 0 < r) (hm : 0 < m) (hl : m.natAbs.log2 < 9000) :
    S.run (n + 1) 8 (some (poolD xs p r s)) [.int m] = .ret (.int (r % m)) (some (poolD xs p (r / m) s)) := by
  rw [h.run n _ _ rfl rfl]
  simp only [startS, poolD, bTake, List.map, List.replicate, List.cons_append, List.nil_append, List.length]
  simp! [hr, bin_mod hm, bin_fdiv hm hl]
/-- a pool -/
def Pool (o : OC) : Prop := ∃ (cs : List Int) (p r s : Int), o = poolD (cs.map .int) p r s ∧ (∀ c ∈ cs, 0 ≤ c) ∧ 0 ≤ p ∧ 0 ≤ r ∧ 0 ≤ s ∧ s < 2147483647
/-- it hands back -/
def Ret (r : FRes) (Q : D → Option OC → Prop) : Prop := ∃ d o, r = .ret d o ∧ Q d o
theorem Ret.of {d : D} {o : Option OC} {Q : D → Option OC → Prop} (h : Q d o) : Ret (.ret d o) Q := ⟨d, o, rfl, h⟩
def bTakeR : Bs := (.cons (.six 0 (.int 1) (.bin .add (.idxO 0 (.int 1)) (.int 1))) (.cons (.iff (.cmp .ge (.var 3) (.bin .pow (.int 10) (.int 18))) (.cons (.six 0 (.int 2) (.bin .fdiv (.var 3) (.int 2))) (.cons (.ret (.callO 8 0 (.cons (.var 1) .nil))) .nil)) .nil) (.cons (.six 0 (.int 3) (.bin .mod (.bi .int (.cons (.bin .add (.bin .add (.bin .mul (.idxO 0 (.int 3)) (.int 48271)) (.bin .mul (.var 3) (.int 69621))) (.bin .mul (.idxO 0 (.int 1)) (.int 613))) .nil)) (.int 2147483647))) (.cons (.asg 4 (.bin .mod (.bi .int (.cons (.bin .add (.bin .add (.bin .mul (.idxO 0 (.int 3)) (.idxO 0 (.int 3))) (.bin .mul (.idxO 0 (.int 3)) (.int 7919))) (.int 104729)) .nil)) (.int 1000000007))) (.cons (.ret (.bin .mod (.bi .int (.cons (.bin .fdiv (.var 4) (.int 3)) .nil)) (.var 1))) .nil)))))
theorem take_rest {S : Src} (h : Has S 8 true 5 2 bTake) (n : Nat) (cs : List Int) (p s c m : Int) (hcs : ∀ c ∈ cs, 0 ≤ c) (hp : 0 ≤ p) (hs0 : 0 ≤ s) (hs1 : s < 2147483647) (hc : 0 ≤ c) (hm : 0 < m) (hl : m.natAbs.log2 < 9000) :
    Ret (finD true (evBs S.CF (S.run (n + 1)) bTakeR [.own false (poolD (cs.map .int) p 0 s), .val (.int m), .un, .val (.int c), .un])) fun d o => ∃ i o', d = .int i ∧ o = some o' ∧ Pool o' ∧ 0 ≤ i ∧ i < m := by
  by_cases hb : 1000000000000000000 ≤ c
  · have e := take_digit h n (cs.map .int) (p + 1) (c / 2) s m (by omega) hm hl
    unfold poolD at e
    unfold bTakeR poolD
    simp! [pow_18, hb, bin_fdiv (i := c) (j := 2) (by decide) (by decide), e, ofFO_ret]
    exact .of ⟨_, _, rfl, rfl, ⟨cs, p + 1, c / 2 / m, s, rfl, hcs, by omega, Int.ediv_nonneg (by omega) (by omega), hs0, hs1⟩, Int.emod_nonneg _ (by omega), Int.emod_lt_of_pos _ hm⟩
  · have a1 : 0 ≤ (s * 48271 + c * 69621 + (p + 1) * 613) % 2147483647 := Int.emod_nonneg _ (by decide)
    have a2 := Int.emod_lt_of_pos (s * 48271 + c * 69621 + (p + 1) * 613) (show (0 : Int) < 2147483647 by decide)
    unfold bTakeR poolD
    generalize eq : (s * 48271 + c * 69621 + (p + 1) * 613) % 2147483647 = q at a1 a2 ⊢
    simp! [pow_18, hb, bin_mulR (i := s) (j := 48271) (by decide), bin_mulR (i := c) (j := 69621) (by decide), bin_mulR (i := p + 1) (j := 613) (by decide), bin_mod (j := 2147483647) (by decide), eq, bin_mulR (i := q) (j := q) (by omega), bin_mulR (i := q) (j := 7919) (by decide), bin_mod (j := 1000000007) (by decide), bin_fdiv (j := 3) (by decide) (by decide), bin_mod hm]
    exact .of ⟨_, _, rfl, rfl, ⟨cs, p + 1, 0, q, rfl, hcs, by omega, by omega, a1, a2⟩, Int.emod_nonneg _ (by omega), Int.emod_lt_of_pos _ hm⟩
theorem take_spec {S : Src} (h : Has S 8 true 5 2 bTake) {n : Nat} (hn : 2 ≤ n) {o : OC} (hp : Pool o) {m : Int} (hm : 0 < m) (hl : m.natAbs.log2 < 9000) : ∃ d o', S.run n 8 (some o) [.int m] = .ret (.int d) (some o') ∧ Pool o' ∧ 0 ≤ d ∧ d < m := by
  obtain ⟨n, rfl⟩ : ∃ k, n = k + 2 := ⟨n - 2, by omega⟩
  obtain ⟨cs, p, r, s, rfl, hcs, hp0, hr0, hs0, hs1⟩ := hp
  by_cases hr : 0 < r
  · exact ⟨_, _, take_digit h (n + 1) _ p r s m hr hm hl, ⟨cs, _, _, _, rfl, hcs, hp0, Int.ediv_nonneg hr0 (by omega), hs0, hs1⟩, Int.emod_nonneg _ (by omega), Int.emod_lt_of_pos _ hm⟩
  · obtain rfl : r = 0 := by omega
    have key : ∃ c : Int, 0 ≤ c ∧ S.run (n + 2) 8 (some (poolD (cs.map .int) p 0 s)) [.int m] = finD true (evBs S.CF (S.run (n + 1)) bTakeR [.own false (poolD (cs.map .int) p 0 s), .val (.int m), .un, .val (.int c), .un]) := by
      rw [h.run (n + 1) _ _ rfl rfl]
      by_cases hlt : p < cs.length
      · obtain ⟨d, e1, e2⟩ := atI_ex (cs.map D.int) p hp0 (by rw [List.length_map]; exact hlt)
        obtain ⟨c, hc, rfl⟩ := List.mem_map.mp e2
        refine ⟨c, hcs c hc, ?_⟩
        have e3 : idxD (.lst (cs.map D.int)) (.int p) = some (.int c) := e1
        simp only [startS, poolD, bTake, bTakeR, List.map, List.replicate, List.cons_append, List.nil_append, List.length]
        simp! [Int.lt_irrefl, len_lst, List.length_map, hlt, e3]
      · refine ⟨0, by omega, ?_⟩
        simp only [startS, poolD, bTake, bTakeR, List.map, List.replicate, List.cons_append, List.nil_append, List.length]
        simp! [Int.lt_irrefl, len_lst, List.length_map, hlt]
    obtain ⟨c, hc, e⟩ := key
    rw [e]
    obtain ⟨d, o, e1, i, o', rfl, rfl, h1, h2, h3⟩ := take_rest h n cs p s c m hcs hp0 hs0 hs1 hc hm hl
    exact ⟨i, o', e1, h1, h2, h3⟩

set_option linter.all false
set_option maxRecDepth 100000
set_option maxHeartbeats 4000000
open PySem PySem.Spec PyProof.Rows L2

theorem log_ok {m : Int} (h0 : 0 < m) (h : m < 10 ^ 72) : m.natAbs.log2 < 9000 := by
  have : m.natAbs < 2 ^ 300 := by omega
  exact Nat.lt_trans (log2_le this (by decide)) (by decide)
/-- the numbers that a range hands out -/
def rngL (n : Nat) : List D := (List.range n).map fun (k : Nat) => .int (0 + (k : Int))
theorem rng_int {i : Int} (h0 : 0 ≤ i) (h : i < 1000000000) : rngD [.int i] = some (rngL i.toNat) := by
  show (if _ then _ else _) = _
  rw [if_pos ⟨by omega, by omega⟩]; rfl
theorem rngL_len (n : Nat) : (rngL n).length = n := by unfold rngL; rw [List.length_map, List.length_range]
theorem rngL_get {n j : Nat} {x : D} (h : (rngL n)[j]? = some x) : x = .int (j : Int) ∧ j < n := by
  unfold rngL at h
  rw [List.getElem?_map] at h
  cases e : (List.range n)[j]? with
  | none => rw [e] at h; cases h
  | some k =>
    rw [e] at h
    obtain ⟨h1, h2⟩ := List.getElem?_eq_some_iff.mp e
    rw [List.getElem_range] at h2
    subst h2
    cases h
    exact ⟨congrArg D.int (Int.zero_add _), by simpa using h1⟩
theorem rngL_mem {n : Nat} {x : D} (h : x ∈ rngL n) : ∃ i : Int, x = .int i ∧ 0 ≤ i ∧ i < n := by
  obtain ⟨j, hj⟩ := List.getElem?_of_mem h
  obtain ⟨e, l⟩ := rngL_get hj
  exact ⟨j, e, by omega, by omega⟩
/-- a draw below m, in front of all else -/
theorem take_to {S : Src} (h : Has S 8 true 5 2 bTake) {n : Nat} (hn : 2 ≤ n) {o : OC} (hp : Pool o) {m : Int} (hm : 0 < m) (hl : m < 10 ^ 72) : ∃ d o', S.run n 8 (some o) [.int m] = .ret (.int d) (some o') ∧ Pool o' ∧ 0 ≤ d ∧ d < m := take_spec h hn hp hm (log_ok hm hl)

def bFar : Bs := (.cons (.asg 2 (.callO 8 0 (.cons (.bin .pow (.int 10) (.int 8)) .nil))) (.cons (.asg 3 (.bin .pow (.int 10) (.int 8))) (.cons (.for [4] (.rng (.cons (.int 36) .nil)) (.cons (.iff (.cmp .lt (.var 3) (.var 1)) (.cons (.asg 2 (.bin .add (.bin .mul (.var 2) (.bin .pow (.int 10) (.int 8))) (.callO 8 0 (.cons (.bin .pow (.int 10) (.int 8)) .nil)))) (.cons (.asg 3 (.bin .mul (.var 3) (.bin .pow (.int 10) (.int 8)))) .nil)) .nil) .nil)) (.cons (.ret (.bin .mod (.bi .int (.cons (.var 2) .nil)) (.var 1))) .nil))))
theorem far_spec {S : Src} (h : Has S 8 true 5 2 bTake) (h9 : Has S 9 true 5 2 bFar) {n : Nat} (hn : 3 ≤ n) {o : OC} (hp : Pool o) {m : Int} (hm : 0 < m) : ∃ d o', S.run n 9 (some o) [.int m] = .ret (.int d) (some o') ∧ Pool o' ∧ 0 ≤ d ∧ d < m := by
  obtain ⟨n, rfl⟩ : ∃ k, n = k + 1 := ⟨n - 1, by omega⟩
  rw [h9.run n _ _ rfl rfl]
  simp only [startS, bFar, List.map, List.replicate, List.cons_append, List.nil_append, List.length]
  obtain ⟨d1, o1, e1, p1, a1, b1⟩ := take_to h (n := n) (by omega) hp (m := 100000000) (by decide) (by decide)
  simp! [pow_8, e1, ofFO_ret, rng_int (i := 36) (by decide) (by decide)]
  obtain ⟨S', e, f, o2, b, t, rfl, p2⟩ := loop_nx (CF := S.CF) (Φ := S.run n) (ts := [4]) (b := (.cons (.iff (.cmp .lt (.var 3) (.var 1)) (.cons (.asg 2 (.bin .add (.bin .mul (.var 2) (.bin .pow (.int 10) (.int 8))) (.callO 8 0 (.cons (.bin .pow (.int 10) (.int 8)) .nil)))) (.cons (.asg 3 (.bin .mul (.var 3) (.bin .pow (.int 10) (.int 8)))) .nil)) .nil) .nil))
    (fun _ S' => ∃ (f : Int) (o : OC) (b : Int) (t : SD), S' = [.own false o, .val (.int m), .val (.int f), .val (.int b), t] ∧ Pool o) (rngL (36 : Int).toNat) 0 _ ⟨d1, o1, 100000000, .un, rfl, p1⟩ fun j x S' hx ⟨f, o, b, t, eS, po⟩ => by
      subst eS
      rw [sBody_some _ _ (bindT_1 4 x _)]
      by_cases hb : b < m
      · obtain ⟨d2, o2, e2, p2, a2, b2⟩ := take_to h (n := n) (by omega) po (m := 100000000) (by decide) (by decide)
        simp! [hb, pow_8, bin_mulR (i := f) (j := 100000000) (by decide), bin_mulR (i := b) (j := 100000000) (by decide), e2, ofFO_ret]
        exact ⟨_, .inl rfl, _, _, _, _, rfl, p2⟩
      · simp! [hb]
        exact ⟨_, .inl rfl, _, _, _, _, rfl, po⟩
  simp! [e, bin_mod hm]
  exact ⟨_, _, rfl, p2, Int.emod_nonneg _ (by omega), Int.emod_lt_of_pos _ hm⟩
def bPick : Bs := (.cons (.ret (.idx (.var 1) (.callO 8 0 (.cons (.bi .len (.cons (.var 1) .nil)) .nil)))) .nil)
theorem pick_spec {S : Src} (h : Has S 8 true 5 2 bTake) (hk : Has S 12 true 2 2 bPick) {n : Nat} (hn : 3 ≤ n) {o : OC} (hp : Pool o) {xs : List D} (h0 : xs ≠ []) (hl : xs.length ≤ 1000000) : ∃ d o', S.run n 12 (some o) [.lst xs] = .ret d (some o') ∧ Pool o' ∧ d ∈ xs := by
  obtain ⟨n, rfl⟩ : ∃ k, n = k + 1 := ⟨n - 1, by omega⟩
  rw [hk.run n _ _ rfl rfl]
  simp only [startS, bPick, List.map, List.replicate, List.cons_append, List.nil_append, List.length]
  have pos : 0 < xs.length := List.length_pos_iff.mpr h0
  obtain ⟨d1, o1, e1, p1, a1, b1⟩ := take_to h (n := n) (by omega) hp (m := (xs.length : Int)) (by omega) (by omega)
  obtain ⟨x, ex, mx⟩ := atI_ex xs d1 a1 b1
  have ei : idxD (.lst xs) (.int d1) = some x := ex
  simp! [len_lst, e1, ofFO_ret, ei]
  exact ⟨_, _, rfl, p1, mx⟩
/-! ### some of the rows -/
def bSomeB : Bs := (.cons (.exp (.app 4 (.pop 3 (.cons (.callO 8 0 (.cons (.lenO 3) .nil)) .nil)))) .nil)
def bSome : Bs := (.cons (.asgN 3 (.bi .lst (.cons (.var 1) .nil))) (.cons (.asgN 4 (.lst .nil)) (.cons (.for [5] (.rng (.cons (.bi .min2 (.cons (.var 2) (.cons (.bi .len (.cons (.var 1) .nil)) .nil))) .nil)) bSomeB) (.cons (.ret (.var 4)) .nil))))
theorem lst_lst (xs : List D) : biD .lst [.lst xs] = some (.lst xs) := rfl
theorem min2_i (i j : Int) : biD .min2 [.int i, .int j] = some (.int (if j < i then j else i)) := rfl
theorem seqIx {i : Int} {n : Nat} (h0 : 0 ≤ i) (h : i < n) : seqIndex? i n = some i.toNat := by
  unfold seqIndex?
  rw [if_neg (show ¬ i < 0 by omega)]
  dsimp only
  rw [if_pos (by simp; omega)]
/-- what one turn keeps -/
def SomeI (xs : List D) (k : Int) (i : Nat) (S' : List SD) : Prop := ∃ (l f : List D) (o : OC) (t : SD), S' = [.own false o, .val (.lst xs), .val (.int k), .own true (.lst l), .own true (.lst f), t] ∧ Pool o ∧ (∀ d ∈ l, d ∈ xs) ∧ (∀ d ∈ f, d ∈ xs) ∧ l.length + i = xs.length ∧ f.length = i
theorem some_step {S : Src} (h : Has S 8 true 5 2 bTake) {n : Nat} (hn : 2 ≤ n) {xs : List D} (hl : xs.length ≤ 50000) {k : Int} {j : Nat} (hj : j < xs.length) {x : D} {S' : List SD} (I : SomeI xs k j S') : ∃ S2, sBody S.CF (S.run n) [5] bSomeB x S' = .nx S2 ∧ SomeI xs k (j + 1) S2 := by
  obtain ⟨l, f, o, t, rfl, po, hl1, hf1, e1, e2⟩ := I
  obtain ⟨d2, o2, e3, p2, a2, b2⟩ := take_to h (n := n) hn po (m := (l.length : Int)) (by omega) (by omega)
  have lt : d2.toNat < l.length := by omega
  have c1 : -(2 ^ 63) ≤ d2 ∧ d2 < 2 ^ 63 := by omega
  have c2 : f.length < cap := lt_cap (by omega)
  rw [sBody_some _ _ (bindT_1 5 x _), bSomeB]
  simp! [e3, ofFO_ret, seqIx a2 b2, List.getElem?_eq_getElem lt, if_pos c1, if_pos c2]
  refine ⟨_, rfl, _, _, _, _, rfl, p2, fun d hd => hl1 d (List.mem_of_mem_eraseIdx hd), fun d hd => ?_, by rw [List.length_eraseIdx_of_lt lt]; omega, by simp; omega⟩
  rcases List.mem_append.mp hd with z | z
  · exact hf1 d z
  · rw [List.mem_singleton] at z
    rw [z]
    exact hl1 _ (List.getElem_mem lt)
theorem some_spec {S : Src} (h : Has S 8 true 5 2 bTake) (hs : Has S 14 true 6 3 bSome) {n : Nat} (hn : 3 ≤ n) {o : OC} (hp : Pool o) {xs : List D} (hl : xs.length ≤ 50000) {k : Int} (h0 : 0 ≤ k) :
    ∃ ds o', S.run n 14 (some o) [.lst xs, .int k] = .ret (.lst ds) (some o') ∧ Pool o' ∧ (∀ d ∈ ds, d ∈ xs) ∧ ds.length = min k.toNat xs.length := by
  obtain ⟨n, rfl⟩ : ∃ k, n = k + 1 := ⟨n - 1, by omega⟩
  rw [hs.run n _ _ rfl rfl]
  simp only [startS, bSome, List.map, List.replicate, List.cons_append, List.nil_append, List.length]
  obtain ⟨q, hq⟩ : ∃ q : Int, q = if (xs.length : Int) < k then (xs.length : Int) else k := ⟨_, rfl⟩
  have hm : biD .min2 [.int k, .int (xs.length : Int)] = some (.int q) := by rw [min2_i, hq]
  have q0 : 0 ≤ q := by rw [hq]; split <;> omega
  have eq : q.toNat = min k.toNat xs.length := by rw [hq]; split <;> omega
  simp! [lst_lst, len_lst, hm, rng_int q0 (by omega)]
  obtain ⟨S', e, l, f, o2, t, eS, p2, hl2, hf1, hf2, hf3⟩ := loop_nx (CF := S.CF) (Φ := S.run n) (ts := [5]) (b := bSomeB) (SomeI xs k) (rngL q.toNat) 0 _ ⟨xs, [], o, .un, rfl, hp, fun _ z => z, fun _ z => (nomatch z), rfl, rfl⟩ fun j x S' hx I => by
    obtain ⟨ex, hj⟩ := rngL_get hx
    rw [Nat.zero_add] at I ⊢
    obtain ⟨S2, e, I2⟩ := some_step h (n := n) (by omega) hl (by omega) I
    exact ⟨S2, .inl e, I2⟩
  simp! [e]
  subst eS
  simp! [bindT_1]
  exact ⟨_, _, rfl, p2, hf1, by rw [hf3, rngL_len]; omega⟩

set_option linter.all false
set_option maxRecDepth 100000
set_option maxHeartbeats 4000000
open PySem PySem.Spec PyProof.Rows L2

/-! ### texts -/
theorem idx_str {z : Str} {i : Int} (hz : z.length ≤ 100000) (h0 : 0 ≤ i) (h1 : i < z.length) : ∃ c : Nat, idxD (.str z) (.int i) = some (.str ⟨#[c]⟩) ∧ c ∈ z.cps.toList := by
  have hl : z.cps.toList.length = z.length := Array.length_toList
  obtain ⟨c, e, m⟩ := atI_ex z.cps.toList i h0 (by rw [hl]; exact h1)
  refine ⟨c, ?_, m⟩
  show (if z.length ≤ cap then (atI z.cps.toList i).map fun c => D.str ⟨#[c]⟩ else none) = _
  rw [if_pos (le_cap hz), e]; rfl
theorem add_str {x y : Str} (h : x.length + y.length ≤ 100000) : binD .add (.str x) (.str y) = some (.str (x ++ y)) := if_pos (le_cap h)
theorem len_app (x y : Str) : (x ++ y).length = x.length + y.length := by
  show (x.cps ++ y.cps).size = _
  rw [Array.size_append]; rfl
theorem len_one (c : Nat) : (⟨#[c]⟩ : Str).length = 1 := rfl

set_option linter.all false
set_option maxRecDepth 100000
set_option maxHeartbeats 4000000
open PySem PySem.Spec PyProof.Rows L2

/-! ### names -/
def z26 : Str := "abcdefghijklmnopqrstuvwxyz"
def z10 : Str := "0123456789"
theorem z26_len : z26.length = 26 := by decide +kernel
theorem z10_len : z10.length = 10 := by decide +kernel
theorem z36_len : (z26 ++ z10).length = 36 := by rw [len_app, z26_len, z10_len]
theorem add_z : binD .add (.str z26) (.str z10) = some (.str (z26 ++ z10)) := add_str (by rw [z26_len, z10_len]; omega)
def bN1 : Bs := (.cons (.asg 7 (.bin .add (.var 7) (.idx (.var 3) (.callO 8 0 (.cons (.int 36) .nil))))) .nil)
def bN2 : Bs := (.cons (.iff (.cmpO .nin (.var 7) 5) (.cons .brk .nil) .nil) (.cons (.asg 7 (.bin .add (.bin .add (.idx (.var 2) (.bin .mod (.bi .int (.cons (.var 6) .nil)) (.int 26))) (.idx (.var 3) (.bin .mod (.bi .int (.cons (.var 8) .nil)) (.int 36)))) (.idx (.var 3) (.bin .mod (.bi .int (.cons (.var 6) .nil)) (.int 36))))) .nil))
def bNB : Bs := (.cons (.asg 7 (.idx (.tup (.cons (.idx (.var 2) (.callO 8 0 (.cons (.int 26) .nil))) (.cons (.var 4) .nil))) (.callO 8 0 (.cons (.int 2) .nil)))) (.cons (.for [8] (.rng (.cons (.idx (.tup (.cons (.int 0) (.cons (.int 0) (.cons (.int 1) (.cons (.int 2) (.cons (.int 7) .nil)))))) (.callO 8 0 (.cons (.int 5) .nil))) .nil)) bN1) (.cons (.for [8] (.rng (.cons (.bin .add (.var 1) (.int 1)) .nil)) bN2) (.cons (.exp (.app 5 (.var 7))) .nil))))
def bNames : Bs := (.cons (.asg 2 (.str z26)) (.cons (.asg 3 (.bin .add (.var 2) (.str z10))) (.cons (.asg 4 (.idx (.var 2) (.callO 8 0 (.cons (.int 26) .nil)))) (.cons (.asgN 5 (.lst .nil)) (.cons (.for [6] (.rng (.cons (.var 1) .nil)) bNB) (.cons (.ret (.var 5)) .nil))))))
/-- a short text -/
def Sh (k : Nat) (d : D) : Prop := ∃ s : Str, d = .str s ∧ s.length ≤ k
theorem idx_z26 {i : Int} (h0 : 0 ≤ i) (h1 : i < 26) : ∃ c : Nat, idxD (.str z26) (.int i) = some (.str ⟨#[c]⟩) := by
  obtain ⟨c, e, _⟩ := idx_str (z := z26) (by rw [z26_len]; omega) h0 (by rw [z26_len]; omega)
  exact ⟨c, e⟩
theorem idx_z36 {i : Int} (h0 : 0 ≤ i) (h1 : i < 36) : ∃ c : Nat, idxD (.str (z26 ++ z10)) (.int i) = some (.str ⟨#[c]⟩) := by
  obtain ⟨c, e, _⟩ := idx_str (z := z26 ++ z10) (by rw [z36_len]; omega) h0 (by rw [z36_len]; omega)
  exact ⟨c, e⟩
theorem idx_t2 {a b : D} {i : Int} (h0 : 0 ≤ i) (h1 : i < 2) : ∃ x, idxD (.tup [a, b]) (.int i) = some x ∧ (x = a ∨ x = b) := by
  obtain ⟨x, e, m⟩ := atI_ex [a, b] i h0 (by simpa using h1)
  exact ⟨x, e, by simpa using m⟩
theorem idx_tup {xs : List D} {i : Int} (h0 : 0 ≤ i) (h1 : i < xs.length) : ∃ x, idxD (.tup xs) (.int i) = some x ∧ x ∈ xs := atI_ex xs i h0 h1
theorem nin_lst {s : Str} {l : List D} (h : ∀ d ∈ l, ∃ k, Sh k d) : ∃ b, cmpD .nin (.str s) (.lst l) = some b := by
  refine ⟨!(l.any fun y => eqD y (.str s)), ?_⟩
  · show ((if flatD (.str s) = true ∧ l.all flatD = true then some (l.any fun y => eqD y (.str s)) else none).map (!·)) = _
    rw [if_pos ⟨rfl, List.all_eq_true.mpr fun d hd => by obtain ⟨k, s, rfl, _⟩ := h d hd; rfl⟩]
    rfl
section
variable {S : Src} (h : Has S 8 true 5 2 bTake) {n : Nat} (hn : 2 ≤ n)
include h hn
theorem names1 {m : Int} {base : D} {f : OC} {t6 t8 : SD} {o : OC} {s : Str} (po : Pool o) (hs : s.length ≤ 1) {q : Int} (q0 : 0 ≤ q) (q1 : q ≤ 7) :
    ∃ o2 s2 t9, sLoop S.CF (S.run n) [8] bN1 (rngL q.toNat) [.own false o, .val (.int m), .val (.str z26), .val (.str (z26 ++ z10)), .val base, .own true f, t6, .val (.str s), t8] = .nx [.own false o2, .val (.int m), .val (.str z26), .val (.str (z26 ++ z10)), .val base, .own true f, t6, .val (.str s2), t9] ∧ Pool o2 ∧ s2.length ≤ 8 := by
  obtain ⟨S', e, o2, s2, t9, rfl, p2, h2⟩ := loop_nx (CF := S.CF) (Φ := S.run n) (ts := [8]) (b := bN1) (fun i S' => ∃ o s t8, S' = [.own false o, .val (.int m), .val (.str z26), .val (.str (z26 ++ z10)), .val base, .own true f, t6, .val (.str s), t8] ∧ Pool o ∧ s.length ≤ 1 + i) (rngL q.toNat) 0 _ ⟨o, s, t8, rfl, po, by omega⟩ fun j x S' hx ⟨o, s, t8, eS, po, hl⟩ => by
    subst eS
    obtain ⟨ex, hj⟩ := rngL_get hx
    obtain ⟨d2, o2, e3, p2, a2, b2⟩ := take_to h hn po (m := 36) (by decide) (by decide)
    obtain ⟨c, ec⟩ := idx_z36 a2 b2
    have ea : binD .add (.str s) (.str ⟨#[c]⟩) = some (.str (s ++ ⟨#[c]⟩)) := add_str (by rw [len_one]; omega)
    rw [sBody_some _ _ (bindT_1 8 x _), bN1]
    simp! [e3, ofFO_ret, ec, ea]
    exact ⟨_, .inl rfl, _, _, _, rfl, p2, by rw [len_app, len_one]; omega⟩
  refine ⟨o2, s2, t9, e, p2, ?_⟩
  rw [rngL_len] at h2
  omega
theorem names2 {m : Int} (m0 : 0 ≤ m) (m1 : m ≤ 1000) {base : D} {l : List D} (hl : ∀ d ∈ l, Sh 8 d) {t8 : SD} {o : OC} {s : Str} {k : Int} (k0 : 0 ≤ k) (hs : s.length ≤ 8) :
    ∃ s2 t9, sLoop S.CF (S.run n) [8] bN2 (rngL (m + 1).toNat) [.own false o, .val (.int m), .val (.str z26), .val (.str (z26 ++ z10)), .val base, .own true (.lst l), .val (.int k), .val (.str s), t8] = .nx [.own false o, .val (.int m), .val (.str z26), .val (.str (z26 ++ z10)), .val base, .own true (.lst l), .val (.int k), .val (.str s2), t9] ∧ s2.length ≤ 8 := by
  obtain ⟨S', e, h2⟩ := loop_bk (CF := S.CF) (Φ := S.run n) (ts := [8]) (b := bN2) (fun i S' => ∃ s t8, S' = [.own false o, .val (.int m), .val (.str z26), .val (.str (z26 ++ z10)), .val base, .own true (.lst l), .val (.int k), .val (.str s), t8] ∧ s.length ≤ 8)
    (fun S' => ∃ s t8, S' = [.own false o, .val (.int m), .val (.str z26), .val (.str (z26 ++ z10)), .val base, .own true (.lst l), .val (.int k), .val (.str s), t8] ∧ s.length ≤ 8) (rngL (m + 1).toNat) 0 _ ⟨s, t8, rfl, hs⟩ fun j x S' hx ⟨s, t8, eS, hs⟩ => by
    subst eS
    obtain ⟨ex, hj⟩ := rngL_get hx
    subst ex
    obtain ⟨b, eb⟩ := nin_lst (s := s) (l := l) fun d hd => ⟨8, hl d hd⟩
    obtain ⟨j', hj'⟩ : ∃ j' : Int, j' = (j : Int) := ⟨_, rfl⟩
    rw [← hj', sBody_some _ _ (bindT_1 8 _ _), bN2]
    cases b with
    | true =>
      simp! [eb]
      exact ⟨_, .inr ⟨rfl, _, _, rfl, hs⟩⟩
    | false =>
      obtain ⟨c1, ec1⟩ := idx_z26 (i := k % 26) (Int.emod_nonneg _ (by decide)) (Int.emod_lt_of_pos _ (by decide))
      obtain ⟨c2, ec2⟩ := idx_z36 (i := j' % 36) (Int.emod_nonneg _ (by decide)) (Int.emod_lt_of_pos _ (by decide))
      obtain ⟨c3, ec3⟩ := idx_z36 (i := k % 36) (Int.emod_nonneg _ (by decide)) (Int.emod_lt_of_pos _ (by decide))
      have a1 : binD .add (.str ⟨#[c1]⟩) (.str ⟨#[c2]⟩) = some (.str (⟨#[c1]⟩ ++ ⟨#[c2]⟩)) := add_str (by rw [len_one, len_one]; omega)
      have a2 : binD .add (.str (⟨#[c1]⟩ ++ ⟨#[c2]⟩)) (.str ⟨#[c3]⟩) = some (.str (⟨#[c1]⟩ ++ ⟨#[c2]⟩ ++ ⟨#[c3]⟩)) := add_str (by rw [len_app, len_one, len_one, len_one]; omega)
      simp! [eb, bin_mod (j := 26) (by decide), bin_mod (j := 36) (by decide), ec1, ec2, ec3, a1, a2]
      exact ⟨_, .inl ⟨rfl, _, _, rfl, by rw [len_app, len_app, len_one, len_one, len_one]; omega⟩⟩
  obtain ⟨s2, t9, rfl, q⟩ : ∃ s t8, S' = [.own false o, .val (.int m), .val (.str z26), .val (.str (z26 ++ z10)), .val base, .own true (.lst l), .val (.int k), .val (.str s), t8] ∧ s.length ≤ 8 := h2.elim id id
  exact ⟨s2, t9, e, q⟩
end
def NamI (m : Int) (base : Nat) (i : Nat) (S' : List SD) : Prop := ∃ (o : OC) (f : List D) (t6 t7 t8 : SD), S' = [.own false o, .val (.int m), .val (.str z26), .val (.str (z26 ++ z10)), .val (.str ⟨#[base]⟩), .own true (.lst f), t6, t7, t8] ∧ Pool o ∧ (∀ d ∈ f, Sh 8 d) ∧ f.length = i
theorem names_step {S : Src} (h : Has S 8 true 5 2 bTake) {n : Nat} (hn : 2 ≤ n) {m : Int} (m0 : 0 ≤ m) (m1 : m ≤ 1000) {base : Nat} {j : Nat} (hj : j < 1000) {S' : List SD} {x : D} {k : Int} (k0 : 0 ≤ k) (hx : x = .int k) (I : NamI m base j S') : ∃ S2, sBody S.CF (S.run n) [6] bNB x S' = .nx S2 ∧ NamI m base (j + 1) S2 := by
  obtain ⟨o, f, t6, t7, t8, rfl, po, hf, hl⟩ := I
  subst hx
  obtain ⟨d1, o1, e1, p1, a1, b1⟩ := take_to h hn po (m := 26) (by decide) (by decide)
  obtain ⟨c, ec⟩ := idx_z26 a1 b1
  obtain ⟨d2, o2, e2, p2, a2, b2⟩ := take_to h hn p1 (m := 2) (by decide) (by decide)
  obtain ⟨x, ex, hx⟩ := idx_t2 (a := .str ⟨#[c]⟩) (b := .str ⟨#[base]⟩) a2 b2
  obtain ⟨s, rfl, hs⟩ : ∃ s : Str, x = .str s ∧ s.length ≤ 1 := by
    rcases hx with rfl | rfl
    · exact ⟨_, rfl, Nat.le_of_eq (len_one _)⟩
    · exact ⟨_, rfl, Nat.le_of_eq (len_one _)⟩
  obtain ⟨d3, o3, e3, p3, a3, b3⟩ := take_to h hn p2 (m := 5) (by decide) (by decide)
  obtain ⟨y, ey, hy⟩ := idx_tup (xs := [.int 0, .int 0, .int 1, .int 2, .int 7]) a3 (by simpa using b3)
  obtain ⟨q, rfl, q0, q1⟩ : ∃ q : Int, y = .int q ∧ 0 ≤ q ∧ q ≤ 7 := by
    simp only [List.mem_cons, List.not_mem_nil, or_false] at hy
    rcases hy with rfl | rfl | rfl | rfl | rfl <;> exact ⟨_, rfl, by omega, by omega⟩
  obtain ⟨o4, s4, t9, e4, p4, h4⟩ := names1 h hn (m := m) (base := .str ⟨#[base]⟩) (f := .lst f) (t6 := .val (.int k)) (t8 := t8) p3 hs q0 q1
  obtain ⟨s5, t10, e5, h5⟩ := names2 h hn m0 m1 (base := .str ⟨#[base]⟩) hf (t8 := t9) (o := o4) (k := k) k0 h4
  have cf : f.length < cap := lt_cap (by omega)
  rw [sBody_some _ _ (bindT_1 6 _ _), bNB]
  simp! [e1, e2, e3, ofFO_ret, ec, ex, ey, rng_int q0 (show q < 1000000000 by omega), e4, rng_int (i := m + 1) (by omega) (by omega), e5, if_pos cf]
  refine ⟨_, rfl, _, _, _, _, _, rfl, p4, fun d hd => ?_, by simp; omega⟩
  rcases List.mem_append.mp hd with z | z
  · exact hf d z
  · rw [List.mem_singleton] at z
    exact ⟨s5, z, h5⟩
theorem names_spec {S : Src} (h : Has S 8 true 5 2 bTake) (h15 : Has S 15 true 9 2 bNames) {n : Nat} (hn : 3 ≤ n) {o : OC} (hp : Pool o) {m : Int} (m0 : 0 ≤ m) (m1 : m ≤ 1000) :
    ∃ ds o', S.run n 15 (some o) [.int m] = .ret (.lst ds) (some o') ∧ Pool o' ∧ (∀ d ∈ ds, Sh 8 d) ∧ ds.length = m.toNat := by
  obtain ⟨n, rfl⟩ : ∃ k, n = k + 1 := ⟨n - 1, by omega⟩
  rw [h15.run n _ _ rfl rfl]
  simp only [startS, bNames, List.map, List.replicate, List.cons_append, List.nil_append, List.length]
  obtain ⟨d1, o1, e1, p1, a1, b1⟩ := take_to h (n := n) (by omega) hp (m := 26) (by decide) (by decide)
  obtain ⟨c, ec⟩ := idx_z26 a1 b1
  simp! [add_z, e1, ofFO_ret, ec, rng_int m0 (show m < 1000000000 by omega)]
  obtain ⟨S', e, o2, f, t6, t7, t8, rfl, p2, h2, h3⟩ := loop_nx (CF := S.CF) (Φ := S.run n) (ts := [6]) (b := bNB) (NamI m c) (rngL m.toNat) 0 _ ⟨o1, [], .un, .un, .un, rfl, p1, fun _ z => (nomatch z), rfl⟩ fun j x S' hx I => by
    obtain ⟨ex, hj⟩ := rngL_get hx
    rw [Nat.zero_add] at I ⊢
    obtain ⟨S2, e, I2⟩ := names_step h (n := n) (by omega) m0 m1 (by omega) (k := (j : Int)) (by omega) ex I
    exact ⟨S2, .inl e, I2⟩
  simp! [e]
  exact ⟨_, _, rfl, p2, h2, by rw [h3, rngL_len]; omega⟩

set_option linter.all false
set_option maxRecDepth 100000
set_option maxHeartbeats 4000000
open PySem PySem.Spec PyProof.Rows L2

/-! ### gaps -/
def bP1 : Bs := (.cons (.asg 7 (.int 0)) (.cons (.iff (.cmp .eq (.var 4) (.int 1)) (.cons (.asg 7 (.callO 9 0 (.cons (.bin .add (.var 5) (.int 1)) .nil))) .nil) (.cons (.iff (.cmp .eq (.var 4) (.int 2)) (.cons (.asg 7 (.idx (.tup (.cons (.int 0) (.cons (.bi .min2 (.cons (.var 5) (.cons (.bin .add (.int 1) (.callO 8 0 (.cons (.int 3) .nil))) .nil))) (.cons (.callO 9 0 (.cons (.bin .add (.var 5) (.int 1)) .nil)) .nil)))) (.callO 8 0 (.cons (.int 3) .nil)))) .nil) .nil) .nil)) (.cons (.six 3 (.var 6) (.var 7)) (.cons (.asg 5 (.bin .sub (.var 5) (.var 7))) .nil))))
def bParted : Bs := (.cons (.asgN 3 (.rep (.lst (.cons (.int 0) .nil)) (.bin .add (.var 2) (.int 1)))) (.cons (.asg 4 (.callO 8 0 (.cons (.int 3) .nil))) (.cons (.asg 5 (.var 1)) (.cons (.for [6] (.callO 14 0 (.cons (.lrg (.bin .add (.var 2) (.int 1))) (.cons (.var 2) .nil))) bP1) (.cons (.asgN 8 (.cmpr [("k", 6)] [6] (.rng (.cons (.bin .add (.var 2) (.int 1)) .nil)) (.cmp .eq (.idxO 3 (.var 6)) (.int 0)) (.var 6))) (.cons (.asg 9 (.ite (.var 8) (.idx (.var 8) (.callO 8 0 (.cons (.bi .len (.cons (.var 8) .nil)) .nil))) (.int 0))) (.cons (.six 3 (.var 9) (.bin .add (.idxO 3 (.var 9)) (.var 5))) (.cons (.ret (.var 3)) .nil))))))))
/-- a number that is not below 0 -/
def Nn (d : D) : Prop := ∃ i : Int, d = .int i ∧ 0 ≤ i
theorem ixN_in {n : Nat} {k : Int} (h0 : 0 ≤ k) (h1 : k < n) : ixN n k = some k.toNat := by
  unfold ixN
  rw [if_pos h0, if_pos (by omega)]
/-- what stands behind each turn: the gaps, what is left -/
def ParI (fr m kd : Int) (S' : List SD) : Prop := ∃ (o : OC) (g : List D) (lf : Int) (t6 t7 t8 t9 : SD), S' = [.own false o, .val (.int fr), .val (.int m), .own true (.lst g), .val (.int kd), .val (.int lf), t6, t7, t8, t9] ∧ isVal (some t6) = true ∧ Pool o ∧ (∀ d ∈ g, Nn d) ∧ g.length = (m + 1).toNat ∧ 0 ≤ lf
theorem parted_step {S : Src} (h : Has S 8 true 5 2 bTake) (h9 : Has S 9 true 5 2 bFar) {n : Nat} (hn : 3 ≤ n) {fr m kd : Int} (m0 : 0 ≤ m) {x : D} (hx : ∃ i : Int, x = .int i ∧ 0 ≤ i ∧ i < (m + 1).toNat) {S' : List SD} (I : ParI fr m kd S') : ∃ S2, sBody S.CF (S.run n) [6] bP1 x S' = .nx S2 ∧ ParI fr m kd S2 := by
  obtain ⟨o, g, lf, t6, t7, t8, t9, rfl, _, po, hg, hl, l0⟩ := I
  obtain ⟨i, rfl, i0, i1⟩ := hx
  have fin : ∀ (o2 : OC) (p : Int), Pool o2 → 0 ≤ p → p ≤ lf → ParI fr m kd [.own false o2, .val (.int fr), .val (.int m), .own true (.lst (g.set i.toNat (.int p))), .val (.int kd), .val (.int (lf - p)), .val (.int i), .val (.int p), t8, t9] := fun o2 p p2 p0 p1 =>
    ⟨_, _, _, _, _, _, _, rfl, rfl, p2, fun d hd => by
      rcases List.mem_or_eq_of_mem_set hd with z | z
      · exact hg d z
      · exact ⟨p, z, p0⟩, by rw [List.length_set]; exact hl, by omega⟩
  have ei : ixN g.length i = some i.toNat := ixN_in i0 (by omega)
  rw [sBody_some _ _ (bindT_1 6 _ _), bP1]
  by_cases k1 : kd = 1
  · obtain ⟨d1, o1, e1, p1, a1, b1⟩ := far_spec h h9 hn po (m := lf + 1) (by omega)
    simp! [cmp_eqI, k1, e1, ofFO_ret, ei]
    exact ⟨_, rfl, k1 ▸ fin o1 d1 p1 a1 (by omega)⟩
  · by_cases k2 : kd = 2
    · obtain ⟨d1, o1, e1, p1, a1, b1⟩ := take_to h (n := n) (by omega) po (m := 3) (by decide) (by decide)
      obtain ⟨q, hq⟩ : ∃ q : Int, q = if 1 + d1 < lf then 1 + d1 else lf := ⟨_, rfl⟩
      have hm : biD .min2 [.int lf, .int (1 + d1)] = some (.int q) := by rw [min2_i, hq]
      have q0 : 0 ≤ q ∧ q ≤ lf := by rw [hq]; split <;> omega
      obtain ⟨d2, o2, e2, p2, a2, b2⟩ := far_spec h h9 hn p1 (m := lf + 1) (by omega)
      obtain ⟨d3, o3, e3, p3, a3, b3⟩ := take_to h (n := n) (by omega) p2 (m := 3) (by decide) (by decide)
      obtain ⟨y, ey, hy⟩ := idx_tup (xs := [.int 0, .int q, .int d2]) a3 (by simpa using b3)
      obtain ⟨r, rfl, r0, r1⟩ : ∃ r : Int, y = .int r ∧ 0 ≤ r ∧ r ≤ lf := by
        simp only [List.mem_cons, List.not_mem_nil, or_false] at hy
        rcases hy with rfl | rfl | rfl <;> exact ⟨_, rfl, by omega, by omega⟩
      subst k2
      simp! [cmp_eqI, k1, e1, ofFO_ret, hm, e2, e3, ey, ei]
      exact ⟨_, rfl, fin o3 r p3 r0 r1⟩
    · simp! [cmp_eqI, k1, k2, ei]
      have := fin o 0 po (by omega) l0
      exact ⟨_, rfl, this⟩
theorem rep_0 {k : Int} {S : List SD} (h0 : 0 ≤ k) (h1 : k ≤ 1001) : kRep2 (.lst [.int 0]) (.ok (.int k) S) = .ok (.lst (List.replicate k.toNat (.int 0))) S := by
  rw [kRep2_ok]
  dsimp only
  rw [if_pos ⟨by omega, by omega, le_cap (by simp; omega)⟩]
  congr 2
  generalize k.toNat = n
  induction n with
  | zero => rfl
  | succ n ih => rw [List.replicate_succ, List.flatten_cons, ih]; rfl
theorem lrg_ok {k : Int} {S : List SD} (h0 : 0 ≤ k) (h1 : k ≤ 1001) : kLrg (.ok (.int k) S) = .ok (.lst (rngL k.toNat)) S := by
  rw [kLrg_ok]
  dsimp only
  rw [if_pos ⟨by omega, by omega⟩]
  rfl
theorem idx_nn {g : List D} (hg : ∀ d ∈ g, Nn d) {i : Int} (i0 : 0 ≤ i) (i1 : i < g.length) : ∃ v : Int, idxD (.lst g) (.int i) = some (.int v) ∧ 0 ≤ v := by
  obtain ⟨d, e, m⟩ := atI_ex g i i0 i1
  obtain ⟨v, rfl, v0⟩ := hg d m
  exact ⟨v, e, v0⟩
theorem parted_spec {S : Src} (h : Has S 8 true 5 2 bTake) (h9 : Has S 9 true 5 2 bFar) (h14 : Has S 14 true 6 3 bSome) (h16 : Has S 16 true 10 3 bParted) {n : Nat} (hn : 4 ≤ n) {o : OC} (hp : Pool o) {fr m : Int} (f0 : 0 ≤ fr) (m0 : 0 ≤ m) (m1 : m ≤ 1000) :
    ∃ ds o', S.run n 16 (some o) [.int fr, .int m] = .ret (.lst ds) (some o') ∧ Pool o' ∧ (∀ d ∈ ds, Nn d) ∧ ds.length = (m + 1).toNat := by
  obtain ⟨n, rfl⟩ : ∃ k, n = k + 1 := ⟨n - 1, by omega⟩
  rw [h16.run n _ _ rfl rfl]
  simp only [startS, bParted, List.map, List.replicate, List.cons_append, List.nil_append, List.length]
  obtain ⟨kd, o1, e1, p1, a1, b1⟩ := take_to h (n := n) (by omega) hp (m := 3) (by decide) (by decide)
  obtain ⟨ks, o2, e2, p2, k2, _⟩ := some_spec h h14 (n := n) (by omega) p1 (xs := rngL (m + 1).toNat) (by rw [rngL_len]; omega) (k := m) m0
  simp! [rep_0 (show 0 ≤ m + 1 by omega) (show m + 1 ≤ 1001 by omega), e1, ofFO_ret, lrg_ok (show 0 ≤ m + 1 by omega) (show m + 1 ≤ 1001 by omega), e2]
  obtain ⟨S', e3, o3, g, lf, t6, t7, t8, t9, rfl, v6, p3, hg, hl, l0⟩ := loop_nx (CF := S.CF) (Φ := S.run n) (ts := [6]) (b := bP1) (fun _ => ParI fr m kd) ks 0 _ ⟨o2, List.replicate (m + 1).toNat (.int 0), fr, .un, .un, .un, .un, rfl, rfl, p2, fun d hd => by rw [(List.mem_replicate.mp hd).2]; exact ⟨0, rfl, by omega⟩, by rw [List.length_replicate], f0⟩ fun j x S' hx I => by
    obtain ⟨S2, e, I2⟩ := parted_step h h9 (n := n) (by omega) m0 (rngL_mem (k2 x (List.mem_of_getElem? hx))) I
    exact ⟨S2, .inl e, I2⟩
  simp! [e3, rng_int (show 0 ≤ m + 1 by omega) (show m + 1 < 1000000000 by omega), List.all_cons, List.all_nil, v6, Bool.and_self, wipeS]
  have ok : ∀ d : D, (∃ i : Int, d = .int i ∧ 0 ≤ i ∧ i < (m + 1).toNat) → ∃ w : Bool, cBody S.CF (S.run n) [6] [6] (.cmp .eq (.idxO 3 (.var 6)) (.int 0)) (.var 6) d [.own false o3, .val (.int fr), .val (.int m), .own true (.lst g), .val (.int kd), .val (.int lf), .un, t7, t8, t9] = .ok (if w = true then some d else none) [.own false o3, .val (.int fr), .val (.int m), .own true (.lst g), .val (.int kd), .val (.int lf), .un, t7, t8, t9] := by
    rintro d ⟨i, rfl, i0, i1⟩
    obtain ⟨v, ev, _⟩ := idx_nn hg i0 (by omega)
    rw [cBody_some _ _ _ _ (bindT_1 6 _ _)]
    by_cases z : v = 0
    · refine ⟨true, ?_⟩
      simp! [ev, cmp_eqI, z, cBody2_t, cBody3_ok, wipeS]
    · refine ⟨false, ?_⟩
      simp! [ev, cmp_eqI, z, cBody2_f, wipeS]
      rfl
  obtain ⟨es, S', e4, rfl, he, hle⟩ := loopC_all (f := cBody S.CF (S.run n) [6] [6] (.cmp .eq (.idxO 3 (.var 6)) (.int 0)) (.var 6)) (fun i acc S' => S' = [.own false o3, .val (.int fr), .val (.int m), .own true (.lst g), .val (.int kd), .val (.int lf), .un, t7, t8, t9] ∧ (∀ d ∈ acc, ∃ i : Int, d = .int i ∧ 0 ≤ i ∧ i < (m + 1).toNat) ∧ acc.length ≤ i)
    (rngL (m + 1).toNat) 0 [] _ ⟨rfl, fun _ z => (nomatch z), Nat.le_refl _⟩ fun j x acc S' hx ⟨eS, ha, hla⟩ => by
      subst eS
      have hm := rngL_mem (List.mem_of_getElem? hx)
      obtain ⟨w, ew⟩ := ok x hm
      refine ⟨_, _, ew, rfl, fun d hd => ?_, ?_⟩
      · rcases List.mem_append.mp hd with z | z
        · exact ha d z
        · cases w with
          | true =>
            have : d = x := by simpa using z
            rw [this]; exact hm
          | false => simp at z
      · cases w <;> simp <;> omega
  have hz : es.length < cap := lt_cap (by rw [rngL_len] at hle; simp at hle; omega)
  have he' : ∀ d ∈ es, ∃ i : Int, d = .int i ∧ 0 ≤ i ∧ i < (m + 1).toNat := fun d hd => he d (by simpa using hd)
  have fin : ∀ (o4 : OC) (at_ : Int) (p4 : Pool o4) (A0 : 0 ≤ at_) (A1 : at_ < (m + 1).toNat), ∃ v : Int, idxD (.lst g) (.int at_) = some (.int v) ∧ ixN g.length at_ = some at_.toNat ∧ (∀ d ∈ g.set at_.toNat (.int (v + lf)), Nn d) := fun o4 at_ p4 A0 A1 => by
    obtain ⟨v, ev, v0⟩ := idx_nn hg A0 (by omega)
    refine ⟨v, ev, ixN_in A0 (by omega), fun d hd => ?_⟩
    rcases List.mem_or_eq_of_mem_set hd with z | z
    · exact hg d z
    · exact ⟨_, z, by omega⟩
  simp! [e4, cEnd_ok, if_pos hz, backS]
  cases es with
  | nil =>
    obtain ⟨v, ev, eix, hg2⟩ := fin o3 0 p3 (by omega) (by omega)
    simp! [List.isEmpty_nil, Bool.not_true, ev, eix]
    exact ⟨_, _, rfl, p3, hg2, by rw [List.length_set]; exact hl⟩
  | cons a es =>
    obtain ⟨d5, o5, e5, p5, a5, b5⟩ := take_to h (n := n) (by omega) p3 (m := ((a :: es).length : Int)) (by simp <;> omega) (by have := hz; simp [cap] at this; simp; omega)
    obtain ⟨x, ex, hx⟩ := atI_ex (a :: es) d5 a5 b5
    obtain ⟨i, rfl, i0, i1⟩ := he' x hx
    have ei : idxD (.lst (a :: es)) (.int d5) = some (.int i) := ex
    obtain ⟨v, ev, eix, hg2⟩ := fin o5 i p5 i0 i1
    have e5' : S.run n 8 (some o3) [.int ((es.length + 1 : Nat) : Int)] = .ret (.int d5) (some o5) := e5
    simp! [List.isEmpty_cons, Bool.not_false, len_lst, e5', ofFO_ret, ei, ev, eix]
    exact ⟨_, _, rfl, p5, hg2, by rw [List.length_set]; exact hl⟩

set_option linter.all false
set_option maxRecDepth 100000
set_option maxHeartbeats 4000000
open PySem PySem.Spec PyProof.Rows L2

/-! ### layouts -/
/-- a block as the laws make it -/
def Blk (d : D) : Prop := ∃ (s : Str) (a b : Int), d = .tup [.str s, .int a, .int b] ∧ s.length ≤ 100
def bQ1 : Bs := (.cons (.exp (.app 3 (.tup (.cons (.idx (.var 0) (.var 5)) (.cons (.bin .add (.var 4) (.idx (.var 2) (.var 5))) (.cons (.idx (.var 1) (.var 5)) .nil)))))) (.cons (.asg 4 (.bin .add (.bin .add (.var 4) (.idx (.var 2) (.var 5))) (.idx (.var 1) (.var 5)))) .nil))
def bPlaced : Bs := (.cons (.asgN 3 (.lst .nil)) (.cons (.asg 4 (.int 0)) (.cons (.for [5] (.rng (.cons (.bi .len (.cons (.var 0) .nil)) .nil)) bQ1) (.cons (.ret (.dct ["capacity", "blocks"] (.cons (.bin .add (.var 4) (.idx (.var 2) (.neg (.int 1)))) (.cons (.bi .tup (.cons (.var 3) .nil)) .nil)))) .nil))))
def kCap : Key := Sum.inr ("capacity" : Str)
def kBlk : Key := Sum.inr ("blocks" : Str)
def Pos (d : D) : Prop := ∃ i : Int, d = .int i ∧ 1 ≤ i
theorem tup_lst (xs : List D) : biD .tup [.lst xs] = some (.tup xs) := rfl
theorem atI_last {xs : List D} (h : xs ≠ []) : ∃ x, idxD (.lst xs) (.int (-1)) = some x ∧ x ∈ xs := by
  have pos := List.length_pos_iff.mpr h
  have hl : xs.length - 1 < xs.length := by omega
  refine ⟨xs[xs.length - 1], ?_, List.getElem_mem hl⟩
  show (ixN xs.length (-1)).bind _ = _
  unfold ixN
  rw [if_neg (by omega), if_pos (by omega)]
  have e : ((-1 : Int) + xs.length).toNat = xs.length - 1 := by omega
  rw [e]
  exact List.getElem?_eq_getElem hl
theorem placed_spec {S : Src} (h17 : Has S 17 false 6 3 bPlaced) {n : Nat} (hn : 1 ≤ n) {ns ss gs : List D} (hN : ∀ d ∈ ns, Sh 8 d) (hS : ∀ d ∈ ss, Pos d) (hG : ∀ d ∈ gs, Nn d) (l1 : ss.length = ns.length) (l2 : gs.length = ns.length + 1) (l3 : ns.length ≤ 1000) :
    ∃ (c : Int) (bs : List D), S.run n 17 none [.lst ns, .lst ss, .lst gs] = .ret (.dct [kCap, kBlk] [.int c, .tup bs]) none ∧ 0 ≤ c ∧ (∀ d ∈ bs, Blk d) ∧ bs.length = ns.length := by
  obtain ⟨n, rfl⟩ : ∃ k, n = k + 1 := ⟨n - 1, by omega⟩
  rw [h17.run n _ _ rfl rfl]
  simp only [startS, bPlaced, List.map, List.replicate, List.cons_append, List.nil_append, List.length]
  obtain ⟨q, hq⟩ : ∃ q : Int, q = (ns.length : Int) := ⟨_, rfl⟩
  have lq : biD .len [.lst ns] = some (.int q) := by rw [len_lst, hq]
  simp! [lq, rng_int (show 0 ≤ q by omega) (show q < 1000000000 by omega)]
  obtain ⟨S', e, bs, en, t5, rfl, hb, hl, e0⟩ := loop_nx (CF := S.CF) (Φ := S.run n) (ts := [5]) (b := bQ1) (fun i S' => ∃ (bs : List D) (en : Int) (t5 : SD), S' = [.val (.lst ns), .val (.lst ss), .val (.lst gs), .own true (.lst bs), .val (.int en), t5] ∧ (∀ d ∈ bs, Blk d) ∧ bs.length = i ∧ 0 ≤ en) (rngL q.toNat) 0 _ ⟨[], 0, .un, rfl, fun _ z => (nomatch z), rfl, by omega⟩ fun j x S' hx ⟨bs, en, t5, eS, hb, hl, e0⟩ => by
    subst eS
    obtain ⟨ex, hj⟩ := rngL_get hx
    obtain ⟨i, hi⟩ : ∃ i : Int, i = (j : Int) := ⟨_, rfl⟩
    rw [← hi] at ex
    subst ex
    obtain ⟨a, ea, ma⟩ := atI_ex ns i (by omega) (by omega)
    obtain ⟨s, rfl, hs⟩ := hN a ma
    obtain ⟨b, eb, mb⟩ := atI_ex ss i (by omega) (by omega)
    obtain ⟨z, rfl, hz⟩ := hS b mb
    obtain ⟨g, eg, mg⟩ := atI_ex gs i (by omega) (by omega)
    obtain ⟨y, rfl, hy⟩ := hG g mg
    have i1 : idxD (.lst ns) (.int i) = some (.str s) := ea
    have i2 : idxD (.lst ss) (.int i) = some (.int z) := eb
    have i3 : idxD (.lst gs) (.int i) = some (.int y) := eg
    have cf : bs.length < cap := lt_cap (by omega)
    rw [sBody_some _ _ (bindT_1 5 _ _), bQ1]
    simp! [i1, i2, i3, if_pos cf]
    refine ⟨_, .inl rfl, _, _, _, rfl, fun d hd => ?_, by simp; omega, by omega⟩
    rcases List.mem_append.mp hd with w | w
    · exact hb d w
    · rw [List.mem_singleton] at w
      exact ⟨s, _, z, w, by omega⟩
  obtain ⟨g, eg, mg⟩ := atI_last (xs := gs) (fun z => by rw [z] at l2; simp at l2)
  obtain ⟨y, rfl, hy⟩ := hG g mg
  simp! [e, eg, tup_lst]
  exact ⟨_, bs, rfl, by omega, hb, by rw [hl, rngL_len]; omega⟩
def bL1 : Bs := (.cons (.asg 7 (.bin .add (.bin .mul (.var 3) (.callO 8 0 (.cons (.idx (.tup (.cons (.int 4) (.cons (.int 10) .nil))) (.callO 8 0 (.cons (.int 2) .nil))) .nil))) (.callO 8 0 (.cons (.int 3) .nil)))) (.cons (.asg 7 (.idx (.tup (.cons (.var 7) (.cons (.var 4) (.cons (.bin .add (.var 4) (.int 1)) (.cons (.bin .sub (.var 4) (.int 1)) (.cons (.var 7) .nil)))))) (.callO 8 0 (.cons (.int 5) .nil)))) (.cons (.exp (.app 5 (.bi .max2 (.cons (.int 1) (.cons (.var 7) .nil))))) .nil)))
def bLayout : Bs := (.cons (.asg 2 (.callO 8 0 (.cons (.bin .add (.var 1) (.int 1)) .nil))) (.cons (.asg 3 (.idx (.tup (.cons (.int 1) (.cons (.int 1) (.cons (.int 1) (.cons (.bin .add (.int 1) (.callO 9 0 (.cons (.bin .mul (.int 5) (.bin .pow (.int 10) (.int 28))) .nil))) .nil))))) (.callO 8 0 (.cons (.int 4) .nil)))) (.cons (.asg 4 (.bin .mul (.var 3) (.callO 8 0 (.cons (.idx (.tup (.cons (.int 3) (.cons (.int 9) .nil))) (.callO 8 0 (.cons (.int 2) .nil))) .nil)))) (.cons (.iff (.cmp .gt (.var 3) (.int 1)) (.cons (.asg 4 (.bin .add (.var 4) (.callO 8 0 (.cons (.int 3) .nil)))) .nil) .nil) (.cons (.asgN 5 (.lst .nil)) (.cons (.for [6] (.rng (.cons (.var 2) .nil)) bL1) (.cons (.ret (.call 17 (.cons (.callO 15 0 (.cons (.var 2) .nil)) (.cons (.var 5) (.cons (.callO 16 0 (.cons (.var 4) (.cons (.var 2) .nil))) .nil))))) .nil)))))))
/-- the helpers of the laws -/
structure Hlp (S : Src) : Prop where
  take : Has S 8 true 5 2 bTake
  far : Has S 9 true 5 2 bFar
  some : Has S 14 true 6 3 bSome
  names : Has S 15 true 9 2 bNames
  parted : Has S 16 true 10 3 bParted
  placed : Has S 17 false 6 3 bPlaced
  layout : Has S 18 true 8 2 bLayout
theorem max2_i (i j : Int) : biD .max2 [.int i, .int j] = some (.int (if j > i then j else i)) := rfl
/-- a draw from a few numbers -/
theorem take_few {S : Src} (H : Hlp S) {n : Nat} (hn : 2 ≤ n) {o : OC} (po : Pool o) {xs : List D} (h0 : 0 < xs.length) (h1 : xs.length ≤ 1000) {m : Int} (hm : m = (xs.length : Int)) : ∃ d o' x, S.run n 8 (some o) [.int m] = .ret (.int d) (some o') ∧ Pool o' ∧ idxD (.tup xs) (.int d) = some x ∧ x ∈ xs := by
  obtain ⟨d, o', e, p, a, b⟩ := take_to H.take hn po (m := m) (by omega) (by omega)
  obtain ⟨x, ex, hx⟩ := idx_tup (xs := xs) a (by omega)
  exact ⟨d, o', x, e, p, ex, hx⟩
def LayI (mo mn un fr : Int) (i : Nat) (S' : List SD) : Prop := ∃ (o : OC) (ss : List D) (t6 t7 : SD), S' = [.own false o, .val (.int mo), .val (.int mn), .val (.int un), .val (.int fr), .own true (.lst ss), t6, t7] ∧ Pool o ∧ (∀ d ∈ ss, Pos d) ∧ ss.length = i
theorem layout_step {S : Src} (H : Hlp S) {n : Nat} (hn : 2 ≤ n) {mo mn un fr : Int} {j : Nat} (hj : j < 1000) {S' : List SD} {x : D} (I : LayI mo mn un fr j S') : ∃ S2, sBody S.CF (S.run n) [6] bL1 x S' = .nx S2 ∧ LayI mo mn un fr (j + 1) S2 := by
  obtain ⟨o, ss, t6, t7, rfl, po, hs, hl⟩ := I
  obtain ⟨d1, o1, x1, e1, p1, ex1, hx1⟩ := take_few H hn po (xs := [.int 4, .int 10]) (by simp) (by simp) (m := 2) rfl
  obtain ⟨q, rfl, q0, q1⟩ : ∃ q : Int, x1 = .int q ∧ 0 < q ∧ q ≤ 10 := by
    simp only [List.mem_cons, List.not_mem_nil, or_false] at hx1
    rcases hx1 with rfl | rfl <;> exact ⟨_, rfl, by omega, by omega⟩
  obtain ⟨d2, o2, e2, p2, a2, b2⟩ := take_to H.take hn p1 (m := q) q0 (by omega)
  obtain ⟨d3, o3, e3, p3, a3, b3⟩ := take_to H.take hn p2 (m := 3) (by decide) (by decide)
  obtain ⟨d4, o4, x4, e4, p4, ex4, hx4⟩ := take_few H hn p3 (xs := [.int (un * d2 + d3), .int fr, .int (fr + 1), .int (fr - 1), .int (un * d2 + d3)]) (by simp) (by simp) (m := 5) rfl
  obtain ⟨r, rfl⟩ : ∃ r : Int, x4 = .int r := by
    simp only [List.mem_cons, List.not_mem_nil, or_false] at hx4
    rcases hx4 with rfl | rfl | rfl | rfl | rfl <;> exact ⟨_, rfl⟩
  obtain ⟨w, hw⟩ : ∃ w : Int, w = if r > 1 then r else 1 := ⟨_, rfl⟩
  have hm : biD .max2 [.int 1, .int r] = some (.int w) := by rw [max2_i, hw]
  have w1 : 1 ≤ w := by rw [hw]; split <;> omega
  have cf : ss.length < cap := lt_cap (by omega)
  rw [sBody_some _ _ (bindT_1 6 _ _), bL1]
  simp! [e1, ofFO_ret, ex1, e2, bin_mulR (i := un) (j := d2) (by omega), e3, e4, ex4, hm, if_pos cf]
  refine ⟨_, rfl, _, _, _, _, rfl, p4, fun d hd => ?_, by simp; omega⟩
  rcases List.mem_append.mp hd with z | z
  · exact hs d z
  · rw [List.mem_singleton] at z
    exact ⟨w, z, w1⟩
theorem layout_spec {S : Src} (H : Hlp S) {n : Nat} (hn : 5 ≤ n) {o : OC} (hp : Pool o) {m : Int} (m0 : 0 ≤ m) (m1 : m ≤ 100) :
    ∃ (c : Int) (bs : List D) (o' : OC), S.run n 18 (some o) [.int m] = .ret (.dct [kCap, kBlk] [.int c, .tup bs]) (some o') ∧ Pool o' ∧ 0 ≤ c ∧ (∀ d ∈ bs, Blk d) ∧ (bs.length : Int) ≤ m := by
  obtain ⟨n, rfl⟩ : ∃ k, n = k + 1 := ⟨n - 1, by omega⟩
  rw [H.layout.run n _ _ rfl rfl]
  simp only [startS, bLayout, List.map, List.replicate, List.cons_append, List.nil_append, List.length]
  obtain ⟨mn, o1, e1, p1, a1, b1⟩ := take_to H.take (n := n) (by omega) hp (m := m + 1) (by omega) (by omega)
  obtain ⟨d2, o2, e2, p2, a2, b2⟩ := far_spec H.take H.far (n := n) (by omega) p1 (m := 5 * 10000000000000000000000000000) (by decide)
  obtain ⟨d3, o3, x3, e3, p3, ex3, hx3⟩ := take_few H (n := n) (by omega) p2 (xs := [.int 1, .int 1, .int 1, .int (1 + d2)]) (by simp) (by simp) (m := 4) rfl
  obtain ⟨un, rfl, u1⟩ : ∃ q : Int, x3 = .int q ∧ 1 ≤ q := by
    simp only [List.mem_cons, List.not_mem_nil, or_false] at hx3
    rcases hx3 with rfl | rfl | rfl | rfl <;> exact ⟨_, rfl, by omega⟩
  obtain ⟨d4, o4, x4, e4, p4, ex4, hx4⟩ := take_few H (n := n) (by omega) p3 (xs := [.int 3, .int 9]) (by simp) (by simp) (m := 2) rfl
  obtain ⟨q, rfl, q0, q1⟩ : ∃ q : Int, x4 = .int q ∧ 0 < q ∧ q ≤ 10 := by
    simp only [List.mem_cons, List.not_mem_nil, or_false] at hx4
    rcases hx4 with rfl | rfl <;> exact ⟨_, rfl, by omega, by omega⟩
  obtain ⟨d5, o5, e5, p5, a5, b5⟩ := take_to H.take (n := n) (by omega) p4 (m := q) q0 (by omega)
  have rest : ∀ (o6 : OC) (fr : Int), Pool o6 → 0 ≤ fr → ∃ (c : Int) (bs : List D) (o' : OC), finD true (seqB S.CF (S.run n) (.cons (.asgN 5 (.lst .nil)) (.cons (.for [6] (.rng (.cons (.var 2) .nil)) bL1) (.cons (.ret (.call 17 (.cons (.callO 15 0 (.cons (.var 2) .nil)) (.cons (.var 5) (.cons (.callO 16 0 (.cons (.var 4) (.cons (.var 2) .nil))) .nil))))) .nil))) (.nx [.own false o6, .val (.int m), .val (.int mn), .val (.int un), .val (.int fr), .un, .un, .un])) = .ret (.dct [kCap, kBlk] [.int c, .tup bs]) (some o') ∧ Pool o' ∧ 0 ≤ c ∧ (∀ d ∈ bs, Blk d) ∧ (bs.length : Int) ≤ m := fun o6 fr p6 f0 => by
    simp! [rng_int a1 (show mn < 1000000000 by omega)]
    obtain ⟨S', e7, o7, ss, t6, t7, rfl, p7, hs, hl⟩ := loop_nx (CF := S.CF) (Φ := S.run n) (ts := [6]) (b := bL1) (LayI m mn un fr) (rngL mn.toNat) 0 _ ⟨o6, [], .un, .un, rfl, p6, fun _ z => (nomatch z), rfl⟩ fun j x S' hx I => by
      obtain ⟨ex, hj⟩ := rngL_get hx
      rw [Nat.zero_add] at I ⊢
      obtain ⟨S2, e, I2⟩ := layout_step H (n := n) (by omega) (x := x) (by omega) I
      exact ⟨S2, .inl e, I2⟩
    rw [Nat.zero_add, rngL_len] at hl
    obtain ⟨ns, o8, e8, p8, h8, l8⟩ := names_spec H.take H.names (n := n) (by omega) p7 (m := mn) a1 (by omega)
    obtain ⟨gs, o9, e9, p9, h9, l9⟩ := parted_spec H.take H.far H.some H.parted (n := n) (by omega) p8 (fr := fr) (m := mn) f0 a1 (by omega)
    obtain ⟨c, bs, e10, c0, hb, lb⟩ := placed_spec H.placed (n := n) (by omega) h8 hs h9 (by omega) (by omega) (by omega)
    simp! [e7, e8, ofFO_ret, e9, e10, ofF_ret]
    exact ⟨c, bs, o9, rfl, p9, c0, hb, by omega⟩
  have mu : 0 ≤ un * d5 := Int.mul_nonneg (by omega) a5
  by_cases hu : 1 < un
  · obtain ⟨d6, o6, e6, p6, a6, b6⟩ := take_to H.take (n := n) (by omega) p5 (m := 3) (by decide) (by decide)
    have := rest o6 (un * d5 + d6) p6 (by omega)
    simp! [e1, ofFO_ret, pow_28, bin_mulL (i := 5) (j := 10000000000000000000000000000) (by decide), e2, e3, ex3, e4, ex4, e5, bin_mulR (i := un) (j := d5) (by omega), hu, e6]
    simp! [bindT_1] at this
    exact this
  · have := rest o5 (un * d5) p5 mu
    simp! [e1, ofFO_ret, pow_28, bin_mulL (i := 5) (j := 10000000000000000000000000000) (by decide), e2, e3, ex3, e4, ex4, e5, bin_mulR (i := un) (j := d5) (by omega), hu]
    simp! [bindT_1] at this
    exact this

set_option linter.all false
set_option maxRecDepth 100000
set_option maxHeartbeats 4000000
open PySem PySem.Spec PyProof.Rows L2

/-! ### the same with lists or tuples -/
def bShS : Bs := (.cons (.asgN 2 (.cmpr [("part", 3)] [3] (.var 1) .hole (.callO 13 0 (.cons (.var 3) .nil)))) (.cons (.ret (.ite (.cmp .eq (.callO 8 0 (.cons (.int 2) .nil)) (.int 0)) (.var 2) (.bi .tup (.cons (.var 2) .nil)))) .nil))
def bShaped : Bs := (.cons (.iff (.not (.isi (.var 1) [.tup, .lst])) (.cons (.ret (.var 1)) .nil) .nil) bShS)
/-- something of which lists and tuples may stand for one another -/
def Lk (xs : List D) (d : D) : Prop := d = .lst xs ∨ d = .tup xs
/-- a block, a list or a tuple -/
def BlkS (d d' : D) : Prop := ∃ (s : Str) (a b : Int), d = .tup [.str s, .int a, .int b] ∧ s.length ≤ 100 ∧ Lk [.str s, .int a, .int b] d'
inductive F2 (R : D → D → Prop) : List D → List D → Prop
  | nil : F2 R [] []
  | cons {a b : D} {as bs : List D} (h : R a b) (t : F2 R as bs) : F2 R (a :: as) (b :: bs)
theorem F2.snoc {R : D → D → Prop} {a b : D} (h : R a b) : ∀ {as bs : List D}, F2 R as bs → F2 R (as ++ [a]) (bs ++ [b])
  | _, _, .nil => .cons h .nil
  | _, _, .cons h2 t => .cons h2 (F2.snoc h t)
theorem F2.len {R : D → D → Prop} : ∀ {as bs : List D}, F2 R as bs → as.length = bs.length
  | _, _, .nil => rfl
  | _, _, .cons _ t => by simp [F2.len t]
section
variable {S : Src} (H : Hlp S) (h13 : Has S 13 true 4 2 bShaped)
include h13
theorem shaped_atom {n : Nat} (hn : 1 ≤ n) {o : OC} {d : D} (hd : (∃ s : Str, d = .str s) ∨ ∃ i : Int, d = .int i) : S.run n 13 (some o) [d] = .ret d (some o) := by
  obtain ⟨n, rfl⟩ : ∃ k, n = k + 1 := ⟨n - 1, by omega⟩
  rw [h13.run n _ _ rfl rfl]
  simp only [startS, bShaped, List.map, List.replicate, List.cons_append, List.nil_append, List.length]
  rcases hd with ⟨s, rfl⟩ | ⟨i, rfl⟩ <;> simp! [kdD, List.any_cons, List.any_nil, isiK, Bool.or_self, Bool.not_false]
include H
/-- what stands behind the parts -/
theorem shaped_end {n : Nat} (hn : 2 ≤ n) {o : OC} (po : Pool o) (v : D) (ds : List D) (t : SD) : ∃ d' o', finD true (seqB S.CF (S.run n) (.cons (.ret (.ite (.cmp .eq (.callO 8 0 (.cons (.int 2) .nil)) (.int 0)) (.var 2) (.bi .tup (.cons (.var 2) .nil)))) .nil) (.nx [.own false o, .val v, .own true (.lst ds), t])) = .ret d' (some o') ∧ Pool o' ∧ Lk ds d' := by
  obtain ⟨d1, o1, e1, p1, a1, b1⟩ := take_to H.take (n := n) (by omega) po (m := 2) (by decide) (by decide)
  by_cases z : d1 = 0
  · simp! [e1, ofFO_ret, cmp_eqI, z]
    exact ⟨_, _, rfl, p1, .inl rfl⟩
  · simp! [e1, ofFO_ret, cmp_eqI, z, tup_lst]
    exact ⟨_, _, rfl, p1, .inr rfl⟩
theorem shaped_blk {n : Nat} (hn : 3 ≤ n) {o : OC} (po : Pool o) {d : D} (hd : Blk d) : ∃ d' o', S.run n 13 (some o) [d] = .ret d' (some o') ∧ Pool o' ∧ BlkS d d' := by
  obtain ⟨n, rfl⟩ : ∃ k, n = k + 1 := ⟨n - 1, by omega⟩
  rw [h13.run n _ _ rfl rfl]
  obtain ⟨s, a, b, rfl, hs⟩ := hd
  have one : ∀ x : D, ((∃ s : Str, x = .str s) ∨ ∃ i : Int, x = .int i) → cBody S.CF (S.run n) [3] [3] .hole (.callO 13 0 (.cons (.var 3) .nil)) x [.own false o, .val (.tup [.str s, .int a, .int b]), .un, .un] = .ok (some x) [.own false o, .val (.tup [.str s, .int a, .int b]), .un, .un] := fun x hx => by
    have e := shaped_atom h13 (n := n) (by omega) (o := o) hx
    rw [cBody_some _ _ _ _ (bindT_1 3 _ _)]
    simp! [e, ofFO_ret, cBody2_t, cBody3_ok, wipeS]
  have lp : loopC (cBody S.CF (S.run n) [3] [3] .hole (.callO 13 0 (.cons (.var 3) .nil))) [.str s, .int a, .int b] [.own false o, .val (.tup [.str s, .int a, .int b]), .un, .un] = .ok [.str s, .int a, .int b] [.own false o, .val (.tup [.str s, .int a, .int b]), .un, .un] := by
    simp only [loopC, one (.str s) (.inl ⟨s, rfl⟩), one (.int a) (.inr ⟨a, rfl⟩), one (.int b) (.inr ⟨b, rfl⟩), Res.bind]
  have c3 : 0 + 1 + 1 + 1 < cap := lt_cap (by omega)
  obtain ⟨d', o', e, p, l⟩ := shaped_end H h13 (n := n) (by omega) po (.tup [.str s, .int a, .int b]) [.str s, .int a, .int b] .un
  refine ⟨d', o', ?_, p, s, a, b, rfl, hs, l⟩
  rw [← e]
  simp only [startS, bShaped, bShS, List.map, List.replicate, List.cons_append, List.nil_append, List.length]
  have v3 : isVal (some SD.un) = true := rfl
  simp! [kdD, List.any_cons, List.any_nil, isiK, Bool.or_self, Bool.or_false, Bool.true_or, Bool.or_true, Bool.not_true, List.all_cons, List.all_nil, v3, Bool.and_self, wipeS, lp, cEnd_ok, if_pos c3, backS, Option.getD_some]
theorem shaped_blks {n : Nat} (hn : 4 ≤ n) {o : OC} (po : Pool o) {bs : List D} (hb : ∀ d ∈ bs, Blk d) (hl : bs.length ≤ 1000) : ∃ d' o' bs', S.run n 13 (some o) [.lst bs] = .ret d' (some o') ∧ Pool o' ∧ Lk bs' d' ∧ F2 BlkS bs bs' := by
  obtain ⟨n, rfl⟩ : ∃ k, n = k + 1 := ⟨n - 1, by omega⟩
  rw [h13.run n _ _ rfl rfl]
  have v3 : isVal (some SD.un) = true := rfl
  obtain ⟨ds, S', e, o2, rfl, p2, f2⟩ := loopC_all (f := cBody S.CF (S.run n) [3] [3] .hole (.callO 13 0 (.cons (.var 3) .nil))) (fun i acc S' => ∃ o, S' = [.own false o, .val (.lst bs), .un, .un] ∧ Pool o ∧ F2 BlkS (bs.take i) acc) bs 0 [] _ ⟨o, rfl, po, by rw [List.take_zero]; exact .nil⟩ fun j x acc S' hx ⟨o, eS, po, hf⟩ => by
    subst eS
    obtain ⟨d1, o1, e1, p1, r1⟩ := shaped_blk H h13 (n := n) (by omega) po (hb x (List.mem_of_getElem? hx))
    rw [cBody_some _ _ _ _ (bindT_1 3 _ _)]
    simp! [e1, ofFO_ret, cBody2_t, cBody3_ok, wipeS]
    refine ⟨_, _, rfl, o1, rfl, p1, ?_⟩
    have : bs.take (0 + j + 1) = bs.take (0 + j) ++ [x] := by rw [Nat.zero_add, List.take_add_one, hx]; rfl
    rw [this]
    exact F2.snoc r1 hf
  rw [Nat.zero_add, List.take_length, List.nil_append] at f2
  have lc : ds.length < cap := lt_cap (by have := f2.len; omega)
  obtain ⟨d', o', e5, p5, l5⟩ := shaped_end H h13 (n := n) (by omega) p2 (.lst bs) ds .un
  refine ⟨d', o', ds, ?_, p5, l5, f2⟩
  rw [← e5]
  simp only [startS, bShaped, bShS, List.map, List.replicate, List.cons_append, List.nil_append, List.length]
  simp! [kdD, List.any_cons, List.any_nil, isiK, Bool.or_self, Bool.or_false, Bool.true_or, Bool.or_true, Bool.not_true, List.all_cons, List.all_nil, v3, Bool.and_self, wipeS, e, cEnd_ok, if_pos lc, backS, Option.getD_some]
end

set_option linter.all false
set_option maxRecDepth 100000
set_option maxHeartbeats 4000000
open PySem PySem.Spec PyProof.Rows L2

/-! ### a spoilt block -/
def i0 : B := (.iff (.cmp .eq (.var 7) (.int 0)) (.cons (.asg 3 (.idx (.tup (.cons (.str "") (.cons (.str "A") (.cons (.str "1a") (.cons (.str "abcdefghi") (.cons (.str "a b") (.cons (.str "a-") (.cons (.str "aB") (.cons (.str "9") (.cons (.str " a") (.cons (.str "a@") (.cons (.str "a\n") (.cons (.str "\ta") .nil))))))))))))) (.callO 8 0 (.cons (.int 12) .nil)))) .nil) .nil)
def i1 : B := (.iff (.cmp .eq (.var 7) (.int 1)) (.cons (.asg 4 (.bin .sub (.neg (.int 1)) (.callO 9 0 (.cons (.bin .pow (.int 10) (.int 30)) .nil)))) .nil) .nil)
def i2 : B := (.iff (.cmp .eq (.var 7) (.int 2)) (.cons (.asg 5 (.idx (.tup (.cons (.int 0) (.cons (.neg (.int 1)) (.cons (.bin .add (.bin .pow (.int 10) (.int 30)) (.int 1)) (.cons (.neg (.bin .pow (.int 10) (.int 9))) .nil))))) (.callO 8 0 (.cons (.int 4) .nil)))) .nil) .nil)
def i3 : B := (.iff (.cmp .eq (.var 7) (.int 3)) (.cons (.asg 3 (.idx (.var 6) (.int 0))) .nil) .nil)
def i4 : B := (.iff (.cmp .eq (.var 7) (.int 4)) (.cons (.asg 4 (.bin .add (.var 4) (.idx (.tup (.cons (.int 1) (.cons (.bin .pow (.int 10) (.int 31)) (.cons (.var 5) .nil)))) (.callO 8 0 (.cons (.int 3) .nil))))) .nil) .nil)
def i5 : B := (.iff (.cmp .eq (.var 7) (.int 5)) (.cons (.asg 4 (.bi .max2 (.cons (.int 0) (.cons (.bin .add (.idx (.var 6) (.int 1)) (.idx (.tup (.cons (.int 0) (.cons (.bin .sub (.idx (.var 6) (.int 2)) (.int 1)) (.cons (.bin .sub (.int 1) (.var 5)) .nil)))) (.callO 8 0 (.cons (.int 3) .nil)))) .nil)))) .nil) .nil)
def i6 : B := (.iff (.cmp .eq (.var 7) (.int 6)) (.cons (.asg 5 (.bin .add (.var 5) (.idx (.tup (.cons (.int 1) (.cons (.idx (.var 6) (.int 2)) .nil))) (.callO 8 0 (.cons (.int 2) .nil))))) .nil) .nil)
def bSpoilt : Bs := (.cons (.unp [3, 4, 5] (.idx (.var 1) (.var 2))) (.cons (.asg 6 (.callO 12 0 (.cons (.var 1) .nil))) (.cons (.asg 7 (.callO 8 0 (.cons (.int 7) .nil))) (.cons i0 (.cons i1 (.cons i2 (.cons i3 (.cons i4 (.cons i5 (.cons i6 (.cons (.ret (.bin .add (.bin .add (.slV (.var 1) .hole (.var 2)) (.lst (.cons (.tup (.cons (.var 3) (.cons (.var 4) (.cons (.var 5) .nil)))) .nil))) (.slV (.var 1) (.bin .add (.var 2) (.int 1)) .hole))) .nil)))))))))))
theorem bindT_3 {i j k : Nat} {a b c : D} {S : List SD} : bindT [i, j, k] (.tup [a, b, c]) S = some (((S.set i (.val a)).set j (.val b)).set k (.val c)) := rfl
theorem bindT_3L {i j k : Nat} {a b c : D} {S : List SD} : bindT [i, j, k] (.lst [a, b, c]) S = some (((S.set i (.val a)).set j (.val b)).set k (.val c)) := rfl
theorem idx_t0 {a : D} {l : List D} : idxD (.tup (a :: l)) (.int 0) = some a := idx_l0 a l
theorem idx_t1 {a b : D} {l : List D} : idxD (.tup (a :: b :: l)) (.int 1) = some b := idx_l1 a b l
theorem idx_tt2 {a b c : D} {l : List D} : idxD (.tup (a :: b :: c :: l)) (.int 2) = some c := idx_l2 a b c l
def SpI (bl : List D) (at_ kd : Int) (oth : D) (S' : List SD) : Prop := ∃ (o : OC) (s : Str) (a b : Int), S' = [.own false o, .val (.lst bl), .val (.int at_), .val (.str s), .val (.int a), .val (.int b), .val oth, .val (.int kd)] ∧ Pool o ∧ s.length ≤ 100
section
variable {S : Src} (H : Hlp S) (h12 : Has S 12 true 2 2 bPick) {n : Nat} (hn : 3 ≤ n) {bl : List D} {at_ kd : Int} {oth : D}
include H hn
theorem sp0 {S' : List SD} (I : SpI bl at_ kd oth S') : ∃ S2, evB S.CF (S.run n) i0 S' = .nx S2 ∧ SpI bl at_ kd oth S2 := by
  obtain ⟨o, s, a, b, rfl, po, hs⟩ := I
  by_cases z : kd = 0
  · obtain ⟨d1, o1, x, e1, p1, ex, hx⟩ := take_few H (n := n) (by omega) po (xs := [.str "", .str "A", .str "1a", .str "abcdefghi", .str "a b", .str "a-", .str "aB", .str "9", .str " a", .str "a@", .str "a\n", .str "\ta"]) (by simp) (by simp) (m := 12) rfl
    obtain ⟨s2, rfl, h2⟩ : ∃ s2 : Str, x = .str s2 ∧ s2.length ≤ 100 := by
      simp only [List.mem_cons, List.not_mem_nil, or_false] at hx
      rcases hx with rfl | rfl | rfl | rfl | rfl | rfl | rfl | rfl | rfl | rfl | rfl | rfl <;> exact ⟨_, rfl, by decide +kernel⟩
    unfold i0
    simp! [cmp_eqI, z, e1, ofFO_ret, ex]
    exact ⟨_, rfl, o1, _, _, _, rfl, p1, h2⟩
  · unfold i0
    simp! [cmp_eqI, z]
    exact ⟨_, rfl, _, _, _, _, rfl, po, hs⟩
theorem sp1 {S' : List SD} (I : SpI bl at_ kd oth S') : ∃ S2, evB S.CF (S.run n) i1 S' = .nx S2 ∧ SpI bl at_ kd oth S2 := by
  obtain ⟨o, s, a, b, rfl, po, hs⟩ := I
  by_cases z : kd = 1
  · obtain ⟨d1, o1, e1, p1, a1, b1⟩ := far_spec H.take H.far (n := n) (by omega) po (m := 1000000000000000000000000000000) (by decide)
    unfold i1
    simp! [cmp_eqI, z, pow_30, e1, ofFO_ret]
    exact ⟨_, rfl, o1, _, _, _, rfl, p1, hs⟩
  · unfold i1
    simp! [cmp_eqI, z]
    exact ⟨_, rfl, _, _, _, _, rfl, po, hs⟩
theorem sp2 {S' : List SD} (I : SpI bl at_ kd oth S') : ∃ S2, evB S.CF (S.run n) i2 S' = .nx S2 ∧ SpI bl at_ kd oth S2 := by
  obtain ⟨o, s, a, b, rfl, po, hs⟩ := I
  by_cases z : kd = 2
  · obtain ⟨d1, o1, x, e1, p1, ex, hx⟩ := take_few H (n := n) (by omega) po (xs := [.int 0, .int (-1), .int (1000000000000000000000000000000 + 1), .int (-1000000000)]) (by simp) (by simp) (m := 4) rfl
    obtain ⟨r, rfl⟩ : ∃ r : Int, x = .int r := by
      simp only [List.mem_cons, List.not_mem_nil, or_false] at hx
      rcases hx with rfl | rfl | rfl | rfl <;> exact ⟨_, rfl⟩
    unfold i2
    simp! [cmp_eqI, z, pow_30, pow_9, e1, ofFO_ret, ex]
    exact ⟨_, rfl, o1, _, _, _, rfl, p1, hs⟩
  · unfold i2
    simp! [cmp_eqI, z]
    exact ⟨_, rfl, _, _, _, _, rfl, po, hs⟩
theorem sp3 (ho : Blk oth) {S' : List SD} (I : SpI bl at_ kd oth S') : ∃ S2, evB S.CF (S.run n) i3 S' = .nx S2 ∧ SpI bl at_ kd oth S2 := by
  obtain ⟨o, s, a, b, rfl, po, hs⟩ := I
  obtain ⟨s2, a2, b2, rfl, h2⟩ := ho
  by_cases z : kd = 3
  · unfold i3
    simp! [cmp_eqI, z, idx_t0]
    exact ⟨_, rfl, o, _, _, _, rfl, po, h2⟩
  · unfold i3
    simp! [cmp_eqI, z]
    exact ⟨_, rfl, _, _, _, _, rfl, po, hs⟩
theorem sp4 {S' : List SD} (I : SpI bl at_ kd oth S') : ∃ S2, evB S.CF (S.run n) i4 S' = .nx S2 ∧ SpI bl at_ kd oth S2 := by
  obtain ⟨o, s, a, b, rfl, po, hs⟩ := I
  by_cases z : kd = 4
  · obtain ⟨d1, o1, x, e1, p1, ex, hx⟩ := take_few H (n := n) (by omega) po (xs := [.int 1, .int 10000000000000000000000000000000, .int b]) (by simp) (by simp) (m := 3) rfl
    obtain ⟨r, rfl⟩ : ∃ r : Int, x = .int r := by
      simp only [List.mem_cons, List.not_mem_nil, or_false] at hx
      rcases hx with rfl | rfl | rfl <;> exact ⟨_, rfl⟩
    unfold i4
    simp! [cmp_eqI, z, pow_31, e1, ofFO_ret, ex]
    exact ⟨_, rfl, o1, _, _, _, rfl, p1, hs⟩
  · unfold i4
    simp! [cmp_eqI, z]
    exact ⟨_, rfl, _, _, _, _, rfl, po, hs⟩
theorem sp5 (ho : Blk oth) {S' : List SD} (I : SpI bl at_ kd oth S') : ∃ S2, evB S.CF (S.run n) i5 S' = .nx S2 ∧ SpI bl at_ kd oth S2 := by
  obtain ⟨o, s, a, b, rfl, po, hs⟩ := I
  obtain ⟨s2, a2, b2, rfl, h2⟩ := ho
  by_cases z : kd = 5
  · obtain ⟨d1, o1, x, e1, p1, ex, hx⟩ := take_few H (n := n) (by omega) po (xs := [.int 0, .int (b2 - 1), .int (1 - b)]) (by simp) (by simp) (m := 3) rfl
    obtain ⟨r, rfl⟩ : ∃ r : Int, x = .int r := by
      simp only [List.mem_cons, List.not_mem_nil, or_false] at hx
      rcases hx with rfl | rfl | rfl <;> exact ⟨_, rfl⟩
    obtain ⟨w, hw⟩ : ∃ w : Int, w = if a2 + r > 0 then a2 + r else 0 := ⟨_, rfl⟩
    have hm : biD .max2 [.int 0, .int (a2 + r)] = some (.int w) := by rw [max2_i, hw]
    unfold i5
    simp! [cmp_eqI, z, idx_t1, idx_tt2, e1, ofFO_ret, ex, hm]
    exact ⟨_, rfl, o1, _, _, _, rfl, p1, hs⟩
  · unfold i5
    simp! [cmp_eqI, z]
    exact ⟨_, rfl, _, _, _, _, rfl, po, hs⟩
theorem sp6 (ho : Blk oth) {S' : List SD} (I : SpI bl at_ kd oth S') : ∃ S2, evB S.CF (S.run n) i6 S' = .nx S2 ∧ SpI bl at_ kd oth S2 := by
  obtain ⟨o, s, a, b, rfl, po, hs⟩ := I
  obtain ⟨s2, a2, b2, rfl, h2⟩ := ho
  by_cases z : kd = 6
  · obtain ⟨d1, o1, x, e1, p1, ex, hx⟩ := take_few H (n := n) (by omega) po (xs := [.int 1, .int b2]) (by simp) (by simp) (m := 2) rfl
    obtain ⟨r, rfl⟩ : ∃ r : Int, x = .int r := by
      simp only [List.mem_cons, List.not_mem_nil, or_false] at hx
      rcases hx with rfl | rfl <;> exact ⟨_, rfl⟩
    unfold i6
    simp! [cmp_eqI, z, idx_tt2, e1, ofFO_ret, ex]
    exact ⟨_, rfl, o1, _, _, _, rfl, p1, hs⟩
  · unfold i6
    simp! [cmp_eqI, z]
    exact ⟨_, rfl, _, _, _, _, rfl, po, hs⟩
end
theorem slv_lst (xs : List D) (lo hi : Option Int) : slvD (.lst xs) lo hi = some (.lst (cutD xs lo hi)) := rfl
theorem cut_len (xs : List D) (lo hi : Option Int) : (cutD xs lo hi).length ≤ xs.length := by
  unfold cutD
  rw [List.length_take, List.length_drop]
  omega
theorem cut_mem {xs : List D} {lo hi : Option Int} {d : D} (h : d ∈ cutD xs lo hi) : d ∈ xs := by
  unfold cutD at h
  exact List.mem_of_mem_drop (List.mem_of_mem_take h)
theorem add_lst {xs ys : List D} (h : xs.length + ys.length ≤ 100000) : binD .add (.lst xs) (.lst ys) = some (.lst (xs ++ ys)) := if_pos (le_cap h)
theorem optI_n : optI none = some none := rfl
theorem optI_i (i : Int) : optI (some (.int i)) = some (some i) := rfl
theorem spoilt_spec {S : Src} (H : Hlp S) (h12 : Has S 12 true 2 2 bPick) (h19 : Has S 19 true 8 3 bSpoilt) {n : Nat} (hn : 4 ≤ n) {o : OC} (po : Pool o) {bl : List D} (hb : ∀ d ∈ bl, Blk d) (hl : bl.length ≤ 1000) {at_ : Int} (a0 : 0 ≤ at_) (a1 : at_ < bl.length) :
    ∃ ds o', S.run n 19 (some o) [.lst bl, .int at_] = .ret (.lst ds) (some o') ∧ Pool o' ∧ (∀ d ∈ ds, Blk d) ∧ ds.length ≤ 2 * bl.length + 1 ∧ 0 < ds.length := by
  obtain ⟨n, rfl⟩ : ∃ k, n = k + 1 := ⟨n - 1, by omega⟩
  rw [h19.run n _ _ rfl rfl]
  obtain ⟨x, ex, mx⟩ := atI_ex bl at_ a0 a1
  obtain ⟨s, a, b, rfl, hs⟩ := hb x mx
  have ei : idxD (.lst bl) (.int at_) = some (.tup [.str s, .int a, .int b]) := ex
  obtain ⟨oth, o1, e1, p1, m1⟩ := pick_spec H.take h12 (n := n) (by omega) po (xs := bl) (fun z => by rw [z] at a1; simp at a1; omega) (by omega)
  have ho := hb oth m1
  obtain ⟨kd, o2, e2, p2, k0, k1⟩ := take_to H.take (n := n) (by omega) p1 (m := 7) (by decide) (by decide)
  obtain ⟨S0, f0, I0⟩ := sp0 H (n := n) (by omega) (bl := bl) (at_ := at_) (kd := kd) (oth := oth) ⟨o2, s, a, b, rfl, p2, hs⟩
  obtain ⟨S1, f1, I1⟩ := sp1 H (n := n) (by omega) I0
  obtain ⟨S2, f2, I2⟩ := sp2 H (n := n) (by omega) I1
  obtain ⟨S3, f3, I3⟩ := sp3 H (n := n) (by omega) ho I2
  obtain ⟨S4, f4, I4⟩ := sp4 H (n := n) (by omega) I3
  obtain ⟨S5, f5, I5⟩ := sp5 H (n := n) (by omega) ho I4
  obtain ⟨S6, f6, o7, s7, a7, b7, rfl, p7, h7⟩ := sp6 H (n := n) (by omega) ho I5
  have c1 := cut_len bl none (some at_)
  have c2 := cut_len bl (some (at_ + 1)) none
  have l1 : binD .add (.lst (cutD bl none (some at_))) (.lst [.tup [.str s7, .int a7, .int b7]]) = some (.lst (cutD bl none (some at_) ++ [.tup [.str s7, .int a7, .int b7]])) := add_lst (by simp; omega)
  have l2 : binD .add (.lst (cutD bl none (some at_) ++ [.tup [.str s7, .int a7, .int b7]])) (.lst (cutD bl (some (at_ + 1)) none)) = some (.lst (cutD bl none (some at_) ++ [.tup [.str s7, .int a7, .int b7]] ++ cutD bl (some (at_ + 1)) none)) := add_lst (by simp; omega)
  simp only [startS, bSpoilt, List.map, List.replicate, List.cons_append, List.nil_append, List.length]
  simp! [ei, bindT_3, e1, ofFO_ret, e2, f0, f1, f2, f3, f4, f5, f6, slv_lst, optI_n, optI_i, l1, l2]
  refine ⟨_, _, rfl, p7, fun d hd => ?_, by simp; omega, by simp <;> omega⟩
  rcases List.mem_append.mp hd with z | z
  · rcases List.mem_append.mp z with z | z
    · exact hb d (cut_mem z)
    · rw [List.mem_singleton] at z
      exact ⟨s7, a7, b7, z, h7⟩
  · exact hb d (cut_mem z)

set_option linter.all false
set_option maxRecDepth 100000
set_option maxHeartbeats 4000000
open PySem PySem.Spec PyProof.Rows L2

/-! ### names that blocks can have -/
def z36 : Str := z26 ++ z10
def isNm (s : Str) : Bool := decide (1 ≤ s.length) && decide (s.length ≤ 8) && decide (s.cps.toList.headD 0 ∈ z26.cps.toList) && s.cps.toList.all fun c => decide (c ∈ z36.cps.toList)
theorem len_str {s : Str} (h : s.length ≤ 100000) : biD .len [.str s] = some (.int s.length) := if_pos (le_cap h)
theorem idx_s0 {s : Str} (h : s.length ≤ 100000) (h1 : 1 ≤ s.length) : idxD (.str s) (.int 0) = some (.str ⟨#[s.cps.toList.headD 0]⟩) := by
  have hl : s.cps.toList.length = s.length := Array.length_toList
  show (if s.length ≤ cap then (atI s.cps.toList 0).map fun c => D.str ⟨#[c]⟩ else none) = _
  rw [if_pos (le_cap h), atI_get _ _ (by omega) (by omega)]
  cases e : s.cps.toList with
  | nil => rw [e] at hl; simp at hl; omega
  | cons c r => rfl
theorem in_str1 (c : Nat) (z : Str) : cmpD .inn (.str ⟨#[c]⟩) (.str z) = some (decide (c ∈ z.cps.toList)) := by
  show (if (1 : Nat) = 1 then some (decide (c ∈ z.cps.toList)) else none) = _
  rw [if_pos rfl]
theorem nin_str1 (c : Nat) (z : Str) : cmpD .nin (.str ⟨#[c]⟩) (.str z) = some (!decide (c ∈ z.cps.toList)) := by
  show (cmpD .inn (.str ⟨#[c]⟩) (.str z)).map (!·) = _
  rw [in_str1]; rfl
theorem elm_str (s : Str) : elmD (.str s) = some (s.cps.toList.map fun c => .str ⟨#[c]⟩) := rfl
def bIsName : Bs := (.cons (.iff (.disj (.not (.isi (.var 0) [.str])) (.not (.chain .le .le (.int 1) (.bi .len (.cons (.var 0) .nil)) (.glob "MOST_NAME_SIGNS" (.int 8))))) (.cons (.ret (.bl false)) .nil) .nil) (.cons (.ret (.conj (.cmp .inn (.idx (.var 0) (.int 0)) (.glob "LETTERS" (.str z26))) (.gen true (.var 0) (.inn false .it (.cat (.gl "LETTERS" (.str z26)) (.gl "FIGURES" (.str z10))))))) .nil))
theorem gn_name (S : List SD) : ∀ l : List Nat, gnB S (.inn false .it (.cat (.gl "LETTERS" (.str z26)) (.gl "FIGURES" (.str z10)))) (l.map fun c => .str ⟨#[c]⟩) = some (l.map fun c => decide (c ∈ z36.cps.toList))
  | [] => rfl
  | c :: l => by
    have ih := gn_name S l
    unfold gnB at ih ⊢
    rw [List.map_cons, List.mapM_cons, ih]
    have e : evP S (.str ⟨#[c]⟩) (.inn false .it (.cat (.gl "LETTERS" (.str z26)) (.gl "FIGURES" (.str z10)))) = some (.bl (decide (c ∈ z36.cps.toList))) := by
      simp only [evP]
      rw [if_pos (show z26.length + z10.length ≤ cap from le_cap (by rw [z26_len, z10_len]; omega))]
      rfl
    rw [e]
    rfl
theorem all_map (l : List Nat) (p : Nat → Bool) : (l.map p).all id = l.all p := by rw [List.all_map]; rfl
theorem isName_spec {S : Src} (h1 : Has S 1 false 1 1 bIsName) {n : Nat} (hn : 1 ≤ n) {s : Str} (hs : s.length ≤ 100) : S.run n 1 none [.str s] = .ret (.bl (isNm s)) none := by
  obtain ⟨n, rfl⟩ : ∃ k, n = k + 1 := ⟨n - 1, by omega⟩
  rw [h1.run n _ _ rfl rfl]
  obtain ⟨q, hq⟩ : ∃ q : Int, q = (s.length : Int) := ⟨_, rfl⟩
  have lq : biD .len [.str s] = some (.int q) := by rw [len_str (by omega), hq]
  simp only [startS, bIsName, List.map, List.replicate, List.cons_append, List.nil_append, List.length]
  by_cases a1 : 1 ≤ q
  · by_cases a2 : q ≤ 8
    · have i0 := idx_s0 (s := s) (by omega) (by omega)
      have k1 : decide (1 ≤ s.length) = true := decide_eq_true (by omega)
      have k2 : decide (s.length ≤ 8) = true := decide_eq_true (by omega)
      simp! [kdD, List.any_cons, List.any_nil, isiK, Bool.or_self, Bool.or_false, Bool.not_true, Bool.not_false, lq, a1, a2, i0, in_str1]
      by_cases w : s.cps.toList.headD 0 ∈ z26.cps.toList
      · simp! [w, elm_str, gn_name, all_map, isNm, k1, k2, Bool.and_self, Bool.true_and]
      · simp! [w, isNm, k1, k2, Bool.and_self, Bool.true_and, Bool.false_and]
    · have k2 : decide (s.length ≤ 8) = false := decide_eq_false (by omega)
      simp! [kdD, List.any_cons, List.any_nil, isiK, Bool.or_self, Bool.or_false, Bool.not_true, Bool.not_false, lq, a1, a2, isNm, k2, Bool.and_false, Bool.false_and]
  · have k1 : decide (1 ≤ s.length) = false := decide_eq_false (by omega)
    simp! [kdD, List.any_cons, List.any_nil, isiK, Bool.or_self, Bool.or_false, Bool.not_true, Bool.not_false, lq, a1, isNm, k1, Bool.and_false, Bool.false_and]
def bLName : Bs := (.cons (.asg 1 (.str z26)) (.cons (.iff (.disj (.cmp .lt (.bi .len (.cons (.var 0) .nil)) (.int 1)) (.disj (.cmp .gt (.bi .len (.cons (.var 0) .nil)) (.int 8)) (.cmp .nin (.idx (.var 0) (.int 0)) (.var 1)))) (.cons (.ret (.bl false)) .nil) .nil) (.cons (.ret (.bi .all (.cons (.cmpr [("sign", 2)] [2] (.var 0) .hole (.cmp .inn (.var 2) (.bin .add (.var 1) (.str z10)))) .nil))) .nil)))
theorem bls_map (l : List Bool) : biD .all [.lst (l.map .bl)] = some (.bl (l.all id)) := by
  show (blsD (l.map .bl)).map _ = _
  have : blsD (l.map .bl) = some l := by
    induction l with
    | nil => rfl
    | cons b l ih =>
      unfold blsD at ih ⊢
      rw [List.map_cons, List.mapM_cons, ih]; rfl
  rw [this]; rfl
theorem lName_spec {S : Src} (h20 : Has S 20 false 3 1 bLName) {n : Nat} (hn : 1 ≤ n) {s : Str} (hs : s.length ≤ 100) : S.run n 20 none [.str s] = .ret (.bl (isNm s)) none := by
  obtain ⟨n, rfl⟩ : ∃ k, n = k + 1 := ⟨n - 1, by omega⟩
  rw [h20.run n _ _ rfl rfl]
  obtain ⟨q, hq⟩ : ∃ q : Int, q = (s.length : Int) := ⟨_, rfl⟩
  have lq : biD .len [.str s] = some (.int q) := by rw [len_str (by omega), hq]
  simp only [startS, bLName, List.map, List.replicate, List.cons_append, List.nil_append, List.length]
  by_cases a1 : q < 1
  · have k1 : decide (1 ≤ s.length) = false := decide_eq_false (by omega)
    simp! [lq, a1, isNm, k1, Bool.and_false, Bool.false_and]
  · have i0 := idx_s0 (s := s) (by omega) (by omega)
    have k1 : decide (1 ≤ s.length) = true := decide_eq_true (by omega)
    by_cases a2 : 8 < q
    · have k2 : decide (s.length ≤ 8) = false := decide_eq_false (by omega)
      simp! [lq, a1, a2, isNm, k2, Bool.and_false, Bool.false_and]
    · have k2 : decide (s.length ≤ 8) = true := decide_eq_true (by omega)
      by_cases w : s.cps.toList.headD 0 ∈ z26.cps.toList
      · have lp : ∀ l : List Nat, loopC (cBody S.CF (S.run n) [2] [2] .hole (.cmp .inn (.var 2) (.bin .add (.var 1) (.str z10)))) (l.map fun c => .str ⟨#[c]⟩) [.val (.str s), .val (.str z26), .un] = .ok ((l.map fun c => decide (c ∈ z36.cps.toList)).map .bl) [.val (.str s), .val (.str z26), .un] := fun l => by
          induction l with
          | nil => rfl
          | cons c l ih =>
            have one : cBody S.CF (S.run n) [2] [2] .hole (.cmp .inn (.var 2) (.bin .add (.var 1) (.str z10))) (.str ⟨#[c]⟩) [.val (.str s), .val (.str z26), .un] = .ok (some (.bl (decide (c ∈ z36.cps.toList)))) [.val (.str s), .val (.str z26), .un] := by
              rw [cBody_some _ _ _ _ (bindT_1 2 _ _)]
              simp! [add_z, in_str1, cBody2_t, cBody3_ok, wipeS]
              rfl
            rw [List.map_cons, loopC, one]
            simp only [Res.bind, ih]
            rfl
        have v3 : isVal (some SD.un) = true := rfl
        have lc : ((s.cps.toList.map fun c => decide (c ∈ z36.cps.toList)).map D.bl).length < cap := lt_cap (by simp; have : s.cps.size = s.length := rfl; omega)
        simp! [lq, a1, a2, i0, nin_str1, w, Bool.not_true, elm_str, List.all_cons, List.all_nil, v3, Bool.and_self, wipeS, lp]
        rw [if_pos lc]
        simp! [backS, Option.getD_some, bls_map, all_map, isNm, k1, k2, w, Bool.true_and]
      · simp! [lq, a1, a2, i0, nin_str1, w, Bool.not_false, isNm, k1, k2, Bool.and_self, Bool.true_and, Bool.false_and]

set_option linter.all false
set_option maxRecDepth 100000
set_option maxHeartbeats 4000000
open PySem PySem.Spec PyProof.Rows L2

/-! ### the first reason -/
theorem loop_any {CF : Nat → List Str} {Φ : Nat → Option OC → List D → FRes} {ts : List Nat} {b : Bs} {T : Type} (g : T → D) (p : T → Bool) (d : D) (I : List SD → Prop) : ∀ (l : List T) (S : List SD), I S →
    (∀ t S, t ∈ l → I S → (p t = true ∧ ∃ S', sBody CF Φ ts b (g t) S = .rt d S') ∨ (p t = false ∧ ∃ S', sBody CF Φ ts b (g t) S = .nx S' ∧ I S')) →
    (l.any p = true ∧ ∃ S', sLoop CF Φ ts b (l.map g) S = .rt d S') ∨ (l.any p = false ∧ ∃ S', sLoop CF Φ ts b (l.map g) S = .nx S' ∧ I S')
  | [], S, h0, _ => .inr ⟨rfl, S, rfl, h0⟩
  | t :: l, S, h0, st => by
    have un : sLoop CF Φ ts b ((t :: l).map g) S = match sBody CF Φ ts b (g t) S with | .nx S1 => sLoop CF Φ ts b (l.map g) S1 | .ct S1 => sLoop CF Φ ts b (l.map g) S1 | .bk S1 => .nx S1 | r => r := by
      unfold sLoop sBody
      rw [List.map_cons, loopF] <;> rfl
    obtain ⟨hp, S1, e1⟩ | ⟨hp, S1, e1, h1⟩ := st t S List.mem_cons_self h0
    · exact .inl ⟨by rw [List.any_cons, hp, Bool.true_or], S1, by rw [un, e1]⟩
    · rw [un, e1, List.any_cons, hp, Bool.false_or]
      exact loop_any g p d I l S1 h1 fun t S ht => st t S (List.mem_cons_of_mem _ ht)
abbrev T3 := Str × Int × Int
def tpD (t : T3) : D := .tup [.str t.1, .int t.2.1, .int t.2.2]
def shD (t : Bool × T3) : D := if t.1 = true then .lst [.str t.2.1, .int t.2.2.1, .int t.2.2.2] else tpD t.2
def ovl (a b : Int) (t : T3) : Bool := decide (a < t.2.1 + t.2.2) && decide (t.2.1 < a + b)
def twc (s : Str) (er : List T3) : Bool := er.any fun o => decide (o.1 = s)
def lone (cp : Int) (t : T3) (er : List T3) : Option Str :=
  if isNm t.1 = false then some "name" else if t.2.1 < 0 then some "start" else if t.2.2 < 1 ∨ 1000000000000000000000000000000 < t.2.2 then some "size" else if twc t.1 er = true then some "twice" else if cp < t.2.1 + t.2.2 then some "beyond" else none
def ovf (t : T3) (er : List T3) : Option Str := if er.any (ovl t.2.1 t.2.2) = true then some "overlap" else none
def rsn (cp : Int) (t : T3) (er : List T3) : Option Str := match lone cp t er with | some s => some s | none => ovf t er
def optD : Option Str → D
  | none => .non
  | some s => .str s
def bReaL : Bs := (.cons (.iff (.conj (.cmp .lt (.var 4) (.bin .add (.idx (.var 6) (.int 1)) (.idx (.var 6) (.int 2)))) (.cmp .lt (.idx (.var 6) (.int 1)) (.bin .add (.var 4) (.var 5)))) (.cons (.ret (.str "overlap")) .nil) .nil) .nil)
def bReason : Bs := (.cons (.unp [3, 4, 5] (.var 1)) (.cons (.iff (.not (.call 20 (.cons (.var 3) .nil))) (.cons (.ret (.str "name")) .nil) .nil) (.cons (.iff (.cmp .lt (.var 4) (.int 0)) (.cons (.ret (.str "start")) .nil) .nil) (.cons (.iff (.disj (.cmp .lt (.var 5) (.int 1)) (.cmp .gt (.var 5) (.bin .pow (.int 10) (.int 30)))) (.cons (.ret (.str "size")) .nil) .nil) (.cons (.iff (.cmp .inn (.var 3) (.cmpr [("other", 6)] [6] (.var 2) .hole (.idx (.var 6) (.int 0)))) (.cons (.ret (.str "twice")) .nil) .nil) (.cons (.iff (.cmp .gt (.bin .add (.var 4) (.var 5)) (.var 0)) (.cons (.ret (.str "beyond")) .nil) .nil) (.cons (.for [6] (.var 2) bReaL) (.cons (.ret .non) .nil))))))))
theorem eq_str (x y : Str) : eqD (.str x) (.str y) = decide (x = y) := rfl
theorem inn_strs (s : Str) (er : List T3) : cmpD .inn (.str s) (.lst (er.map fun o => D.str o.1)) = some (twc s er) := by
  show (if flatD (.str s) = true ∧ (er.map fun o => D.str o.1).all flatD = true then some ((er.map fun o => D.str o.1).any fun y => eqD y (.str s)) else none) = _
  have h2 : (er.map fun o => D.str o.1).all flatD = true := by rw [List.all_map]; exact List.all_eq_true.2 fun _ _ => rfl
  rw [if_pos ⟨rfl, h2⟩, List.any_map]
  rfl
theorem rea_loop {CF : Nat → List Str} {Φ : Nat → Option OC → List D → FRes} (s0 s1 s2 s3 : SD) (a b : Int) (er : List T3) (s6 : SD) :
    (er.any (ovl a b) = true ∧ ∃ S', sLoop CF Φ [6] bReaL (er.map tpD) [s0, s1, s2, s3, .val (.int a), .val (.int b), s6] = .rt (.str "overlap") S') ∨ (er.any (ovl a b) = false ∧ ∃ S', sLoop CF Φ [6] bReaL (er.map tpD) [s0, s1, s2, s3, .val (.int a), .val (.int b), s6] = .nx S' ∧ ∃ s6', S' = [s0, s1, s2, s3, .val (.int a), .val (.int b), s6']) :=
  loop_any tpD (ovl a b) (.str "overlap") (fun S' => ∃ s6', S' = [s0, s1, s2, s3, .val (.int a), .val (.int b), s6']) er _ ⟨s6, rfl⟩ fun t S' ht ⟨s, e⟩ => by
    subst e
    obtain ⟨nm, c, d⟩ := t
    rw [sBody_some _ _ (bindT_1 6 _ _)]
    unfold ovl
    by_cases h1 : a < c + d
    · by_cases h2 : c < a + b
      · refine .inl ⟨by simp [h1, h2], ?_⟩
        unfold bReaL tpD
        simp! [idx_t1, idx_tt2, h1, h2]
        exact ⟨_, rfl⟩
      · refine .inr ⟨by simp [h1, h2], ?_⟩
        unfold bReaL tpD
        simp! [idx_t1, idx_tt2, h1, h2]
        exact ⟨_, rfl, _, rfl⟩
    · refine .inr ⟨by simp [h1], ?_⟩
      unfold bReaL tpD
      simp! [idx_t1, idx_tt2, h1]
      exact ⟨_, rfl, _, rfl⟩
theorem reason_spec {S : Src} (h20 : Has S 20 false 3 1 bLName) (h21 : Has S 21 false 7 3 bReason) {n : Nat} (hn : 2 ≤ n) {cp : Int} {t : T3} (ht : t.1.length ≤ 100) {er : List T3} (hl : er.length ≤ 1000) :
    S.run n 21 none [.int cp, tpD t, .lst (er.map tpD)] = .ret (optD (rsn cp t er)) none := by
  obtain ⟨n, rfl⟩ : ∃ k, n = k + 1 := ⟨n - 1, by omega⟩
  rw [h21.run n _ _ rfl rfl]
  obtain ⟨nm, a, b⟩ := t
  have e20 := lName_spec h20 (n := n) (by omega) ht
  have v6 : isVal (some SD.un) = true := rfl
  simp only [startS, bReason, tpD, rsn, lone, List.map, List.replicate, List.cons_append, List.nil_append, List.length]
  by_cases c1 : isNm nm = true
  · by_cases c2 : a < 0
    · simp! [bindT_3, e20, ofF_ret, c1, c2, Bool.not_true]
      simp [c2, optD]
    · by_cases c3 : b < 1
      · simp! [bindT_3, e20, ofF_ret, c1, c2, c3, Bool.not_true]
        simp [c2, c3, optD]
      · by_cases c4 : 1000000000000000000000000000000 < b
        · simp! [bindT_3, e20, ofF_ret, c1, c2, c3, c4, Bool.not_true, pow_30]
          simp [c2, c3, c4, optD]
        · have lp : ∀ l : List T3, loopC (cBody S.CF (S.run n) [6] [6] .hole (.idx (.var 6) (.int 0))) (l.map tpD) [.val (.int cp), .val (.tup [.str nm, .int a, .int b]), .val (.lst (er.map tpD)), .val (.str nm), .val (.int a), .val (.int b), .un] = .ok (l.map fun o => D.str o.1) [.val (.int cp), .val (.tup [.str nm, .int a, .int b]), .val (.lst (er.map tpD)), .val (.str nm), .val (.int a), .val (.int b), .un] := fun l => by
            induction l with
            | nil => rfl
            | cons t l ih =>
              have one : cBody S.CF (S.run n) [6] [6] .hole (.idx (.var 6) (.int 0)) (tpD t) [.val (.int cp), .val (.tup [.str nm, .int a, .int b]), .val (.lst (er.map tpD)), .val (.str nm), .val (.int a), .val (.int b), .un] = .ok (some (.str t.1)) [.val (.int cp), .val (.tup [.str nm, .int a, .int b]), .val (.lst (er.map tpD)), .val (.str nm), .val (.int a), .val (.int b), .un] := by
                unfold tpD
                rw [cBody_some _ _ _ _ (bindT_1 6 _ _)]
                simp! [idx_t0, cBody2_t, cBody3_ok, wipeS]
              rw [List.map_cons, loopC, one]
              simp only [Res.bind, ih]
              rfl
          have lc : (er.map fun o => D.str o.1).length < cap := lt_cap (by rw [List.length_map]; omega)
          have lp2 := lp er
          by_cases c5 : twc nm er = true
          · simp! [bindT_3, e20, ofF_ret, c1, c2, c3, c4, Bool.not_true, pow_30, elm_lst, List.all_cons, List.all_nil, v6, Bool.and_self, wipeS, lp2, if_pos lc, backS, Option.getD_some, inn_strs, c5]
            simp [c2, c3, c4, c5, optD]
          · by_cases c6 : cp < a + b
            · simp! [bindT_3, e20, ofF_ret, c1, c2, c3, c4, Bool.not_true, pow_30, elm_lst, List.all_cons, List.all_nil, v6, Bool.and_self, wipeS, lp2, if_pos lc, backS, Option.getD_some, inn_strs, c5, c6]
              simp [c2, c3, c4, c5, c6, optD]
            · have rl := rea_loop (CF := S.CF) (Φ := S.run n) (.val (.int cp)) (.val (.tup [.str nm, .int a, .int b])) (.val (.lst (er.map tpD))) (.val (.str nm)) a b er .un
              obtain ⟨o, S', e⟩ | ⟨o, S', e, s6, rfl⟩ := rl
              · simp! [bindT_3, e20, ofF_ret, c1, c2, c3, c4, Bool.not_true, pow_30, elm_lst, List.all_cons, List.all_nil, v6, Bool.and_self, wipeS, lp2, if_pos lc, backS, Option.getD_some, inn_strs, c5, c6, e]
                simp [c2, c3, c4, c5, c6, optD, ovf, o]
              · simp! [bindT_3, e20, ofF_ret, c1, c2, c3, c4, Bool.not_true, pow_30, elm_lst, List.all_cons, List.all_nil, v6, Bool.and_self, wipeS, lp2, if_pos lc, backS, Option.getD_some, inn_strs, c5, c6, e]
                simp [c2, c3, c4, c5, c6, optD, ovf, o]
  · simp! [bindT_3, e20, ofF_ret, c1, Bool.not_false]
    simp [c1, optD]

set_option linter.all false
set_option maxRecDepth 100000
set_option maxHeartbeats 4000000
open PySem PySem.Spec PyProof.Rows L2

/-! ### what is due -/
def firstI (f : Nat → Option Str) : Nat → Nat → Option (Nat × Str)
  | _, 0 => none
  | k, m + 1 => match f k with | some s => some (k, s) | none => firstI f (k + 1) m
theorem loop_first {CF : Nat → List Str} {Φ : Nat → Option OC → List D → FRes} {ts : List Nat} {b : Bs} (item : Nat → D) (f : Nat → Option Str) (I : List SD → Prop) (Out : Nat → Str → RS → Prop) (hOut : ∀ k s r, Out k s r → (∃ d S, r = .rt d S) ∨ (∃ cn fn vs S, r = .exc cn fn vs S)) :
    ∀ (m k : Nat) (S : List SD), I S → (∀ j S, k ≤ j → j < k + m → I S → (∃ s, f j = some s ∧ Out j s (sBody CF Φ ts b (item j) S)) ∨ (f j = none ∧ ∃ S', sBody CF Φ ts b (item j) S = .nx S' ∧ I S')) →
    (∃ j s, firstI f k m = some (j, s) ∧ Out j s (sLoop CF Φ ts b ((List.range' k m).map item) S)) ∨ (firstI f k m = none ∧ ∃ S', sLoop CF Φ ts b ((List.range' k m).map item) S = .nx S' ∧ I S')
  | 0, k, S, h0, _ => .inr ⟨rfl, S, rfl, h0⟩
  | m + 1, k, S, h0, st => by
    have un : sLoop CF Φ ts b ((List.range' k (m + 1)).map item) S = match sBody CF Φ ts b (item k) S with | .nx S1 => sLoop CF Φ ts b ((List.range' (k + 1) m).map item) S1 | .ct S1 => sLoop CF Φ ts b ((List.range' (k + 1) m).map item) S1 | .bk S1 => .nx S1 | r => r := by
      unfold sLoop sBody
      rw [List.range'_succ, List.map_cons, loopF] <;> rfl
    rw [un, firstI]
    obtain ⟨s, hf, ho⟩ | ⟨hf, S1, e1, h1⟩ := st k S (Nat.le_refl _) (by omega) h0
    · rw [hf]
      refine .inl ⟨k, s, rfl, ?_⟩
      obtain ⟨d, S, e⟩ | ⟨cn, fn, vs, S, e⟩ := hOut _ _ _ ho
      · rw [e] at ho ⊢; exact ho
      · rw [e] at ho ⊢; exact ho
    · rw [hf, e1]
      exact loop_first item f I Out hOut m (k + 1) S1 h1 fun j S' h2 h3 => st j S' (by omega) (by omega)
theorem rngL_range' (n : Nat) : rngL n = (List.range' 0 n).map fun (k : Nat) => .int (0 + (k : Int)) := by unfold rngL; rw [List.range_eq_range']
theorem cut_take {α : Type} (xs : List α) {k : Nat} (h : k ≤ xs.length) : cutD xs none (some (0 + (k : Int))) = xs.take k := by
  have e0 : HT.sIx xs.length 0 none = 0 := rfl
  have e1 : HT.sIx xs.length xs.length (some (0 + (k : Int))) = k := by
    simp only [HT.sIx]
    split <;> omega
  unfold cutD
  rw [e0, e1, List.drop_zero, Nat.sub_zero]
def rfI (cp : Int) (bl : List T3) (k : Nat) : Option Str := match bl[k]? with | some t => rsn cp t (bl.take k) | none => none
def due (cp : Int) (bl : List T3) : Option (Option Nat × Str) :=
  if cp < 0 ∨ 10000000000000000000000000000000 < cp then some (none, "capacity") else if 12 < (bl.length : Int) then some (none, "many") else (firstI (rfI cp bl) 0 bl.length).map fun p => (some p.1, p.2)
def dueD : Option (Option Nat × Str) → D
  | none => .non
  | some (none, s) => .tup [.non, .str s]
  | some (some k, s) => .tup [.int (k : Int), .str s]
def bDueL : Bs := (.cons (.asg 3 (.call 21 (.cons (.var 0) (.cons (.idx (.var 1) (.var 2)) (.cons (.slV (.var 1) .hole (.var 2)) .nil))))) (.cons (.iff (.isN true (.var 3)) (.cons (.ret (.tup (.cons (.var 2) (.cons (.var 3) .nil)))) .nil) .nil) .nil))
def bDue : Bs := (.cons (.iff (.disj (.cmp .lt (.var 0) (.int 0)) (.cmp .gt (.var 0) (.bin .pow (.int 10) (.int 31)))) (.cons (.ret (.tup (.cons .non (.cons (.str "capacity") .nil)))) .nil) .nil) (.cons (.iff (.cmp .gt (.bi .len (.cons (.var 1) .nil)) (.int 12)) (.cons (.ret (.tup (.cons .non (.cons (.str "many") .nil)))) .nil) .nil) (.cons (.for [2] (.rng (.cons (.bi .len (.cons (.var 1) .nil)) .nil)) bDueL) (.cons (.ret .non) .nil))))
theorem idx_map {bl : List T3} {j : Nat} {t : T3} (h : bl[j]? = some t) : idxD (.lst (bl.map tpD)) (.int (0 + (j : Int))) = some (tpD t) := by
  have hj : j < bl.length := (List.getElem?_eq_some_iff.1 h).1
  show atI (bl.map tpD) _ = _
  rw [atI_get _ _ (by omega) (by rw [List.length_map]; omega), show (0 + (j : Int)).toNat = j by omega, List.getElem?_map, h]; rfl
theorem due_spec {S : Src} (h20 : Has S 20 false 3 1 bLName) (h21 : Has S 21 false 7 3 bReason) (h22 : Has S 22 false 4 2 bDue) {n : Nat} (hn : 3 ≤ n) {cp : Int} {bl : List T3} (hb : ∀ t ∈ bl, t.1.length ≤ 100) (hl : bl.length ≤ 1000) :
    S.run n 22 none [.int cp, .lst (bl.map tpD)] = .ret (dueD (due cp bl)) none := by
  obtain ⟨n, rfl⟩ : ∃ k, n = k + 1 := ⟨n - 1, by omega⟩
  rw [h22.run n _ _ rfl rfl]
  obtain ⟨q, hq⟩ : ∃ q : Int, q = (bl.length : Int) := ⟨_, rfl⟩
  have lq : biD .len [.lst (bl.map tpD)] = some (.int q) := by rw [len_lst, List.length_map, hq]
  have rq : rngD [.int q] = some (rngL bl.length) := by rw [hq, rng_int (by omega) (by omega)]; rfl
  simp only [startS, bDue, List.map, List.replicate, List.cons_append, List.nil_append, List.length]
  by_cases c1 : cp < 0
  · simp! [c1]
    unfold due
    rw [if_pos (.inl c1)]
    rfl
  · by_cases c2 : 10000000000000000000000000000000 < cp
    · simp! [c1, c2, pow_31]
      unfold due
      rw [if_pos (.inr c2)]
      rfl
    · have nc : ¬(cp < 0 ∨ 10000000000000000000000000000000 < cp) := fun h => h.elim c1 c2
      by_cases c3 : 12 < q
      · simp! [c1, c2, pow_31, lq, c3]
        unfold due
        rw [← hq, if_neg nc, if_pos c3]
        rfl
      · have L := loop_first (CF := S.CF) (Φ := S.run n) (ts := [2]) (b := bDueL) (fun k => .int (0 + (k : Int))) (rfI cp bl) (fun S' => ∃ s2 s3, S' = [.val (.int cp), .val (.lst (bl.map tpD)), s2, s3]) (fun k s r => ∃ S', r = .rt (.tup [.int (0 + (k : Int)), .str s]) S') (fun k s r ⟨S', e⟩ => .inl ⟨_, _, e⟩) bl.length 0 [.val (.int cp), .val (.lst (bl.map tpD)), .un, .un] ⟨.un, .un, rfl⟩ fun j S' h0 h1 ⟨s2, s3, e⟩ => by
          subst e
          obtain ⟨t, ht⟩ : ∃ t, bl[j]? = some t := ⟨_, List.getElem?_eq_getElem (by omega)⟩
          have mt := List.mem_of_getElem? ht
          have e21 := reason_spec h20 h21 (n := n) (by omega) (cp := cp) (hb t mt) (er := bl.take j) (by rw [List.length_take]; omega)
          have ei := idx_map ht
          have ec : cutD (bl.map tpD) none (some (0 + (j : Int))) = (bl.take j).map tpD := by rw [cut_take _ (by rw [List.length_map]; omega), List.map_take]
          have er : rfI cp bl j = rsn cp t (bl.take j) := by unfold rfI; rw [ht]
          rw [sBody_some _ _ (bindT_1 2 _ _), er]
          cases hr : rsn cp t (bl.take j) with
          | none =>
            refine .inr ⟨rfl, ?_⟩
            rw [hr] at e21
            unfold bDueL
            simp! [ei, slv_lst, optI_n, optI_i, ec, e21, ofF_ret, optD]
            exact ⟨_, rfl, _, _, rfl⟩
          | some s =>
            refine .inl ⟨s, rfl, ?_⟩
            rw [hr] at e21
            unfold bDueL
            simp! [ei, slv_lst, optI_n, optI_i, ec, e21, ofF_ret, optD]
            exact ⟨_, rfl⟩
        rw [← rngL_range'] at L
        obtain ⟨j, s, e1, S', e2⟩ | ⟨e1, S', e2, s2, s3, rfl⟩ := L
        · simp! [c1, c2, pow_31, lq, c3, rq, e2]
          unfold due
          rw [← hq, if_neg nc, if_neg c3, e1]
          show FRes.ret (.tup [.int (0 + (j : Int)), .str s]) none = _
          rw [Int.zero_add]; rfl
        · simp! [c1, c2, pow_31, lq, c3, rq, e2]
          unfold due
          rw [← hq, if_neg nc, if_neg c3, e1]; rfl

set_option linter.all false
set_option maxRecDepth 100000
set_option maxHeartbeats 4000000
open PySem PySem.Spec PyProof.Rows L2

/-! ### what the program finds -/
abbrev U3 := Bool × T3
theorem bindT_sh {i j k : Nat} (t : U3) (S : List SD) : bindT [i, j, k] (shD t) S = some (((S.set i (.val (.str t.2.1))).set j (.val (.int t.2.2.1))).set k (.val (.int t.2.2.2))) := by
  obtain ⟨u, nm, a, b⟩ := t
  cases u <;> rfl
theorem elm_lk {xs : List D} {d : D} (h : Lk xs d) : elmD d = some xs := by rcases h with rfl | rfl <;> rfl
theorem gn_twc {S : List SD} {nm : Str} (h : S[3]? = some (.val (.str nm))) : ∀ l : List U3, gnB S (.eqq false (.fr 3 "name") (.ita 0)) (l.map shD) = some (l.map fun o => decide (o.2.1 = nm))
  | [] => rfl
  | o :: l => by
    have ih := gn_twc h l
    unfold gnB at ih ⊢
    rw [List.map_cons, List.mapM_cons, ih]
    have e : evP S (shD o) (.eqq false (.fr 3 "name") (.ita 0)) = some (.bl (decide (o.2.1 = nm))) := by
      have e0 : evP S (shD o) (.ita 0) = some (.str o.2.1) := by
        obtain ⟨u, nm, a, b⟩ := o
        cases u <;> rfl
      have e1 : evP S (shD o) (.fr 3 "name") = some (.str nm) := by
        show (match S[3]? with | some (.val e) => some e | _ => none) = _
        rw [h]
      show (match evP S (shD o) (.fr 3 "name"), evP S (shD o) (.ita 0) with
        | some (.str x), some (.str y) => some (D.bl (if false = true then x.cps.toList != y.cps.toList else x.cps.toList == y.cps.toList))
        | some (.int x), some (.int y) => some (D.bl (if false = true then x != y else x == y))
        | _, _ => none) = _
      rw [e0, e1]
      show some (D.bl (nm.cps.toList == o.2.1.cps.toList)) = _
      congr 2
      by_cases w : o.2.1 = nm
      · rw [w]; simp
      · have : ¬ nm.cps.toList = o.2.1.cps.toList := fun z => w (by
          obtain ⟨u, ⟨c⟩, a, b⟩ := o; obtain ⟨d⟩ := nm
          simp at z ⊢
          exact z.symm)
        rw [decide_eq_false w]
        simpa using this
    rw [e]
    rfl
theorem any_twc (nm : Str) (er : List U3) : (er.map fun o => decide (o.2.1 = nm)).any id = twc nm (er.map (·.2)) := by
  unfold twc
  rw [List.any_map, List.any_map]; rfl
theorem if_ft {α : Type} (a b : α) : (if false = true then a else b) = b := rfl
def bLone : Bs := (.cons (.unp [3, 4, 5] (.var 1)) (.cons (.iff (.not (.call 1 (.cons (.var 3) .nil))) (.cons (.ret (.str "name")) .nil) .nil) (.cons (.iff (.cmp .lt (.var 4) (.int 0)) (.cons (.ret (.str "start")) .nil) .nil) (.cons (.iff (.not (.chain .le .le (.int 1) (.var 5) (.glob "MOST_SIZE" (.int 1000000000000000000000000000000)))) (.cons (.ret (.str "size")) .nil) .nil) (.cons (.iff (.gen false (.var 2) (.eqq false (.fr 3 "name") (.ita 0))) (.cons (.ret (.str "twice")) .nil) .nil) (.cons (.iff (.cmp .gt (.bin .add (.var 4) (.var 5)) (.var 0)) (.cons (.ret (.str "beyond")) .nil) .nil) (.cons (.ret .non) .nil)))))))
def bOvL : Bs := (.cons (.iff (.conj (.cmp .lt (.var 3) (.bin .add (.var 5) (.var 6))) (.cmp .lt (.var 5) (.bin .add (.var 3) (.var 4)))) (.cons (.ret (.str "overlap")) .nil) .nil) .nil)
def bOvlp : Bs := (.cons (.unp [2, 3, 4] (.var 0)) (.cons (.for [2, 5, 6] (.var 1) bOvL) (.cons (.ret .non) .nil)))
theorem lone_spec {S : Src} (h1 : Has S 1 false 1 1 bIsName) (h2 : Has S 2 false 6 3 bLone) {n : Nat} (hn : 2 ≤ n) {cp : Int} {t : U3} (ht : t.2.1.length ≤ 100) {er : List U3} {dE : D} (hE : Lk (er.map shD) dE) :
    S.run n 2 none [.int cp, shD t, dE] = .ret (optD (lone cp t.2 (er.map (·.2)))) none := by
  obtain ⟨n, rfl⟩ : ∃ k, n = k + 1 := ⟨n - 1, by omega⟩
  rw [h2.run n _ _ rfl rfl]
  have e1 := isName_spec h1 (n := n) (by omega) ht
  have el := elm_lk hE
  have bt := fun i j k S => bindT_sh (i := i) (j := j) (k := k) t S
  obtain ⟨u, nm, a, b⟩ := t
  simp only [] at bt ht e1
  have g := fun s0 s1 s2 s4 s5 => gn_twc (S := [s0, s1, s2, .val (.str nm), s4, s5]) (nm := nm) rfl er
  simp only [startS, bLone, List.map, List.replicate, List.cons_append, List.nil_append, List.length]
  by_cases c1 : isNm nm = true
  · by_cases c2 : a < 0
    · simp! [bt, e1, ofF_ret, c1, c2, Bool.not_true]
      simp [lone, c1, c2, optD]
    · by_cases c3 : 1 ≤ b
      · by_cases c4 : b ≤ 1000000000000000000000000000000
        · have c3' : ¬ b < 1 := by omega
          have c4' : ¬ 1000000000000000000000000000000 < b := by omega
          by_cases c5 : twc nm (er.map (·.2)) = true
          · simp! [bt, e1, ofF_ret, c1, c2, c3, c4, Bool.not_true, el, g, any_twc, if_ft, c5]
            simp [lone, c1, c2, c3', c4', c5, optD]
          · by_cases c6 : cp < a + b
            · simp! [bt, e1, ofF_ret, c1, c2, c3, c4, Bool.not_true, el, g, any_twc, if_ft, c5, c6]
              simp [lone, c1, c2, c3', c4', c5, c6, optD]
            · simp! [bt, e1, ofF_ret, c1, c2, c3, c4, Bool.not_true, el, g, any_twc, if_ft, c5, c6]
              simp [lone, c1, c2, c3', c4', c5, c6, optD]
        · have c4' : 1000000000000000000000000000000 < b := by omega
          simp! [bt, e1, ofF_ret, c1, c2, c3, c4, Bool.not_true, Bool.not_false]
          simp [lone, c1, c2, c4', optD]
      · have c3' : b < 1 := by omega
        simp! [bt, e1, ofF_ret, c1, c2, c3, Bool.not_true, Bool.not_false]
        simp [lone, c1, c2, c3', optD]
  · simp! [bt, e1, ofF_ret, c1, Bool.not_false]
    simp [lone, c1, optD]
theorem ovlp_loop {CF : Nat → List Str} {Φ : Nat → Option OC → List D → FRes} (s0 s1 : SD) (a b : Int) (er : List U3) (s2 s5 s6 : SD) :
    (er.any (fun o => ovl a b o.2) = true ∧ ∃ S', sLoop CF Φ [2, 5, 6] bOvL (er.map shD) [s0, s1, s2, .val (.int a), .val (.int b), s5, s6] = .rt (.str "overlap") S') ∨ (er.any (fun o => ovl a b o.2) = false ∧ ∃ S', sLoop CF Φ [2, 5, 6] bOvL (er.map shD) [s0, s1, s2, .val (.int a), .val (.int b), s5, s6] = .nx S' ∧ ∃ s2 s5 s6, S' = [s0, s1, s2, .val (.int a), .val (.int b), s5, s6]) :=
  loop_any shD (fun o => ovl a b o.2) (.str "overlap") (fun S' => ∃ s2 s5 s6, S' = [s0, s1, s2, .val (.int a), .val (.int b), s5, s6]) er _ ⟨s2, s5, s6, rfl⟩ fun t S' ht ⟨s2, s5, s6, e⟩ => by
    subst e
    rw [sBody_some _ _ (bindT_sh t _)]
    obtain ⟨u, nm, c, d⟩ := t
    unfold ovl
    by_cases h1 : a < c + d
    · by_cases h2 : c < a + b
      · refine .inl ⟨by simp [h1, h2], ?_⟩
        unfold bOvL
        simp! [h1, h2]
        exact ⟨_, rfl⟩
      · refine .inr ⟨by simp [h1, h2], ?_⟩
        unfold bOvL
        simp! [h1, h2]
        exact ⟨_, rfl, _, _, _, rfl⟩
    · refine .inr ⟨by simp [h1], ?_⟩
      unfold bOvL
      simp! [h1]
      exact ⟨_, rfl, _, _, _, rfl⟩
theorem ovlp_spec {S : Src} (h3 : Has S 3 false 7 2 bOvlp) {n : Nat} (hn : 1 ≤ n) {t : U3} {er : List U3} {dE : D} (hE : Lk (er.map shD) dE) :
    S.run n 3 none [shD t, dE] = .ret (optD (ovf t.2 (er.map (·.2)))) none := by
  obtain ⟨n, rfl⟩ : ∃ k, n = k + 1 := ⟨n - 1, by omega⟩
  rw [h3.run n _ _ rfl rfl]
  have el := elm_lk hE
  have bt := fun i j k S => bindT_sh (i := i) (j := j) (k := k) t S
  have L := ovlp_loop (CF := S.CF) (Φ := S.run n) (.val (shD t)) (.val dE) t.2.2.1 t.2.2.2 er (.val (.str t.2.1)) .un .un
  have ea : (er.map (·.2)).any (ovl t.2.2.1 t.2.2.2) = er.any (fun o => ovl t.2.2.1 t.2.2.2 o.2) := by rw [List.any_map]; rfl
  simp only [startS, bOvlp, List.map, List.replicate, List.cons_append, List.nil_append, List.length]
  unfold ovf
  rw [ea]
  obtain ⟨o, S', e⟩ | ⟨o, S', e, _, _, _, rfl⟩ := L
  · rw [o]
    simp! [bt, el, e, optD]
  · rw [o]
    simp! [bt, el, e, optD]
    rfl

set_option linter.all false
set_option maxRecDepth 100000
set_option maxHeartbeats 4000000
open PySem PySem.Spec PyProof.Rows L2

/-! ### blocks checked -/
def excV : Option Nat × Str → List D
  | (none, s) => [.str s, .non]
  | (some k, s) => [.str s, .int (k : Int)]
def chkR : Option (Option Nat × Str) → FRes
  | none => .ret .non none
  | some p => .exc 500 ["reason", "number"] (excV p) none
def bChkL : Bs := (.cons (.asg 5 (.slV (.var 1) .hole (.var 3))) (.cons (.asg 6 (.call 2 (.cons (.var 0) (.cons (.var 4) (.cons (.var 5) .nil))))) (.cons (.iff (.isN false (.var 6)) (.cons (.asg 6 (.callV 2 (.cons (.var 4) (.cons (.var 5) .nil)))) .nil) .nil) (.cons (.iff (.isN true (.var 6)) (.cons (.rse 500 ["number", "reason"] (.cons (.var 3) (.cons (.var 6) .nil))) .nil) .nil) .nil))))
def bChk : Bs := (.cons (.iff (.not (.chain .le .le (.int 0) (.var 0) (.glob "MOST_CAPACITY" (.int 10000000000000000000000000000000)))) (.cons (.rse 500 ["number", "reason"] (.cons .non (.cons (.str "capacity") .nil))) .nil) .nil) (.cons (.iff (.cmp .gt (.bi .len (.cons (.var 1) .nil)) (.glob "MOST_BLOCKS" (.int 12))) (.cons (.rse 500 ["number", "reason"] (.cons .non (.cons (.str "many") .nil))) .nil) .nil) (.cons (.for [3, 4] (.enm (.var 1)) bChkL) .nil)))
theorem len_lk {xs : List D} {d : D} (h : Lk xs d) : biD .len [d] = some (.int xs.length) := by rcases h with rfl | rfl <;> rfl
theorem cut_take' {α : Type} (xs : List α) {k : Nat} (h : k ≤ xs.length) : cutD xs none (some (k : Int)) = xs.take k := by
  have := cut_take xs h
  rwa [Int.zero_add] at this
theorem slv_lk {xs : List D} {d : D} (h : Lk xs d) {k : Nat} (hk : k < xs.length) : ∃ d', slvD d none (some (k : Int)) = some d' ∧ Lk (xs.take k) d' := by
  rcases h with rfl | rfl
  · exact ⟨_, by rw [slv_lst, cut_take' _ (by omega)], .inl rfl⟩
  · exact ⟨_, by show some (D.tup (cutD xs none (some (k : Int)))) = _; rw [cut_take' _ (by omega)], .inr rfl⟩
def enI (xs : List D) (k : Nat) : D := .tup [.int (k : Int), xs[k]?.getD .non]
theorem enm_range (xs : List D) : (xs.zipIdx.map fun p => D.tup [.int (p.2 : Nat), p.1]) = (List.range' 0 xs.length).map (enI xs) := by
  apply List.ext_getElem?
  intro i
  by_cases h : i < xs.length
  · simp [h, enI, List.getElem?_map, List.getElem?_zipIdx, List.getElem?_range']
  · simp [h, List.getElem?_map, List.getElem?_zipIdx, List.getElem?_range', List.getElem?_eq_none (Nat.le_of_not_lt h)]
theorem enm_lk {xs : List D} {d : D} (h : Lk xs d) (S : List SD) : kEnm (.ok d S) = .ok ((List.range' 0 xs.length).map (enI xs)) S := by
  rcases h with rfl | rfl
  · rw [kEnm_ok]; simp only []; rw [enm_range]
  · rw [kEnm_ok]; simp only []; rw [enm_range]
theorem bindT_2 {i j : Nat} {a b : D} {S : List SD} : bindT [i, j] (.tup [a, b]) S = some ((S.set i (.val a)).set j (.val b)) := rfl
theorem isN_non : (match (D.non : D) with | .non => !true | _ => true) = false := rfl
theorem chk_spec {S : Src} (h1 : Has S 1 false 1 1 bIsName) (h2 : Has S 2 false 6 3 bLone) (h3 : Has S 3 false 7 2 bOvlp) (h4 : Has S 4 false 7 3 bChk) {n : Nat} (hn : 3 ≤ n) {cp : Int} {bl : List U3} (hb : ∀ t ∈ bl, t.2.1.length ≤ 100) (hl : bl.length ≤ 1000) {dB : D} (hB : Lk (bl.map shD) dB) :
    S.run n 4 none [.int cp, dB, .fnv 1003] = chkR (due cp (bl.map (·.2))) := by
  obtain ⟨n, rfl⟩ : ∃ k, n = k + 1 := ⟨n - 1, by omega⟩
  rw [h4.run n _ _ rfl rfl]
  obtain ⟨q, hq⟩ : ∃ q : Int, q = (bl.length : Int) := ⟨_, rfl⟩
  have lq : biD .len [dB] = some (.int q) := by rw [len_lk hB, List.length_map, hq]
  have en := enm_lk hB
  have lm : ((bl.map (·.2)).length : Int) = q := by rw [List.length_map, hq]
  simp only [startS, bChk, List.map, List.replicate, List.cons_append, List.nil_append, List.length]
  by_cases c1 : 0 ≤ cp
  · by_cases c2 : cp ≤ 10000000000000000000000000000000
    · have nc : ¬(cp < 0 ∨ 10000000000000000000000000000000 < cp) := by omega
      by_cases c3 : 12 < q
      · simp! [c1, c2, lq, c3, Bool.not_true, List.reverse_cons, List.reverse_nil, seq_exc]
        unfold due
        rw [lm, if_neg nc, if_pos c3]
        rfl
      · have L := loop_first (CF := S.CF) (Φ := S.run n) (ts := [3, 4]) (b := bChkL) (enI (bl.map shD)) (rfI cp (bl.map (·.2))) (fun S' => ∃ s3 s4 s5 s6, S' = [.val (.int cp), .val dB, .val (.fnv 1003), s3, s4, s5, s6]) (fun k s r => ∃ S', r = .exc 500 ["reason", "number"] [.str s, .int (k : Int)] S') (fun k s r ⟨S', e⟩ => .inr ⟨_, _, _, _, e⟩) (bl.map shD).length 0 [.val (.int cp), .val dB, .val (.fnv 1003), .un, .un, .un, .un] ⟨.un, .un, .un, .un, rfl⟩ fun j S' h0 hj ⟨s3, s4, s5, s6, e⟩ => by
          subst e
          have hj' : j < bl.length := by rw [List.length_map] at hj; omega
          obtain ⟨t, ht⟩ : ∃ t, bl[j]? = some t := ⟨_, List.getElem?_eq_getElem hj'⟩
          have mt := List.mem_of_getElem? ht
          obtain ⟨dE, sE, kE⟩ := slv_lk hB (k := j) (by rw [List.length_map]; omega)
          rw [← List.map_take] at kE
          have eI : enI (bl.map shD) j = .tup [.int (j : Int), shD t] := by unfold enI; rw [List.getElem?_map, ht]; rfl
          have e2 := lone_spec h1 h2 (n := n) (by omega) (cp := cp) (t := t) (hb t mt) kE
          have e3 := ovlp_spec h3 (n := n) (by omega) (t := t) kE
          have er : rfI cp (bl.map (·.2)) j = rsn cp t.2 ((bl.take j).map (·.2)) := by unfold rfI; rw [List.getElem?_map, ht, List.map_take]; rfl
          rw [eI, sBody_some _ _ bindT_2, er]
          have k1003 : 1000 ≤ 1003 := by decide
          unfold rsn
          cases hr : lone cp t.2 ((bl.take j).map (·.2)) with
          | some s =>
            refine .inl ⟨s, rfl, ?_⟩
            rw [hr] at e2
            unfold bChkL
            simp! [sE, optI_n, optI_i, e2, ofF_ret, optD, Bool.not_false, List.reverse_cons, List.reverse_nil]
            exact ⟨_, rfl⟩
          | none =>
            rw [hr] at e2
            cases ho : ovf t.2 ((bl.take j).map (·.2)) with
            | some s =>
              refine .inl ⟨s, rfl, ?_⟩
              rw [ho] at e3
              unfold bChkL
              simp! [sE, optI_n, optI_i, e2, ofF_ret, optD, Bool.not_false, if_pos k1003, Nat.add_sub_cancel, Nat.reduceSub, e3, List.reverse_cons, List.reverse_nil]
              exact ⟨_, rfl⟩
            | none =>
              refine .inr ⟨rfl, ?_⟩
              rw [ho] at e3
              unfold bChkL
              simp! [sE, optI_n, optI_i, e2, ofF_ret, optD, Bool.not_false, if_pos k1003, Nat.reduceSub, e3]
              exact ⟨_, rfl, _, _, _, _, rfl⟩
        rw [List.length_map] at L en
        obtain ⟨j, s, e1, S', e2⟩ | ⟨e1, S', e2, s3, s4, s5, s6, rfl⟩ := L
        · simp! [c1, c2, lq, c3, Bool.not_true, en, e2, seq_exc]
          unfold due
          rw [lm, if_neg nc, if_neg c3, List.length_map, e1]
          rfl
        · simp! [c1, c2, lq, c3, Bool.not_true, en, e2]
          unfold due
          rw [lm, if_neg nc, if_neg c3, List.length_map, e1]
          rfl
    · simp! [c1, c2, Bool.not_false, List.reverse_cons, List.reverse_nil, seq_exc]
      unfold due
      rw [if_pos (.inr (by omega))]
      rfl
  · simp! [c1, Bool.not_false, List.reverse_cons, List.reverse_nil, seq_exc]
    unfold due
    rw [if_pos (.inl (by omega))]
    rfl

set_option linter.all false
set_option maxRecDepth 100000
set_option maxHeartbeats 4000000
open PySem PySem.Spec PyProof.Rows L2

/-! ### a layout made -/
theorem firstI_none {f : Nat → Option Str} : ∀ (m k : Nat), firstI f k m = none → ∀ j, k ≤ j → j < k + m → f j = none
  | 0, k, _, j, h1, h2 => absurd h2 (by omega)
  | m + 1, k, h, j, h1, h2 => by
    unfold firstI at h
    cases hf : f k with
    | some s => rw [hf] at h; cases h
    | none =>
      rw [hf] at h
      by_cases e : j = k
      · rw [e]; exact hf
      · exact firstI_none m (k + 1) h j (by omega) (by omega)
theorem due_none {cp : Int} {bl : List T3} (h : due cp bl = none) : (bl.map fun t => t.2.1).Nodup ∧ bl.length ≤ 12 := by
  unfold due at h
  split at h
  · cases h
  split at h
  · cases h
  have h2 := Option.map_eq_none_iff.1 h
  refine ⟨?_, by omega⟩
  have F := firstI_none _ _ h2
  have key : ∀ j (hj : j < bl.length), rsn cp bl[j] (bl.take j) = none := fun j hj => by
    have := F j (by omega) (by omega)
    unfold rfI at this
    rwa [List.getElem?_eq_getElem hj] at this
  have siz : ∀ j (hj : j < bl.length), 1 ≤ bl[j].2.2 ∧ ovf bl[j] (bl.take j) = none := fun j hj => by
    have := key j hj
    unfold rsn at this
    cases e : lone cp bl[j] (bl.take j) with
    | some s => rw [e] at this; cases this
    | none =>
      rw [e] at this
      refine ⟨?_, this⟩
      unfold lone at e
      split at e
      · cases e
      split at e
      · cases e
      split at e
      · cases e
      omega
  refine List.pairwise_iff_getElem.2 fun i j hi hj hij => ?_
  rw [List.length_map] at hi hj
  rw [List.getElem_map, List.getElem_map]
  intro he
  have a := (siz i hi).1
  obtain ⟨b, c⟩ := siz j hj
  unfold ovf at c
  split at c
  · cases c
  · rename_i n
    refine n (List.any_eq_true.2 ⟨bl[i], ?_, ?_⟩)
    · rw [List.mem_take_iff_getElem]
      exact ⟨i, by omega, rfl⟩
    · unfold ovl
      rw [decide_eq_true (show bl[j].2.1 < bl[i].2.1 + bl[i].2.2 by omega), decide_eq_true (show bl[i].2.1 < bl[j].2.1 + bl[j].2.2 by omega)]
      rfl
theorem insD_mem {α : Type} {p q : Int × α} : ∀ {l : List (Int × α)}, q ∈ insD p l → q = p ∨ q ∈ l
  | [], h => .inl (List.mem_singleton.1 h)
  | r :: l, h => by
    unfold insD at h
    split at h
    · exact (List.mem_cons.1 h).elim .inl .inr
    · rcases List.mem_cons.1 h with e | h
      · exact .inr (e ▸ List.mem_cons_self)
      · exact (insD_mem h).elim .inl fun z => .inr (List.mem_cons_of_mem _ z)
theorem srtD_mem {α : Type} {q : Int × α} : ∀ {l : List (Int × α)}, q ∈ srtD l → q ∈ l
  | [], h => h
  | r :: l, h => by
    unfold srtD at h
    exact (insD_mem h).elim (fun e => e ▸ List.mem_cons_self) fun z => List.mem_cons_of_mem _ (srtD_mem z)
theorem insD_len {α : Type} (p : Int × α) : ∀ (l : List (Int × α)), (insD p l).length = l.length + 1
  | [] => rfl
  | r :: l => by
    unfold insD
    split
    · rfl
    · rw [List.length_cons, insD_len p l, List.length_cons]
theorem srtD_len {α : Type} : ∀ (l : List (Int × α)), (srtD l).length = l.length
  | [] => rfl
  | r :: l => by unfold srtD; rw [insD_len, srtD_len l, List.length_cons]
theorem ex_map {α β : Type} {f : α → β} : ∀ {l : List β}, (∀ d ∈ l, ∃ t, d = f t) → ∃ m : List α, l = m.map f
  | [], _ => ⟨[], rfl⟩
  | d :: l, h => by
    obtain ⟨t, rfl⟩ := h d List.mem_cons_self
    obtain ⟨m, rfl⟩ := ex_map (l := l) fun d hd => h d (List.mem_cons_of_mem _ hd)
    exact ⟨t :: m, rfl⟩
theorem keys_tp (S : List SD) : ∀ l : List T3, keysD S (.ita 1) (l.map tpD) = some (l.map fun t => t.2.1)
  | [] => rfl
  | t :: l => by
    have ih := keys_tp S l
    unfold keysD at ih ⊢
    rw [List.map_cons, List.mapM_cons, ih]
    rfl
theorem srt_tp {l : List T3} (hn : (l.map fun t => t.2.1).Nodup) (hl : l.length ≤ 12) : ∃ m : List T3, (∀ S, kSrt (.ita 1) (.ok (.lst (l.map tpD)) S) = .ok (.lst (m.map tpD)) S) ∧ m.length = l.length := by
  obtain ⟨m, hm⟩ := ex_map (f := tpD) (l := (srtD ((l.map fun t => t.2.1).zip (l.map tpD))).map (·.2)) fun d hd => by
    obtain ⟨p, hp, rfl⟩ := List.mem_map.1 hd
    have := List.of_mem_zip (a := p.1) (b := p.2) (srtD_mem hp)
    obtain ⟨t, -, e⟩ := List.mem_map.1 this.2
    exact ⟨t, e.symm⟩
  refine ⟨m, ?_, ?_⟩
  · intro S
    rw [kSrt_ok]
    simp only [keys_tp]
    rw [if_pos ⟨hn, by rw [List.length_map]; exact le_cap (by omega)⟩, hm]
  · have := congrArg List.length hm
    rw [List.length_map, srtD_len, List.length_zip, List.length_map, List.length_map, List.length_map] at this
    omega
/-! gaps -/
def gpD (p : Int × Int) : D := .tup [.int p.1, .int p.2]
def bGapL : Bs := (.cons (.exp (.app 2 (.tup (.cons (.var 3) (.cons (.bin .sub (.var 5) (.var 3)) .nil))))) (.cons (.asg 3 (.bin .add (.var 5) (.var 6))) .nil))
def bGaps : Bs := (.cons (.asgN 2 (.lst .nil)) (.cons (.asg 3 (.int 0)) (.cons (.for [4, 5, 6] (.var 1) bGapL) (.cons (.exp (.app 2 (.tup (.cons (.var 3) (.cons (.bin .sub (.var 0) (.var 3)) .nil))))) (.cons (.ret (.bi .tup (.cons (.var 2) .nil))) .nil)))))
theorem gaps_spec {S : Src} (h5 : Has S 5 false 7 2 bGaps) {n : Nat} (hn : 1 ≤ n) {cp : Int} {bl : List T3} (hl : bl.length ≤ 1000) :
    ∃ gs : List (Int × Int), S.run n 5 none [.int cp, .tup (bl.map tpD)] = .ret (.tup (gs.map gpD)) none ∧ gs.length = bl.length + 1 := by
  obtain ⟨n, rfl⟩ : ∃ k, n = k + 1 := ⟨n - 1, by omega⟩
  rw [h5.run n _ _ rfl rfl]
  obtain ⟨S', e, gs, en, s4, s5, s6, rfl, hg⟩ := loop_nx (CF := S.CF) (Φ := S.run n) (ts := [4, 5, 6]) (b := bGapL) (fun i S' => ∃ (gs : List (Int × Int)) (en : Int) (s4 s5 s6 : SD), S' = [.val (.int cp), .val (.tup (bl.map tpD)), .own true (.lst (gs.map gpD)), .val (.int en), s4, s5, s6] ∧ gs.length = i) (bl.map tpD) 0 [.val (.int cp), .val (.tup (bl.map tpD)), .own true (.lst []), .val (.int 0), .un, .un, .un] ⟨[], 0, .un, .un, .un, rfl, rfl⟩ fun j x S' hx ⟨gs, en, s4, s5, s6, eS, hg⟩ => by
    subst eS
    obtain ⟨t, mt, rfl⟩ := List.mem_map.1 (List.mem_of_getElem? hx)
    have hj : j < bl.length := by
      have := (List.getElem?_eq_some_iff.1 hx).1
      rwa [List.length_map] at this
    have cf : (gs.map gpD).length < cap := lt_cap (by rw [List.length_map]; omega)
    rw [sBody_some _ _ (show bindT [4, 5, 6] (tpD t) _ = _ from bindT_3), bGapL]
    simp! [if_pos cf]
    refine ⟨_, .inl rfl, gs ++ [(en, t.2.1 - en)], _, _, _, _, by rw [List.map_append]; rfl, by simp; omega⟩
  have cf : (gs.map gpD).length < cap := lt_cap (by rw [List.length_map, hg, List.length_map]; omega)
  simp only [startS, bGaps, List.map, List.replicate, List.cons_append, List.nil_append, List.length]
  simp! [e, if_pos cf, tup_lst]
  exact ⟨gs ++ [(en, cp - en)], by rw [List.map_append]; rfl, by rw [List.length_append, hg, List.length_map]; simp⟩

set_option linter.all false
set_option maxRecDepth 100000
set_option maxHeartbeats 4000000
open PySem PySem.Spec PyProof.Rows L2

/-! ### the object -/
def lyF : List Str := ["capacity", "blocks", "order", "free", "gaps", "longest_gap"]
section
variable {CF : Nat → List Str} {Φ : Nat → Option OC → List D → FRes}
theorem sfl_at {CF : Nat → List Str} {f : Str} {fn fn' : List Str} {vs vs' : List D} {d : D} {S : List SD} (h : f ∈ CF 0) (hl : fn.length < 1000) (hp : putD f d fn vs = some (fn', vs')) :
    sSfl CF 0 f (.ok d (.own false (.ins 0 fn vs) :: S)) = .nx (.own false (.ins 0 fn' vs') :: S) := by
  rw [sSfl_ok]
  show (if (0 : Nat) < 500 ∧ f ∈ CF 0 ∧ fn.length < 1000 then (match putD f d fn vs with | some p => RS.nx ((SD.own false (.ins 0 fn vs) :: S).set 0 (.own false (.ins 0 p.1 p.2))) | none => .stuck) else .stuck) = _
  rw [if_pos ⟨by decide, h, hl⟩, hp]
  rfl
theorem fld_at {f : Str} {fn : List Str} {vs : List D} {d : D} {S : List SD} (h : f ∈ CF 0) (hp : (fn.zip vs).lookup f = some d) :
    evE CF Φ (.fldO 0 f) (.own false (.ins 0 fn vs) :: S) = .ok d (.own false (.ins 0 fn vs) :: S) := by
  rw [e_fldO]
  show (if (0 : Nat) < 500 ∧ f ∈ CF 0 then ofO ((fn.zip vs).lookup f) _ else .stuck) = _
  rw [if_pos ⟨by decide, h⟩, hp]
  rfl
/-- a comprehension of one variable, of things that are known -/
theorem cm_lp {T : Type} {g h : T → D} {v : Nat} {el : E} {S : List SD} (one : ∀ t, cBody CF Φ [v] [v] .hole el (g t) S = .ok (some (h t)) S) : ∀ l : List T, loopC (cBody CF Φ [v] [v] .hole el) (l.map g) S = .ok (l.map h) S
  | [] => rfl
  | t :: l => by
    rw [List.map_cons, loopC, one]
    simp only [Res.bind, cm_lp one l]
    rfl
theorem cm_lp2 {T : Type} {g h : T → D} {u v : Nat} {el : E} {S : List SD} (one : ∀ t, cBody CF Φ [u, v] [u, v] .hole el (g t) S = .ok (some (h t)) S) : ∀ l : List T, loopC (cBody CF Φ [u, v] [u, v] .hole el) (l.map g) S = .ok (l.map h) S
  | [] => rfl
  | t :: l => by
    rw [List.map_cons, loopC, one]
    simp only [Res.bind, cm_lp2 one l]
    rfl
end
theorem ints_map {T : Type} (f : T → Int) : ∀ l : List T, intsD (l.map fun t => .int (f t)) = some (l.map f)
  | [] => rfl
  | t :: l => by
    have ih := ints_map f l
    unfold intsD at ih ⊢
    rw [List.map_cons, List.mapM_cons, ih]
    rfl
theorem sum_map {T : Type} (f : T → Int) (l : List T) : biD .sum [.lst (l.map fun t => .int (f t))] = some (.int (l.map f).sum) := by
  show (intsD (l.map fun t => D.int (f t))).map _ = _
  rw [ints_map]; rfl
theorem max_map {T : Type} (f : T → Int) {l : List T} (h : l ≠ []) : ∃ m, biD .maxl [.lst (l.map fun t => .int (f t))] = some (.int m) := by
  show ∃ m, (intsD (l.map fun t => D.int (f t))).bind _ = _
  rw [ints_map]
  cases e : (l.map f).max? with
  | none =>
    rw [List.max?_eq_none_iff, List.map_eq_nil_iff] at e
    exact absurd e h
  | some m => exact ⟨m, by show (l.map f).max?.map D.int = _; rw [e]; rfl⟩
def bInit : Bs := (.cons (.exp (.call 4 (.cons (.var 1) (.cons (.var 2) (.cons (.gfn 3) .nil))))) (.cons (.asgN 3 (.cmpr [("block", 4)] [4] (.var 2) .hole (.bi .tup (.cons (.var 4) .nil)))) (.cons (.sfl 0 "capacity" (.var 1)) (.cons (.sfl 0 "blocks" (.bi .tup (.cons (.srt (.ita 1) (.var 3)) .nil))) (.cons (.sfl 0 "order" (.bi .tup (.cons (.cmpr [("block", 4)] [4] (.fldO 0 "blocks") .hole (.idx (.var 4) (.int 0))) .nil))) (.cons (.sfl 0 "free" (.bin .sub (.var 1) (.bi .sum (.cons (.cmpr [("block", 4)] [4] (.fldO 0 "blocks") .hole (.idx (.var 4) (.int 2))) .nil)))) (.cons (.sfl 0 "gaps" (.call 5 (.cons (.var 1) (.cons (.fldO 0 "blocks") .nil)))) (.cons (.sfl 0 "longest_gap" (.bi .maxl (.cons (.cmpr [("_", 5), ("cells", 6)] [5, 6] (.fldO 0 "gaps") .hole (.var 6)) .nil))) .nil))))))))
theorem tup_sh (t : U3) : biD .tup [shD t] = some (tpD t.2) := by
  obtain ⟨u, nm, a, b⟩ := t
  cases u <;> rfl
theorem init_ok {S : Src} (hc : S.CF 0 = lyF) (h1 : Has S 1 false 1 1 bIsName) (h2 : Has S 2 false 6 3 bLone) (h3 : Has S 3 false 7 2 bOvlp) (h4 : Has S 4 false 7 3 bChk) (h5 : Has S 5 false 7 2 bGaps) (h6 : Has S 6 true 7 3 bInit) {n : Nat} (hn : 4 ≤ n) {cp : Int} {bl : List U3} (hb : ∀ t ∈ bl, t.2.1.length ≤ 100) (hl : bl.length ≤ 1000) {dB : D} (hB : Lk (bl.map shD) dB) :
    (∃ p, due cp (bl.map (·.2)) = some p ∧ S.run n 6 (some (.ins 0 [] [])) [.int cp, dB] = .exc 500 ["reason", "number"] (excV p) (some (.ins 0 [] []))) ∨
    (due cp (bl.map (·.2)) = none ∧ ∃ vs, S.run n 6 (some (.ins 0 [] [])) [.int cp, dB] = .ret .non (some (.ins 0 lyF vs))) := by
  obtain ⟨n, rfl⟩ : ∃ k, n = k + 1 := ⟨n - 1, by omega⟩
  rw [h6.run n _ _ rfl rfl]
  have e4 := chk_spec h1 h2 h3 h4 (n := n) (by omega) (cp := cp) hb hl hB
  have r1003 : 1000 + 3 = 1003 := rfl
  simp only [startS, bInit, List.map, List.replicate, List.cons_append, List.nil_append, List.length]
  cases hd : due cp (bl.map (·.2)) with
  | some p =>
    rw [hd] at e4
    refine .inl ⟨p, rfl, ?_⟩
    unfold chkR at e4
    dsimp! [r1003, e4, ofF_exc]
  | none =>
    rw [hd] at e4
    unfold chkR at e4
    refine .inr ⟨rfl, ?_⟩
    obtain ⟨nd, l12⟩ := due_none hd
    have el := elm_lk hB
    have v : isVal (some SD.un) = true := rfl
    -- the triples
    have lp1 := cm_lp (CF := S.CF) (Φ := S.run n) (g := shD) (h := fun t => tpD t.2) (v := 4) (el := .bi .tup (.cons (.var 4) .nil)) (S := [.own false (.ins 0 [] []), .val (.int cp), .val dB, .un, .un, .un, .un]) (fun t => by
      have := tup_sh t
      rw [cBody_some _ _ _ _ (bindT_1 4 _ _)]
      simp! [this, cBody2_t, cBody3_ok, wipeS]) bl
    have mm : bl.map (fun t => tpD t.2) = (bl.map (·.2)).map tpD := by rw [List.map_map]; rfl
    rw [mm] at lp1
    generalize bl.map (·.2) = tl at lp1 nd l12
    have lc1 : (tl.map tpD).length < cap := lt_cap (by rw [List.length_map]; omega)
    obtain ⟨m, kS, lm⟩ := srt_tp nd l12
    have lp2 := fun s0 s3 => cm_lp (CF := S.CF) (Φ := S.run n) (g := tpD) (h := fun t => .str t.1) (v := 4) (el := .idx (.var 4) (.int 0)) (S := [s0, .val (.int cp), .val dB, s3, .un, .un, .un]) (fun t => by
      unfold tpD
      rw [cBody_some _ _ _ _ (bindT_1 4 _ _)]
      simp! [idx_t0, cBody2_t, cBody3_ok, wipeS]) m
    have lp3 := fun s0 s3 => cm_lp (CF := S.CF) (Φ := S.run n) (g := tpD) (h := fun t => .int t.2.2) (v := 4) (el := .idx (.var 4) (.int 2)) (S := [s0, .val (.int cp), .val dB, s3, .un, .un, .un]) (fun t => by
      unfold tpD
      rw [cBody_some _ _ _ _ (bindT_1 4 _ _)]
      simp! [idx_tt2, cBody2_t, cBody3_ok, wipeS]) m
    have lc2 : (m.map fun t => D.str t.1).length < cap := lt_cap (by rw [List.length_map]; omega)
    have lc3 : (m.map fun t => D.int t.2.2).length < cap := lt_cap (by rw [List.length_map]; omega)
    obtain ⟨gs, e5, lg⟩ := gaps_spec h5 (n := n) (by omega) (cp := cp) (bl := m) (by omega)
    have lp4 := fun s0 s3 => cm_lp2 (CF := S.CF) (Φ := S.run n) (g := gpD) (h := fun t => .int t.2) (u := 5) (v := 6) (el := .var 6) (S := [s0, .val (.int cp), .val dB, s3, .un, .un, .un]) (fun t => by
      unfold gpD
      rw [cBody_some _ _ _ _ bindT_2]
      simp! [cBody2_t, cBody3_ok, wipeS]) gs
    have lc4 : (gs.map fun t => D.int t.2).length < cap := lt_cap (by rw [List.length_map]; omega)
    obtain ⟨mx, e6⟩ := max_map (fun t : Int × Int => t.2) (l := gs) (fun z => by rw [z] at lg; simp at lg)
    have sm := sum_map (fun t : T3 => t.2.2) m
    have f1 := fun d S' => sfl_at (CF := S.CF) (f := "capacity") (fn := []) (vs := []) (d := d) (S := S') (by rw [hc]; decide) (by decide) rfl
    have f2 := fun d x S' => sfl_at (CF := S.CF) (f := "blocks") (fn := ["capacity"]) (vs := [x]) (d := d) (S := S') (by rw [hc]; decide) (by decide) rfl
    have f3 := fun d x y S' => sfl_at (CF := S.CF) (f := "order") (fn := ["capacity", "blocks"]) (vs := [x, y]) (d := d) (S := S') (by rw [hc]; decide) (by decide) rfl
    have f4 := fun d x y z S' => sfl_at (CF := S.CF) (f := "free") (fn := ["capacity", "blocks", "order"]) (vs := [x, y, z]) (d := d) (S := S') (by rw [hc]; decide) (by decide) rfl
    have f5 := fun d x y z u S' => sfl_at (CF := S.CF) (f := "gaps") (fn := ["capacity", "blocks", "order", "free"]) (vs := [x, y, z, u]) (d := d) (S := S') (by rw [hc]; decide) (by decide) rfl
    have f6 := fun d x y z u v S' => sfl_at (CF := S.CF) (f := "longest_gap") (fn := ["capacity", "blocks", "order", "free", "gaps"]) (vs := [x, y, z, u, v]) (d := d) (S := S') (by rw [hc]; decide) (by decide) rfl
    have g1 := fun x y S' => fld_at (CF := S.CF) (Φ := S.run n) (f := "blocks") (fn := ["capacity", "blocks"]) (vs := [x, y]) (S := S') (by rw [hc]; decide) rfl
    have g2 := fun x y z S' => fld_at (CF := S.CF) (Φ := S.run n) (f := "blocks") (fn := ["capacity", "blocks", "order"]) (vs := [x, y, z]) (S := S') (by rw [hc]; decide) rfl
    have g3 := fun x y z u S' => fld_at (CF := S.CF) (Φ := S.run n) (f := "blocks") (fn := ["capacity", "blocks", "order", "free"]) (vs := [x, y, z, u]) (S := S') (by rw [hc]; decide) rfl
    have g4 := fun x y z u v S' => fld_at (CF := S.CF) (Φ := S.run n) (f := "gaps") (fn := ["capacity", "blocks", "order", "free", "gaps"]) (vs := [x, y, z, u, v]) (S := S') (by rw [hc]; decide) rfl
    simp! [r1003, e4, ofF_ret, el, List.all_cons, List.all_nil, v, Bool.and_self, wipeS, lp1, if_pos lc1, backS, Option.getD_some, f1, kS, tup_lst, f2, g1, lp2, if_pos lc2, f3, g2, lp3, if_pos lc3, sm, f4, g3, e5, f5, g4, lp4, if_pos lc4, e6, f6, -sSfl_ok, -e_fldO, -kSrt_ok]
    exact ⟨_, rfl⟩

set_option linter.all false
set_option maxRecDepth 100000
set_option maxHeartbeats 4000000
open PySem PySem.Spec PyProof.Rows L2

/-! ### what is told, and held against what is due -/
def exF : List Str := ["BadLayout", "LetError", "ValueError", "Exception", "BaseException"]
def hTold : List (Str × Nat × HX) := [("BadLayout", 2, (.ite (.conj (.inst "LetError") (.inst "ValueError")) (.tup (.cons (.fld "number") (.cons (.fld "reason") .nil))) (.str "other")))]
def bTold : Bs := (.cons (.tri (.cons (.exp (.mk 0 6 (.cons (.var 0) (.cons (.var 1) .nil)))) .nil) hTold) (.cons (.ret .non) .nil))
theorem told_h {CF : Nat → List Str} (hx : CF 500 = exF) (p : Option Nat × Str) (a b c : SD) : triH CF 500 ["reason", "number"] (excV p) [a, b, c] hTold = .rt (dueD (some p)) [a, b, .un] := by
  unfold hTold triH
  have c1 : (("BadLayout" : Str)) ∈ CF 500 := by rw [hx]; decide
  have c2 : (("LetError" : Str)) ∈ CF 500 := by rw [hx]; decide
  have c3 : (("ValueError" : Str)) ∈ CF 500 := by rw [hx]; decide
  have e : evH CF 500 ["reason", "number"] (excV p) (.ite (.conj (.inst "LetError") (.inst "ValueError")) (.tup (.cons (.fld "number") (.cons (.fld "reason") .nil))) (.str "other")) = some (dueD (some p)) := by
    have h1 : evH CF 500 ["reason", "number"] (excV p) (.inst "LetError") = some (.bl true) := by rw [evH, decide_eq_true c2]
    have h2 : evH CF 500 ["reason", "number"] (excV p) (.inst "ValueError") = some (.bl true) := by rw [evH, decide_eq_true c3]
    have h3 : evH CF 500 ["reason", "number"] (excV p) (.conj (.inst "LetError") (.inst "ValueError")) = some (.bl true) := by rw [evH, h1]; exact h2
    rw [evH, h3]
    obtain ⟨o, s⟩ := p
    cases o <;> rfl
  show (if ("BadLayout" : Str) ∈ CF 500 then if 2 < 3 then match evH CF 500 ["reason", "number"] (excV p) (.ite (.conj (.inst "LetError") (.inst "ValueError")) (.tup (.cons (.fld "number") (.cons (.fld "reason") .nil))) (.str "other")) with | some d => RS.rt d ([a, b, c].set 2 .un) | none => .stuck else .stuck else _) = _
  rw [if_pos c1, if_pos (by decide), e]
  rfl
theorem told_spec {S : Src} (hc : S.CF 0 = lyF) (hx : S.CF 500 = exF) (h1 : Has S 1 false 1 1 bIsName) (h2 : Has S 2 false 6 3 bLone) (h3 : Has S 3 false 7 2 bOvlp) (h4 : Has S 4 false 7 3 bChk) (h5 : Has S 5 false 7 2 bGaps) (h6 : Has S 6 true 7 3 bInit) (h23 : Has S 23 false 3 2 bTold) {n : Nat} (hn : 5 ≤ n) {cp : Int} {bl : List U3} (hb : ∀ t ∈ bl, t.2.1.length ≤ 100) (hl : bl.length ≤ 1000) {dB : D} (hB : Lk (bl.map shD) dB) :
    S.run n 23 none [.int cp, dB] = .ret (dueD (due cp (bl.map (·.2)))) none := by
  obtain ⟨n, rfl⟩ : ∃ k, n = k + 1 := ⟨n - 1, by omega⟩
  rw [h23.run n _ _ rfl rfl]
  have q : 500 ≤ 500 ∧ 500 < 1000 := by decide
  simp only [startS, bTold, List.map, List.replicate, List.cons_append, List.nil_append, List.length]
  obtain ⟨p, hd, e⟩ | ⟨hd, vs, e⟩ := init_ok hc h1 h2 h3 h4 h5 h6 (n := n) (by omega) (cp := cp) hb hl hB
  · rw [hd]
    have te := fun a b c => tri_exc (CF := S.CF) (S := [a, b, c]) hTold (fn := ["reason", "number"]) (vs := excV p) q
    dsimp! [e, te, told_h hx]
  · rw [hd]
    dsimp! [e]
    rfl
/-! the same -/
def bSame : Bs := (.cons (.iff (.isi (.var 1) [.tup]) (.cons (.iff (.disj (.not (.isi (.var 0) [.tup])) (.cmp .ne (.bi .len (.cons (.var 0) .nil)) (.bi .len (.cons (.var 1) .nil)))) (.cons (.ret (.bl false)) .nil) .nil) (.cons (.ret (.bi .all (.cons (.cmpr [("k", 2)] [2] (.rng (.cons (.bi .len (.cons (.var 1) .nil)) .nil)) .hole (.call 11 (.cons (.idx (.var 0) (.var 2)) (.cons (.idx (.var 1) (.var 2)) .nil)))) .nil))) .nil)) .nil) (.cons (.iff (.isi (.var 1) [.lst]) (.cons (.iff (.disj (.not (.isi (.var 0) [.lst])) (.cmp .ne (.bi .len (.cons (.var 0) .nil)) (.bi .len (.cons (.var 1) .nil)))) (.cons (.ret (.bl false)) .nil) .nil) (.cons (.ret (.bi .all (.cons (.cmpr [("k", 2)] [2] (.rng (.cons (.bi .len (.cons (.var 1) .nil)) .nil)) .hole (.call 11 (.cons (.idx (.var 0) (.var 2)) (.cons (.idx (.var 1) (.var 2)) .nil)))) .nil))) .nil)) .nil) (.cons (.iff (.isN false (.var 1)) (.cons (.ret (.isN false (.var 0))) .nil) .nil) (.cons (.iff (.isi (.var 1) [.bool]) (.cons (.ret (.conj (.isi (.var 0) [.bool]) (.cmp .eq (.var 0) (.var 1)))) .nil) .nil) (.cons (.iff (.isi (.var 1) [.str]) (.cons (.ret (.conj (.isi (.var 0) [.str]) (.cmp .eq (.var 0) (.var 1)))) .nil) .nil) (.cons (.ret (.conj (.call 10 (.cons (.var 0) .nil)) (.cmp .eq (.var 0) (.var 1)))) .nil))))))
def bIsInt : Bs := (.cons (.ret (.conj (.isi (.var 0) [.int]) (.not (.isi (.var 0) [.bool])))) .nil)
theorem isInt_spec {S : Src} (h10 : Has S 10 false 1 1 bIsInt) {n : Nat} (hn : 1 ≤ n) (i : Int) : S.run n 10 none [.int i] = .ret (.bl true) none := by
  obtain ⟨n, rfl⟩ : ∃ k, n = k + 1 := ⟨n - 1, by omega⟩
  rw [h10.run n _ _ rfl rfl]
  simp only [startS, bIsInt, List.map, List.replicate, List.cons_append, List.nil_append, List.length]
  simp! [kdD, List.any_cons, List.any_nil, isiK, Bool.or_self, Bool.or_false, Bool.not_false]
/-- things that are the same, deep at most k -/
inductive Sm : Nat → D → Prop
  | non {k : Nat} : Sm k .non
  | int {k : Nat} (i : Int) : Sm k (.int i)
  | str {k : Nat} (s : Str) : Sm k (.str s)
  | bl {k : Nat} (b : Bool) : Sm k (.bl b)
  | tup {k : Nat} (xs : List D) (h : ∀ d ∈ xs, Sm k d) (hl : xs.length ≤ 1000) : Sm (k + 1) (.tup xs)
  | lst {k : Nat} (xs : List D) (h : ∀ d ∈ xs, Sm k d) (hl : xs.length ≤ 1000) : Sm (k + 1) (.lst xs)
theorem cmp_eqS (s : Str) : cmpD .eq (.str s) (.str s) = some true := by show some (decide (s = s)) = _; simp
theorem cmp_eqB (s : Bool) : cmpD .eq (.bl s) (.bl s) = some true := by show some (decide (s = s)) = _; simp
theorem all_true (l : List D) (h : ∀ d ∈ l, d = .bl true) : biD .all [.lst l] = some (.bl true) := by
  obtain ⟨m, rfl⟩ := ex_map (f := fun _ : Unit => D.bl true) (l := l) fun d hd => ⟨(), h d hd⟩
  have : m.map (fun _ : Unit => D.bl true) = (m.map fun _ => true).map .bl := by rw [List.map_map]; rfl
  rw [this, bls_map]
  congr 2
  rw [List.all_map]
  exact List.all_eq_true.2 fun _ _ => rfl
theorem same_spec {S : Src} (h10 : Has S 10 false 1 1 bIsInt) (h11 : Has S 11 false 3 2 bSame) : ∀ (k : Nat) {n : Nat} (hn : k + 2 ≤ n) {d : D} (hd : Sm k d), S.run n 11 none [d, d] = .ret (.bl true) none := by
  intro k
  induction k with
  | zero =>
    intro n hn d hd
    obtain ⟨n, rfl⟩ : ∃ k, n = k + 1 := ⟨n - 1, by omega⟩
    rw [h11.run n _ _ rfl rfl]
    simp only [startS, bSame, List.map, List.replicate, List.cons_append, List.nil_append, List.length]
    cases hd with
    | non => simp! [kdD, List.any_cons, List.any_nil, isiK, Bool.or_self, Bool.or_false, Bool.not_false]
    | int i =>
      have := isInt_spec h10 (n := n) (by omega) i
      simp! [kdD, List.any_cons, List.any_nil, isiK, Bool.or_self, Bool.or_false, Bool.not_false, this, ofF_ret, cmp_eqI]
    | str s => simp! [kdD, List.any_cons, List.any_nil, isiK, Bool.or_self, Bool.or_false, Bool.not_false, cmp_eqS]
    | bl s => simp! [kdD, List.any_cons, List.any_nil, isiK, Bool.or_self, Bool.or_false, Bool.not_false, cmp_eqB]
  | succ k ih =>
    intro n hn d hd
    obtain ⟨n, rfl⟩ : ∃ k, n = k + 1 := ⟨n - 1, by omega⟩
    rw [h11.run n _ _ rfl rfl]
    simp only [startS, bSame, List.map, List.replicate, List.cons_append, List.nil_append, List.length]
    have v : isVal (some SD.un) = true := rfl
    have Q : ∀ (g : List D → D) (gi : ∀ xs i, idxD (g xs) (.int i) = atI xs i) (xs : List D) (h : ∀ d ∈ xs, Sm k d) (hl : xs.length ≤ 1000), ∃ ds, loopC (cBody S.CF (S.run n) [2] [2] .hole (.call 11 (.cons (.idx (.var 0) (.var 2)) (.cons (.idx (.var 1) (.var 2)) .nil)))) (rngL xs.length) [.val (g xs), .val (g xs), .un] = .ok ds [.val (g xs), .val (g xs), .un] ∧ biD .all [.lst ds] = some (.bl true) ∧ ds.length < cap := by
      intro g gi xs h hl
      obtain ⟨ds, S', e, e2, hd, hds⟩ := loopC_all (f := cBody S.CF (S.run n) [2] [2] .hole (.call 11 (.cons (.idx (.var 0) (.var 2)) (.cons (.idx (.var 1) (.var 2)) .nil)))) (fun i acc S' => S' = [.val (g xs), .val (g xs), .un] ∧ (∀ d ∈ acc, d = .bl true) ∧ acc.length = i) (rngL xs.length) 0 [] _ ⟨rfl, fun _ z => (nomatch z), rfl⟩ fun j x acc S' hx ⟨eS, ha, hi⟩ => by
        subst eS
        obtain ⟨rfl, hj⟩ := rngL_get hx
        obtain ⟨q, hq⟩ : ∃ q : Int, q = (j : Int) := ⟨_, rfl⟩
        rw [← hq]
        obtain ⟨y, ey, my⟩ := atI_ex xs q (by omega) (by omega)
        have e0 : idxD (g xs) (.int q) = some y := by rw [gi]; exact ey
        have e1 := ih (n := n) (by omega) (h y my)
        rw [cBody_some _ _ _ _ (bindT_1 2 _ _)]
        simp! [e0, e1, ofF_ret, cBody2_t, cBody3_ok, wipeS]
        refine ⟨_, _, rfl, rfl, fun d hd => ?_, by simp; omega⟩
        rcases List.mem_append.mp hd with w | w
        · exact ha d w
        · simpa using w
      refine ⟨ds, by rw [e, e2], all_true ds (fun d w => hd d (by simpa using w)), lt_cap ?_⟩
      have := hds
      rw [List.nil_append, rngL_len] at this
      omega
    cases hd with
    | non => simp! [kdD, List.any_cons, List.any_nil, isiK, Bool.or_self, Bool.or_false, Bool.not_false]
    | int i =>
      have := isInt_spec h10 (n := n) (by omega) i
      simp! [kdD, List.any_cons, List.any_nil, isiK, Bool.or_self, Bool.or_false, Bool.not_false, this, ofF_ret, cmp_eqI]
    | str s => simp! [kdD, List.any_cons, List.any_nil, isiK, Bool.or_self, Bool.or_false, Bool.not_false, cmp_eqS]
    | bl s => simp! [kdD, List.any_cons, List.any_nil, isiK, Bool.or_self, Bool.or_false, Bool.not_false, cmp_eqB]
    | tup xs h hl =>
      obtain ⟨q, hq⟩ : ∃ q : Int, q = (xs.length : Int) := ⟨_, rfl⟩
      have lq : biD .len [.tup xs] = some (.int q) := by rw [len_tup, hq]
      have rq : rngD [.int q] = some (rngL xs.length) := by rw [hq, rng_int (by omega) (by omega)]; rfl
      obtain ⟨ds, e, ea, lc⟩ := Q .tup (fun _ _ => rfl) xs h hl
      simp! [kdD, List.any_cons, List.any_nil, isiK, Bool.or_self, Bool.or_false, Bool.not_false, Bool.not_true, lq, cmp_neI, rq, List.all_cons, List.all_nil, v, Bool.and_self, wipeS, e, if_pos lc, backS, Option.getD_some, ea]
    | lst xs h hl =>
      obtain ⟨q, hq⟩ : ∃ q : Int, q = (xs.length : Int) := ⟨_, rfl⟩
      have lq : biD .len [.lst xs] = some (.int q) := by rw [len_lst, hq]
      have rq : rngD [.int q] = some (rngL xs.length) := by rw [hq, rng_int (by omega) (by omega)]; rfl
      obtain ⟨ds, e, ea, lc⟩ := Q .lst (fun _ _ => rfl) xs h hl
      simp! [kdD, List.any_cons, List.any_nil, isiK, Bool.or_self, Bool.or_false, Bool.not_false, Bool.not_true, lq, cmp_neI, rq, List.all_cons, List.all_nil, v, Bool.and_self, wipeS, e, if_pos lc, backS, Option.getD_some, ea]
theorem sm_due (p : Option (Option Nat × Str)) : Sm 1 (dueD p) := by
  rcases p with _ | ⟨_ | k, s⟩
  · exact .non
  · exact .tup _ (fun d hd => by
      simp only [List.mem_cons, List.not_mem_nil, or_false] at hd
      rcases hd with rfl | rfl
      · exact .non
      · exact .str _) (by simp)
  · exact .tup _ (fun d hd => by
      simp only [List.mem_cons, List.not_mem_nil, or_false] at hd
      rcases hd with rfl | rfl
      · exact .int _
      · exact .str _) (by simp)

set_option linter.all false
set_option maxRecDepth 100000
set_option maxHeartbeats 4000000
open PySem PySem.Spec PyProof.Rows L2

/-! ### the pool of a script -/
def bPool : Bs := (.cons (.retL (.lst (.cons (.cmpr [("cell", 1)] [1] (.var 0) .hole (.ite (.cmp .ge (.var 1) (.int 0)) (.bin .mul (.int 2) (.var 1)) (.bin .sub (.bin .mul (.neg (.int 2)) (.var 1)) (.int 1)))) (.cons (.int 0) (.cons (.int 0) (.cons (.int 17) .nil)))))) .nil)
theorem elm_scr (xs : List D) : elmD (.scr xs) = some xs := rfl
theorem cm_lpI {CF : Nat → List Str} {Φ : Nat → Option OC → List D → FRes} {T : Type} {g h : T → D} {v : Nat} {el : E} {S : List SD} (one : ∀ t, cBody CF Φ [v] [v] .hole el (g t) S = .ok (some (h t)) S) (l : List T) : loopC (cBody CF Φ [v] [v] .hole el) (l.map g) S = .ok (l.map h) S := cm_lp one l
theorem pool_spec {S : Src} (h7 : Has S 7 false 2 1 bPool) {n : Nat} (hn : 1 ≤ n) {ns : List Int} (hl : ns.length ≤ 1000) : ∃ xs, S.run n 7 none [.scr (ns.map .int)] = .retN xs ∧ Pool (.lst xs) := by
  obtain ⟨n, rfl⟩ : ∃ k, n = k + 1 := ⟨n - 1, by omega⟩
  rw [h7.run n _ _ rfl rfl]
  have v : isVal (some SD.un) = true := rfl
  have lp := cm_lp (CF := S.CF) (Φ := S.run n) (g := .int) (h := fun i => .int (if 0 ≤ i then 2 * i else -2 * i - 1)) (v := 1) (el := .ite (.cmp .ge (.var 1) (.int 0)) (.bin .mul (.int 2) (.var 1)) (.bin .sub (.bin .mul (.neg (.int 2)) (.var 1)) (.int 1))) (S := [.val (.scr (ns.map .int)), .un]) (fun i => by
    rw [cBody_some _ _ _ _ (bindT_1 1 _ _)]
    have m1 : binD .mul (.int 2) (.int i) = some (.int (2 * i)) := bin_mulL (by decide)
    have m2 : binD .mul (.int (-2)) (.int i) = some (.int (-2 * i)) := bin_mulL (by decide)
    by_cases c : 0 ≤ i
    · simp! [c, m1, m2, cBody2_t, cBody3_ok, wipeS]
    · simp! [c, m1, m2, cBody2_t, cBody3_ok, wipeS]
      simp) ns
  have lc : (ns.map fun i => D.int (if 0 ≤ i then 2 * i else -2 * i - 1)).length < cap := lt_cap (by rw [List.length_map]; omega)
  simp only [startS, bPool, List.map, List.replicate, List.cons_append, List.nil_append, List.length]
  simp! [elm_scr, List.all_cons, List.all_nil, v, Bool.and_self, wipeS, lp, if_pos lc, backS, Option.getD_some]
  refine ⟨_, rfl, ns.map (fun i => if 0 ≤ i then 2 * i else -2 * i - 1), 0, 0, 17, ?_, ?_, by omega, by omega, by omega, by omega⟩
  · rw [List.map_map]; rfl
  · intro c hc
    obtain ⟨i, -, rfl⟩ := List.mem_map.1 hc
    split <;> omega
/-! ### blocks as triples -/
theorem f2_ul : ∀ {as bs : List D}, F2 BlkS as bs → ∃ ul : List U3, bs = ul.map shD ∧ as = (ul.map (·.2)).map tpD ∧ ∀ t ∈ ul, t.2.1.length ≤ 100
  | _, _, .nil => ⟨[], rfl, rfl, fun _ z => (nomatch z)⟩
  | _, _, .cons h t => by
    obtain ⟨ul, rfl, rfl, hu⟩ := f2_ul t
    obtain ⟨s, a, b, rfl, hs, w⟩ := h
    rcases w with rfl | rfl
    · exact ⟨(true, s, a, b) :: ul, rfl, rfl, fun t ht => (List.mem_cons.1 ht).elim (fun e => e ▸ hs) (hu t)⟩
    · exact ⟨(false, s, a, b) :: ul, rfl, rfl, fun t ht => (List.mem_cons.1 ht).elim (fun e => e ▸ hs) (hu t)⟩
/-! ### the law -/
def bTurnS : Bs := (.cons (.iff (.var 5) (.cons (.asg 5 (.callO 19 1 (.cons (.var 5) (.cons (.callO 8 1 (.cons (.bi .len (.cons (.var 5) .nil)) .nil)) .nil)))) .nil) .nil) .nil)
def bK0 : B := (.iff (.cmp .eq (.var 7) (.int 0)) (.cons (.asg 4 (.idx (.tup (.cons (.neg (.int 1)) (.cons (.bin .add (.bin .pow (.int 10) (.int 31)) (.int 1)) (.cons (.neg (.bin .pow (.int 10) (.int 31))) .nil)))) (.callO 8 1 (.cons (.int 3) .nil)))) .nil) .nil)
def bK1b : Bs := (.cons (.asg 5 (.bin .add (.var 5) (.cmpr [("k", 8)] [8] (.rng (.cons (.bin .add (.bin .sub (.int 13) (.bi .len (.cons (.var 5) .nil))) (.callO 8 1 (.cons (.int 2) .nil))) .nil)) .hole (.tup (.cons (.bin .add (.str "x") (.idx (.str "abcdefghijklmn") (.var 8))) (.cons (.var 8) (.cons (.int 1) .nil))))))) .nil)
def bK1 : B := (.iff (.disj (.cmp .eq (.var 7) (.int 1)) (.conj (.cmp .eq (.var 7) (.int 0)) (.cmp .eq (.callO 8 1 (.cons (.int 2) .nil)) (.int 0)))) bK1b .nil)
def bTurn : Bs := (.cons (.asg 3 (.callO 18 1 (.cons (.int 12) .nil))) (.cons (.asg 4 (.idx (.var 3) (.str "capacity"))) (.cons (.asg 5 (.callO 14 1 (.cons (.bi .lst (.cons (.idx (.var 3) (.str "blocks")) .nil)) (.cons (.bi .len (.cons (.idx (.var 3) (.str "blocks")) .nil)) .nil)))) (.cons (.for [6] (.rng (.cons (.callO 8 1 (.cons (.int 4) .nil)) .nil)) bTurnS) (.cons (.asg 7 (.callO 8 1 (.cons (.int 12) .nil))) (.cons bK0 (.cons bK1 (.cons (.iff (.not (.call 11 (.cons (.call 23 (.cons (.var 4) (.cons (.callO 13 1 (.cons (.var 5) .nil)) .nil))) (.cons (.call 22 (.cons (.var 4) (.cons (.var 5) .nil))) .nil)))) (.cons (.ret (.bl false)) .nil) .nil) .nil))))))))
def bLaw : Bs := (.cons (.asgF 1 7 (.cons (.var 0) .nil)) (.cons (.for [2] (.rng (.cons (.int 3) .nil)) bTurn) (.cons (.ret (.bl true)) .nil)))
theorem rng_any {i : Int} (h0 : -1000000000 ≤ i) (h : i < 1000000000) : rngD [.int i] = some (rngL i.toNat) := by
  show (if _ then _ else _) = _
  rw [if_pos ⟨by omega, by omega⟩]; rfl
theorem pow_1 : 1 = 1 := rfl
/-- all that the law leans on -/
structure Prg2 (S : Src) : Prop where
  hlp : Hlp S
  c0 : S.CF 0 = lyF
  c500 : S.CF 500 = exF
  p1 : Has S 1 false 1 1 bIsName
  p2 : Has S 2 false 6 3 bLone
  p3 : Has S 3 false 7 2 bOvlp
  p4 : Has S 4 false 7 3 bChk
  p5 : Has S 5 false 7 2 bGaps
  p6 : Has S 6 true 7 3 bInit
  p7 : Has S 7 false 2 1 bPool
  p10 : Has S 10 false 1 1 bIsInt
  p11 : Has S 11 false 3 2 bSame
  p12 : Has S 12 true 2 2 bPick
  p13 : Has S 13 true 4 2 bShaped
  p19 : Has S 19 true 8 3 bSpoilt
  p20 : Has S 20 false 3 1 bLName
  p21 : Has S 21 false 7 3 bReason
  p22 : Has S 22 false 4 2 bDue
  p23 : Has S 23 false 3 2 bTold
  p24 : Has S 24 false 9 1 bLaw
section
variable {S : Src} (H : Prg2 S) {n : Nat} (hn : 10 ≤ n)
include H hn
/-- the state within a turn -/
def TuI (s0 : SD) (L : Nat) (S' : List SD) : Prop := ∃ (o : OC) (s2 s3 s6 s7 : SD) (c : Int) (bl : List D), S' = [s0, .own true o, s2, s3, .val (.int c), .val (.lst bl), s6, s7, .un] ∧ Pool o ∧ (∀ d ∈ bl, Blk d) ∧ bl.length + 1 ≤ L
theorem turn_s {s0 : SD} {L : Nat} (hL : L ≤ 500) {S' : List SD} (I : TuI s0 L S') (x : D) : ∃ S2, sBody S.CF (S.run n) [6] bTurnS x S' = .nx S2 ∧ TuI s0 (2 * L) S2 := by
  obtain ⟨o, s2, s3, s6, s7, c, bl, rfl, po, hb, hl⟩ := I
  rw [sBody_some _ _ (bindT_1 6 _ _)]
  unfold bTurnS
  cases e : bl with
  | nil =>
    simp! [List.isEmpty_nil, Bool.not_true]
    exact ⟨_, rfl, o, s2, s3, _, s7, c, [], rfl, po, fun _ z => (nomatch z), by simp; omega⟩
  | cons b0 bt =>
    rw [← e]
    have ne : bl.isEmpty = false := by rw [e]; rfl
    obtain ⟨q, hq⟩ : ∃ q : Int, q = (bl.length : Int) := ⟨_, rfl⟩
    have lq : biD .len [.lst bl] = some (.int q) := by rw [len_lst, hq]
    have q0 : 0 < q := by rw [hq, e, List.length_cons]; omega
    obtain ⟨d1, o1, e1, p1, a1, b1⟩ := take_to H.hlp.take (n := n) (by omega) po (m := q) q0 (by omega)
    obtain ⟨ds, o2, e2, p2, hd, ld, _⟩ := spoilt_spec H.hlp H.p12 H.p19 (n := n) (by omega) p1 hb (by omega) a1 (by omega)
    simp! [ne, Bool.not_false, lq, e1, e2, ofFO_ret]
    exact ⟨_, rfl, o2, s2, s3, _, s7, c, ds, rfl, p2, hd, by omega⟩
theorem turn_k0 {s0 s2 s3 s6 : SD} {o : OC} {kd c : Int} {bl : SD} (po : Pool o) : ∃ (o' : OC) (c' : Int), evB S.CF (S.run n) bK0 [s0, .own true o, s2, s3, .val (.int c), bl, s6, .val (.int kd), .un] = .nx [s0, .own true o', s2, s3, .val (.int c'), bl, s6, .val (.int kd), .un] ∧ Pool o' := by
  unfold bK0
  by_cases z : kd = 0
  · obtain ⟨d1, o1, x, e1, p1, ex, hx⟩ := take_few H.hlp (n := n) (by omega) po (xs := [.int (-1), .int (10000000000000000000000000000000 + 1), .int (-10000000000000000000000000000000)]) (by simp) (by simp) (m := 3) rfl
    obtain ⟨r, rfl⟩ : ∃ r : Int, x = .int r := by
      simp only [List.mem_cons, List.not_mem_nil, or_false] at hx
      rcases hx with rfl | rfl | rfl <;> exact ⟨_, rfl⟩
    simp! [cmp_eqI, z, pow_31, e1, ofFO_ret, ex]
    exact ⟨o1, r, rfl, p1⟩
  · simp! [cmp_eqI, z]
    exact ⟨o, c, rfl, po⟩
theorem turn_k1b {s0 s2 s3 s6 s7 s4 : SD} {o : OC} {bl : List D} (po : Pool o) (hb : ∀ d ∈ bl, Blk d) (hl : bl.length ≤ 500) : ∃ (o' : OC) (bl' : List D), evBs S.CF (S.run n) bK1b [s0, .own true o, s2, s3, s4, .val (.lst bl), s6, s7, .un] = .nx [s0, .own true o', s2, s3, s4, .val (.lst bl'), s6, s7, .un] ∧ Pool o' ∧ (∀ d ∈ bl', Blk d) ∧ bl'.length ≤ 600 := by
  unfold bK1b
  obtain ⟨d1, o1, e1, p1, a1, b1⟩ := take_to H.hlp.take (n := n) (by omega) po (m := 2) (by decide) (by decide)
  obtain ⟨q, hq⟩ : ∃ q : Int, q = (bl.length : Int) := ⟨_, rfl⟩
  have lq : biD .len [.lst bl] = some (.int q) := by rw [len_lst, hq]
  have rq := rng_any (i := 13 - q + d1) (by omega) (by omega)
  have v : isVal (some SD.un) = true := rfl
  have lz : ("abcdefghijklmn" : Str).length = 14 := by decide +kernel
  have lx : ("x" : Str).length = 1 := by decide +kernel
  obtain ⟨ds, S', e, rfl, hd, hds⟩ := loopC_all (f := cBody S.CF (S.run n) [8] [8] .hole (.tup (.cons (.bin .add (.str "x") (.idx (.str "abcdefghijklmn") (.var 8))) (.cons (.var 8) (.cons (.int 1) .nil))))) (fun i acc S' => S' = [s0, .own true o1, s2, s3, s4, .val (.lst bl), s6, s7, .un] ∧ (∀ d ∈ acc, Blk d) ∧ acc.length = i) (rngL (13 - q + d1).toNat) 0 [] _ ⟨rfl, fun _ z => (nomatch z), rfl⟩ fun j x acc S' hx ⟨eS, ha, hi⟩ => by
    subst eS
    obtain ⟨rfl, hj⟩ := rngL_get hx
    obtain ⟨i, hi2⟩ : ∃ i : Int, i = (j : Int) := ⟨_, rfl⟩
    rw [← hi2]
    obtain ⟨c, ec, -⟩ := idx_str (z := "abcdefghijklmn") (i := i) (by rw [lz]; omega) (by omega) (by rw [lz]; omega)
    have ad : binD .add (.str "x") (.str ⟨#[c]⟩) = some (.str ("x" ++ ⟨#[c]⟩)) := add_str (by rw [lx]; show 1 + 1 ≤ 100000; omega)
    rw [cBody_some _ _ _ _ (bindT_1 8 _ _)]
    simp! [ec, ad, cBody2_t, cBody3_ok, wipeS]
    refine ⟨_, _, rfl, rfl, fun d hd => ?_, by simp; omega⟩
    rcases List.mem_append.mp hd with w | w
    · exact ha d w
    · have : d = .tup [.str ("x" ++ ⟨#[c]⟩), .int i, .int 1] := by simpa using w
      refine ⟨_, _, _, this, ?_⟩
      have : (("x" : Str) ++ ⟨#[c]⟩).length = 2 := by
        show (("x" : Str).cps ++ #[c]).size = 2
        rw [Array.size_append]
        have : ("x" : Str).cps.size = 1 := lx
        rw [this]; rfl
      omega
  rw [List.nil_append, Nat.zero_add, rngL_len] at hds
  have lc : ds.length < cap := lt_cap (by omega)
  have ap : binD .add (.lst bl) (.lst ds) = some (.lst (bl ++ ds)) := add_lst (by omega)
  simp! [lq, e1, ofFO_ret, rq, List.all_cons, List.all_nil, v, Bool.and_self, wipeS, e, if_pos lc, backS, Option.getD_some, ap]
  refine ⟨o1, _, rfl, p1, fun d w => ?_, by simp; omega⟩
  rcases List.mem_append.mp w with w | w
  · exact hb d w
  · exact hd d (by simpa using w)
theorem turn_k1 {s0 s2 s3 s6 s4 : SD} {kd : Int} {o : OC} {bl : List D} (po : Pool o) (hb : ∀ d ∈ bl, Blk d) (hl : bl.length ≤ 500) : ∃ (o' : OC) (bl' : List D), evB S.CF (S.run n) bK1 [s0, .own true o, s2, s3, s4, .val (.lst bl), s6, .val (.int kd), .un] = .nx [s0, .own true o', s2, s3, s4, .val (.lst bl'), s6, .val (.int kd), .un] ∧ Pool o' ∧ (∀ d ∈ bl', Blk d) ∧ bl'.length ≤ 600 := by
  unfold bK1
  by_cases z : kd = 1
  · obtain ⟨o', bl', e, r⟩ := turn_k1b H hn (s0 := s0) (s2 := s2) (s3 := s3) (s6 := s6) (s7 := .val (.int kd)) (s4 := s4) po hb hl
    refine ⟨o', bl', ?_, r⟩
    rw [← e]
    simp! [cmp_eqI, z]
  · by_cases z0 : kd = 0
    · obtain ⟨d1, o1, e1, p1, a1, b1⟩ := take_to H.hlp.take (n := n) (by omega) po (m := 2) (by decide) (by decide)
      have n01 : ¬ ((0 : Int) = 1) := by decide
      by_cases y : d1 = 0
      · obtain ⟨o', bl', e, r⟩ := turn_k1b H hn (s0 := s0) (s2 := s2) (s3 := s3) (s6 := s6) (s7 := .val (.int kd)) (s4 := s4) p1 hb hl
        refine ⟨o', bl', ?_, r⟩
        rw [← e]
        simp! [cmp_eqI, n01, z0, e1, ofFO_ret, y]
      · refine ⟨o1, bl, ?_, p1, hb, by omega⟩
        simp! [cmp_eqI, n01, z0, e1, ofFO_ret, y]
    · refine ⟨o, bl, ?_, po, hb, by omega⟩
      simp! [cmp_eqI, z, z0]
end

set_option linter.all false
set_option maxRecDepth 100000
set_option maxHeartbeats 4000000
open PySem PySem.Spec PyProof.Rows L2

theorem idx_cap (c : Int) (bs : List D) : idxD (.dct [kCap, kBlk] [.int c, .tup bs]) (.str "capacity") = some (.int c) := by
  have h : decide (kCap = Sum.inr ("capacity" : Str)) = true := by decide
  show valD [(kCap, D.int c), (kBlk, .tup bs)] (Sum.inr "capacity") = _
  unfold valD
  simp only [List.find?, h]
  rfl
theorem idx_blk (c : Int) (bs : List D) : idxD (.dct [kCap, kBlk] [.int c, .tup bs]) (.str "blocks") = some (.tup bs) := by
  have h : decide (kCap = Sum.inr ("blocks" : Str)) = false := by decide
  have h2 : decide (kBlk = Sum.inr ("blocks" : Str)) = true := by decide
  show valD [(kCap, D.int c), (kBlk, .tup bs)] (Sum.inr "blocks") = _
  unfold valD
  simp only [List.find?, h, h2]
  rfl
theorem lst_tup (xs : List D) : biD .lst [.tup xs] = some (.lst xs) := rfl
section
variable {S : Src} (H : Prg2 S) {n : Nat} (hn : 10 ≤ n)
include H hn
theorem turn_spec {s0 s2 s3 s4 s5 s6 s7 : SD} {o : OC} (po : Pool o) (x : D) : ∃ (o' : OC) (s2' s3' s4' s5' s6' s7' : SD), sBody S.CF (S.run n) [2] bTurn x [s0, .own true o, s2, s3, s4, s5, s6, s7, .un] = .nx [s0, .own true o', s2', s3', s4', s5', s6', s7', .un] ∧ Pool o' := by
  obtain ⟨c, bs, o1, e1, p1, c0, hb, lb⟩ := layout_spec H.hlp (n := n) (by omega) po (m := 12) (by decide) (by decide)
  obtain ⟨q, hq⟩ : ∃ q : Int, q = (bs.length : Int) := ⟨_, rfl⟩
  have lq : biD .len [.tup bs] = some (.int q) := by rw [len_tup, hq]
  obtain ⟨bl, o2, e2, p2, mb, ll⟩ := some_spec H.hlp.take H.hlp.some (n := n) (by omega) p1 (xs := bs) (by omega) (k := q) (by omega)
  have hbl : ∀ d ∈ bl, Blk d := fun d hd => hb d (mb d hd)
  have lbl : bl.length + 1 ≤ 13 := by rw [ll]; omega
  obtain ⟨d3, o3, e3, p3, a3, b3⟩ := take_to H.hlp.take (n := n) (by omega) p2 (m := 4) (by decide) (by decide)
  obtain ⟨S4, e4, o4, u2, u3, u6, u7, c4, bl4, rfl, p4, hb4, l4⟩ := loop_nx (CF := S.CF) (Φ := S.run n) (ts := [6]) (b := bTurnS) (fun i S' => TuI s0 (13 * 2 ^ i) S') (rngL d3.toNat) 0 [s0, .own true o3, .val x, .val (.dct [kCap, kBlk] [.int c, .tup bs]), .val (.int c), .val (.lst bl), s6, s7, .un] ⟨o3, _, _, _, _, c, bl, rfl, p3, hbl, by omega⟩ fun j y S' hy I => by
    have hj : j < d3.toNat := by
      have := (List.getElem?_eq_some_iff.1 hy).1
      rwa [rngL_len] at this
    rw [Nat.zero_add] at I ⊢
    have hj2 : j = 0 ∨ j = 1 ∨ j = 2 := by omega
    obtain ⟨S2, e, I2⟩ := turn_s H hn (s0 := s0) (L := 13 * 2 ^ j) (by rcases hj2 with rfl | rfl | rfl <;> decide) I y
    exact ⟨S2, .inl e, by rw [Nat.pow_succ]; rw [show 13 * (2 ^ j * 2) = 2 * (13 * 2 ^ j) by omega]; exact I2⟩
  have l4' : bl4.length + 1 ≤ 104 := by
    rw [Nat.zero_add, rngL_len] at l4
    have : d3.toNat = 0 ∨ d3.toNat = 1 ∨ d3.toNat = 2 ∨ d3.toNat = 3 := by omega
    rcases this with h | h | h | h <;> rw [h] at l4 <;> omega
  obtain ⟨kd, o5, e5, p5, a5, b5⟩ := take_to H.hlp.take (n := n) (by omega) p4 (m := 12) (by decide) (by decide)
  obtain ⟨o6, c6, e6, p6⟩ := turn_k0 H hn (s0 := s0) (s2 := u2) (s3 := u3) (s6 := u6) (kd := kd) (c := c4) (bl := .val (.lst bl4)) p5
  obtain ⟨o7, bl7, e7, p7, hb7, l7⟩ := turn_k1 H hn (s0 := s0) (s2 := u2) (s3 := u3) (s6 := u6) (s4 := .val (.int c6)) (kd := kd) p6 hb4 (by omega)
  obtain ⟨dB, o8, bs', e8, p8, kB, f8⟩ := shaped_blks H.hlp H.p13 (n := n) (by omega) p7 hb7 (by omega)
  obtain ⟨ul, rfl, hul, htl⟩ := f2_ul f8
  have lul : ul.length ≤ 1000 := by
    have := congrArg List.length hul
    simp only [List.length_map] at this
    omega
  have e9 := told_spec H.c0 H.c500 H.p1 H.p2 H.p3 H.p4 H.p5 H.p6 H.p23 (n := n) (by omega) (cp := c6) htl lul kB
  have e10 := due_spec H.p20 H.p21 H.p22 (n := n) (by omega) (cp := c6) (bl := ul.map (·.2)) (fun t ht => by
    obtain ⟨w, hw, rfl⟩ := List.mem_map.1 ht
    exact htl w hw) (by rw [List.length_map]; exact lul)
  rw [← hul] at e10
  have e11 := same_spec H.p10 H.p11 1 (n := n) (by omega) (sm_due (due c6 (ul.map (·.2))))
  have r3 := rng_int a3 (show d3 < 1000000000 by omega)
  rw [sBody_some _ _ (bindT_1 2 _ _)]
  unfold bTurn
  simp! [e1, ofFO_ret, idx_cap, idx_blk, lst_tup, lq, e2, e3, r3, e4, e5, e6, e7, e8, e9, ofF_ret, e10, e11, Bool.not_true]
  exact ⟨_, _, _, _, _, _, _, rfl, p8⟩
end
theorem core2 {S : Src} (H : Prg2 S) {n : Nat} (hn : 11 ≤ n) {ns : List Int} (hl : ns.length ≤ 1000) : S.run n 24 none [.scr (ns.map .int)] = .ret (.bl true) none := by
  obtain ⟨n, rfl⟩ : ∃ k, n = k + 1 := ⟨n - 1, by omega⟩
  rw [H.p24.run n _ _ rfl rfl]
  obtain ⟨xs, e1, p1⟩ := pool_spec H.p7 (n := n) (by omega) hl
  obtain ⟨S', e2, o, s2, s3, s4, s5, s6, s7, rfl, p2⟩ := loop_nx (CF := S.CF) (Φ := S.run n) (ts := [2]) (b := bTurn) (fun _ S' => ∃ (o : OC) (s2 s3 s4 s5 s6 s7 : SD), S' = [.val (.scr (ns.map .int)), .own true o, s2, s3, s4, s5, s6, s7, .un] ∧ Pool o) (rngL (3 : Int).toNat) 0 [.val (.scr (ns.map .int)), .own true (.lst xs), .un, .un, .un, .un, .un, .un, .un] ⟨_, _, _, _, _, _, _, rfl, p1⟩ fun j y S' hy ⟨o, s2, s3, s4, s5, s6, s7, eS, po⟩ => by
    subst eS
    obtain ⟨o', t2, t3, t4, t5, t6, t7, e, p⟩ := turn_spec H (n := n) (by omega) (s0 := .val (.scr (ns.map .int))) (s2 := s2) (s3 := s3) (s4 := s4) (s5 := s5) (s6 := s6) (s7 := s7) po y
    exact ⟨_, .inl e, o', t2, t3, t4, t5, t6, t7, rfl, p⟩
  simp only [startS, bLaw, List.map, List.replicate, List.cons_append, List.nil_append, List.length]
  simp! [e1, rng_int (i := 3) (by decide) (by decide), e2]

set_option linter.all false
set_option maxRecDepth 100000
set_option maxHeartbeats 4000000
open PySem PySem.Spec PyProof.Rows L2

/-! ### names, exactly: they differ, and are names -/
def ch26 (i : Nat) : Nat := z26.cps.toList.getD i 0
def ch36 (i : Nat) : Nat := (z26 ++ z10).cps.toList.getD i 0
def one (c : Nat) : Str := ⟨#[c]⟩
theorem idx_zz {z : Str} {i : Int} (hz : z.length ≤ 100000) (h0 : 0 ≤ i) (h1 : i < z.length) : idxD (.str z) (.int i) = some (.str ⟨#[z.cps.toList.getD i.toNat 0]⟩) := by
  have hl : z.cps.toList.length = z.length := Array.length_toList
  show (if z.length ≤ cap then (atI z.cps.toList i).map fun c => D.str ⟨#[c]⟩ else none) = _
  rw [if_pos (le_cap hz), atI_get _ _ h0 (by omega), List.getD_eq_getElem?_getD, List.getElem?_eq_getElem (by omega)]
  rfl
theorem idx_26 {i : Int} (h0 : 0 ≤ i) (h1 : i < 26) : idxD (.str z26) (.int i) = some (.str (one (ch26 i.toNat))) := idx_zz (by rw [z26_len]; omega) h0 (by rw [z26_len]; omega)
theorem idx_36 {i : Int} (h0 : 0 ≤ i) (h1 : i < 36) : idxD (.str (z26 ++ z10)) (.int i) = some (.str (one (ch36 i.toNat))) := idx_zz (by rw [z36_len]; omega) h0 (by rw [z36_len]; omega)
theorem in26 : ∀ i, i < 26 → ch26 i ∈ z26.cps.toList := by decide +kernel
theorem in36 : ∀ i, i < 36 → ch36 i ∈ z36.cps.toList := by decide +kernel
theorem in2636 : ∀ i, i < 26 → ch26 i ∈ z36.cps.toList := by decide +kernel
theorem ch36_inj : ∀ i, i < 36 → ∀ j, j < 36 → ch36 i = ch36 j → i = j := by decide +kernel
/-- a name of at most k signs -/
structure Nms (k : Nat) (s : Str) : Prop where
  pos : 1 ≤ s.length
  le : s.length ≤ k
  hd : s.cps.toList.headD 0 ∈ z26.cps.toList
  all : ∀ c ∈ s.cps.toList, c ∈ z36.cps.toList
theorem Nms.isNm {s : Str} (h : Nms 8 s) : isNm s = true := by
  unfold VI.isNm
  rw [decide_eq_true h.pos, decide_eq_true h.le, decide_eq_true h.hd]
  simp only [Bool.true_and]
  exact List.all_eq_true.2 fun c hc => decide_eq_true (h.all c hc)
theorem nms_one {i : Nat} (h : i < 26) : Nms 1 (one (ch26 i)) :=
  ⟨Nat.le_refl 1, Nat.le_refl 1, in26 i h, fun c hc => by
    have : c = ch26 i := by simpa [one] using hc
    rw [this]; exact in2636 i h⟩
theorem nms_app {k : Nat} {s : Str} (h : Nms k s) {i : Nat} (hi : i < 36) : Nms (k + 1) (s ++ one (ch36 i)) := by
  have e : (s ++ one (ch36 i)).cps.toList = s.cps.toList ++ [ch36 i] := by
    show (s.cps ++ #[ch36 i]).toList = _
    rw [Array.toList_append]
  have ll : (s ++ one (ch36 i)).length = s.length + 1 := by rw [len_app]; rfl
  refine ⟨by omega, by have := h.le; omega, ?_, fun c hc => ?_⟩
  · rw [e]
    have p := h.pos
    have hd := h.hd
    have hl : s.cps.toList.length = s.length := Array.length_toList
    cases q : s.cps.toList with
    | nil => rw [q] at hl; simp at hl; omega
    | cons a r => rw [q] at hd; exact hd
  · rw [e] at hc
    rcases List.mem_append.1 hc with w | w
    · exact h.all c w
    · rw [List.mem_singleton.1 w]; exact in36 i hi
def cand (k j : Nat) : Str := one (ch26 (k % 26)) ++ one (ch36 (j % 36)) ++ one (ch36 (k % 36))
theorem cand_nms (k j : Nat) : Nms 8 (cand k j) := by
  have h := nms_app (nms_app (nms_one (i := k % 26) (Nat.mod_lt _ (by decide))) (i := j % 36) (Nat.mod_lt _ (by decide))) (i := k % 36) (Nat.mod_lt _ (by decide))
  exact ⟨h.pos, Nat.le_trans h.le (by decide), h.hd, h.all⟩
theorem cand_inj {k i j : Nat} (hi : i < 36) (hj : j < 36) (h : cand k i = cand k j) : i = j := by
  have e : ∀ x, (cand k x).cps.toList = [ch26 (k % 26), ch36 (x % 36), ch36 (k % 36)] := fun x => by
    show (((#[ch26 (k % 26)] : Array Nat) ++ #[ch36 (x % 36)]) ++ #[ch36 (k % 36)]).toList = _
    rw [Array.toList_append, Array.toList_append]; rfl
  have h2 := e i
  rw [h, e j] at h2
  rw [Nat.mod_eq_of_lt hi, Nat.mod_eq_of_lt hj] at h2
  have h3 := (List.cons.inj (List.cons.inj h2).2).1
  exact (ch36_inj j hj i hi h3).symm
theorem pigeon : ∀ {l m : List Str}, l.Nodup → (∀ x ∈ l, x ∈ m) → l.length ≤ m.length
  | [], _, _, _ => Nat.zero_le _
  | x :: l, m, hn, hm => by
    have hx := hm x List.mem_cons_self
    have h := pigeon (l := l) (m := m.erase x) (List.nodup_cons.1 hn).2 fun y hy => by
      have hne : y ≠ x := fun e => (List.nodup_cons.1 hn).1 (e ▸ hy)
      exact (List.mem_erase_of_ne hne).2 (hm y (List.mem_cons_of_mem _ hy))
    rw [List.length_erase_of_mem hx] at h
    have := List.length_pos_of_mem hx
    rw [List.length_cons]; omega
theorem cand_out {k m : Nat} {f : List Str} (hk : f.length < m) (hm : m ≤ 36) : ∃ j, j < m ∧ cand k j ∉ f := by
  apply Classical.byContradiction
  intro hc
  have hin : ∀ j, j < m → cand k j ∈ f := fun j hj => Classical.byContradiction fun h => hc ⟨j, hj, h⟩
  have hn : ((List.range m).map (cand k)).Nodup := by
    refine List.pairwise_map.2 ((List.pairwise_lt_range (n := m)).imp_of_mem fun {a b} ha hb hab he => ?_)
    have := cand_inj (by have := List.mem_range.1 ha; omega) (by have := List.mem_range.1 hb; omega) he
    omega
  have := pigeon hn fun x hx => by
    obtain ⟨j, hj, rfl⟩ := List.mem_map.1 hx
    exact hin j (List.mem_range.1 hj)
  rw [List.length_map, List.length_range] at this
  omega
theorem nin_f (s : Str) (f : List Str) : cmpD .nin (.str s) (.lst (f.map .str)) = some (!decide (s ∈ f)) := by
  show ((if flatD (.str s) = true ∧ (f.map D.str).all flatD = true then some ((f.map D.str).any fun y => eqD y (.str s)) else none).map (!·)) = _
  rw [if_pos ⟨rfl, by rw [List.all_map]; exact List.all_eq_true.2 fun _ _ => rfl⟩, List.any_map]
  show some (!(f.any fun y => decide (y = s))) = _
  congr 2
  rw [Bool.eq_iff_iff, List.any_eq_true, decide_eq_true_iff]
  exact ⟨fun ⟨x, hx, e⟩ => of_decide_eq_true e ▸ hx, fun h => ⟨s, h, decide_eq_true rfl⟩⟩

set_option linter.all false
set_option maxRecDepth 100000
set_option maxHeartbeats 4000000
open PySem PySem.Spec PyProof.Rows L2

section
variable {S : Src} (h : Has S 8 true 5 2 bTake) {n : Nat} (hn : 2 ≤ n)
include h hn
theorem names1X {m : Int} {base : D} {f : OC} {t6 t8 : SD} {o : OC} {s : Str} (po : Pool o) (hs : Nms 1 s) {q : Int} (q0 : 0 ≤ q) (q1 : q ≤ 7) :
    ∃ o2 s2 t9, sLoop S.CF (S.run n) [8] bN1 (rngL q.toNat) [.own false o, .val (.int m), .val (.str z26), .val (.str (z26 ++ z10)), .val base, .own true f, t6, .val (.str s), t8] = .nx [.own false o2, .val (.int m), .val (.str z26), .val (.str (z26 ++ z10)), .val base, .own true f, t6, .val (.str s2), t9] ∧ Pool o2 ∧ Nms 8 s2 := by
  obtain ⟨S', e, o2, s2, t9, rfl, p2, h2⟩ := loop_nx (CF := S.CF) (Φ := S.run n) (ts := [8]) (b := bN1) (fun i S' => ∃ o s t8, S' = [.own false o, .val (.int m), .val (.str z26), .val (.str (z26 ++ z10)), .val base, .own true f, t6, .val (.str s), t8] ∧ Pool o ∧ Nms (1 + i) s) (rngL q.toNat) 0 _ ⟨o, s, t8, rfl, po, hs⟩ fun j x S' hx ⟨o, s, t8, eS, po, hl⟩ => by
    subst eS
    obtain ⟨ex, hj⟩ := rngL_get hx
    obtain ⟨d2, o2, e3, p2, a2, b2⟩ := take_to h hn po (m := 36) (by decide) (by decide)
    have ec := idx_36 a2 b2
    have ea : binD .add (.str s) (.str (one (ch36 d2.toNat))) = some (.str (s ++ one (ch36 d2.toNat))) := add_str (by have := hl.le; have : (one (ch36 d2.toNat)).length = 1 := rfl; omega)
    rw [sBody_some _ _ (bindT_1 8 x _), bN1]
    simp! [e3, ofFO_ret, ec, ea]
    exact ⟨_, .inl rfl, _, _, _, rfl, p2, by have := nms_app hl (i := d2.toNat) (by omega); rwa [show 1 + (0 + j) + 1 = 1 + (0 + j + 1) by omega] at this⟩
  refine ⟨o2, s2, t9, e, p2, ?_⟩
  rw [rngL_len] at h2
  exact ⟨h2.pos, by have := h2.le; omega, h2.hd, h2.all⟩
theorem names2X {m : Int} (m0 : 0 ≤ m) (m1 : m ≤ 36) {base : D} {f : List Str} {t8 : SD} {o : OC} {s : Str} {k : Nat} (hk : (f.length : Int) < m) (hs : Nms 8 s) :
    ∃ s2 t9, sLoop S.CF (S.run n) [8] bN2 (rngL (m + 1).toNat) [.own false o, .val (.int m), .val (.str z26), .val (.str (z26 ++ z10)), .val base, .own true (.lst (f.map .str)), .val (.int (k : Int)), .val (.str s), t8] = .nx [.own false o, .val (.int m), .val (.str z26), .val (.str (z26 ++ z10)), .val base, .own true (.lst (f.map .str)), .val (.int (k : Int)), .val (.str s2), t9] ∧ Nms 8 s2 ∧ s2 ∉ f := by
  obtain ⟨q, hq⟩ : ∃ q : Int, q = (k : Int) := ⟨_, rfl⟩
  rw [← hq]
  obtain ⟨S', e, h2⟩ := loop_bk (CF := S.CF) (Φ := S.run n) (ts := [8]) (b := bN2) (fun i S' => ∃ s t8, S' = [.own false o, .val (.int m), .val (.str z26), .val (.str (z26 ++ z10)), .val base, .own true (.lst (f.map .str)), .val (.int q), .val (.str s), t8] ∧ Nms 8 s ∧ (∀ i', i = i' + 1 → s = cand k i') ∧ ∀ j, j + 1 < i → cand k j ∈ f)
    (fun S' => ∃ s t8, S' = [.own false o, .val (.int m), .val (.str z26), .val (.str (z26 ++ z10)), .val base, .own true (.lst (f.map .str)), .val (.int q), .val (.str s), t8] ∧ Nms 8 s ∧ s ∉ f) (rngL (m + 1).toNat) 0 _ ⟨s, t8, rfl, hs, fun i' z => (nomatch z), fun j z => absurd z (by omega)⟩ fun j x S' hx ⟨s, t8, eS, hs, h1, h2⟩ => by
    subst eS
    obtain ⟨ex, hj⟩ := rngL_get hx
    subst ex
    rw [Nat.zero_add] at h1 h2 ⊢
    have eb := nin_f s f
    obtain ⟨j', hj'⟩ : ∃ j' : Int, j' = (j : Int) := ⟨_, rfl⟩
    rw [← hj', sBody_some _ _ (bindT_1 8 _ _), bN2]
    by_cases b : s ∈ f
    · have ec1 := idx_26 (i := q % 26) (Int.emod_nonneg _ (by decide)) (Int.emod_lt_of_pos _ (by decide))
      have ec2 := idx_36 (i := j' % 36) (Int.emod_nonneg _ (by decide)) (Int.emod_lt_of_pos _ (by decide))
      have ec3 := idx_36 (i := q % 36) (Int.emod_nonneg _ (by decide)) (Int.emod_lt_of_pos _ (by decide))
      have n1 : (q % 26).toNat = k % 26 := by omega
      have n2 : (j' % 36).toNat = j % 36 := by omega
      have n3 : (q % 36).toNat = k % 36 := by omega
      rw [n1] at ec1
      rw [n2] at ec2
      rw [n3] at ec3
      have a1 : binD .add (.str (one (ch26 (k % 26)))) (.str (one (ch36 (j % 36)))) = some (.str (one (ch26 (k % 26)) ++ one (ch36 (j % 36)))) := add_str (by show 1 + 1 ≤ 100000; omega)
      have a2 : binD .add (.str (one (ch26 (k % 26)) ++ one (ch36 (j % 36)))) (.str (one (ch36 (k % 36)))) = some (.str (cand k j)) := add_str (by rw [len_app]; show 1 + 1 + 1 ≤ 100000; omega)
      simp! [eb, b, Bool.not_true, bin_mod (j := 26) (by decide), bin_mod (j := 36) (by decide), ec1, ec2, ec3, a1, a2]
      refine ⟨_, .inl ⟨rfl, _, _, rfl, cand_nms k j, fun i' z => by rw [Nat.succ.inj z], fun i hi => ?_⟩⟩
      by_cases z : i + 1 < j
      · exact h2 i z
      · have : j = i + 1 := by omega
        rw [← h1 i this]; exact b
    · simp! [eb, b, Bool.not_false]
      exact ⟨_, .inr ⟨rfl, _, _, rfl, hs, b⟩⟩
  rcases h2 with ⟨s2, t9, rfl, h3, h4, h5⟩ | ⟨s2, t9, rfl, h3, h4⟩
  · exfalso
    rw [Nat.zero_add, rngL_len] at h5
    obtain ⟨j, hj, hc⟩ := cand_out (k := k) (m := m.toNat) (f := f) (by omega) (by omega)
    exact hc (h5 j (by omega))
  · exact ⟨s2, t9, e, h3, h4⟩
end
def NamX (m : Int) (base : Nat) (i : Nat) (S' : List SD) : Prop := ∃ (o : OC) (f : List Str) (t6 t7 t8 : SD), S' = [.own false o, .val (.int m), .val (.str z26), .val (.str (z26 ++ z10)), .val (.str (one (ch26 base))), .own true (.lst (f.map .str)), t6, t7, t8] ∧ Pool o ∧ (∀ s ∈ f, Nms 8 s) ∧ f.Nodup ∧ f.length = i
theorem names_stepX {S : Src} (h : Has S 8 true 5 2 bTake) {n : Nat} (hn : 2 ≤ n) {m : Int} (m0 : 0 ≤ m) (m1 : m ≤ 36) {base : Nat} (hb : base < 26) {j : Nat} (hj : (j : Int) < m) {S' : List SD} {x : D} (hx : x = .int (j : Int)) (I : NamX m base j S') : ∃ S2, sBody S.CF (S.run n) [6] bNB x S' = .nx S2 ∧ NamX m base (j + 1) S2 := by
  obtain ⟨o, f, t6, t7, t8, rfl, po, hf, hnd, hl⟩ := I
  subst hx
  obtain ⟨d1, o1, e1, p1, a1, b1⟩ := take_to h hn po (m := 26) (by decide) (by decide)
  have ec := idx_26 a1 b1
  obtain ⟨d2, o2, e2, p2, a2, b2⟩ := take_to h hn p1 (m := 2) (by decide) (by decide)
  obtain ⟨x, ex, hx⟩ := idx_t2 (a := .str (one (ch26 d1.toNat))) (b := .str (one (ch26 base))) a2 b2
  obtain ⟨s, rfl, hs⟩ : ∃ s : Str, x = .str s ∧ Nms 1 s := by
    rcases hx with rfl | rfl
    · exact ⟨_, rfl, nms_one (by omega)⟩
    · exact ⟨_, rfl, nms_one hb⟩
  obtain ⟨d3, o3, e3, p3, a3, b3⟩ := take_to h hn p2 (m := 5) (by decide) (by decide)
  obtain ⟨y, ey, hy⟩ := idx_tup (xs := [.int 0, .int 0, .int 1, .int 2, .int 7]) a3 (by simpa using b3)
  obtain ⟨q, rfl, q0, q1⟩ : ∃ q : Int, y = .int q ∧ 0 ≤ q ∧ q ≤ 7 := by
    simp only [List.mem_cons, List.not_mem_nil, or_false] at hy
    rcases hy with rfl | rfl | rfl | rfl | rfl <;> exact ⟨_, rfl, by omega, by omega⟩
  obtain ⟨o4, s4, t9, e4, p4, h4⟩ := names1X h hn (m := m) (base := .str (one (ch26 base))) (f := .lst (f.map .str)) (t6 := .val (.int (j : Int))) (t8 := t8) p3 hs q0 q1
  obtain ⟨s5, t10, e5, h5, n5⟩ := names2X h hn m0 m1 (base := .str (one (ch26 base))) (f := f) (t8 := t9) (o := o4) (k := j) (by omega) h4
  have cf : (f.map D.str).length < cap := lt_cap (by rw [List.length_map]; omega)
  rw [sBody_some _ _ (bindT_1 6 _ _), bNB]
  simp! [e1, e2, e3, ofFO_ret, ec, ex, ey, rng_int q0 (show q < 1000000000 by omega), e4, rng_int (i := m + 1) (by omega) (by omega), e5, if_pos cf]
  refine ⟨_, rfl, o4, f ++ [s5], _, _, _, by rw [List.map_append]; rfl, p4, fun d hd => ?_, ?_, by simp; omega⟩
  · rcases List.mem_append.mp hd with z | z
    · exact hf d z
    · rw [List.mem_singleton] at z
      rw [z]; exact h5
  · exact List.nodup_append.2 ⟨hnd, by simp, fun a ha b hb => by
      rw [List.mem_singleton.1 hb]
      exact fun z => n5 (z ▸ ha)⟩
/-- _law_names, exactly -/
theorem names_specX {S : Src} (h : Has S 8 true 5 2 bTake) (h15 : Has S 15 true 9 2 bNames) {n : Nat} (hn : 3 ≤ n) {o : OC} (hp : Pool o) {m : Int} (m0 : 0 ≤ m) (m1 : m ≤ 36) :
    ∃ (f : List Str) (o' : OC), S.run n 15 (some o) [.int m] = .ret (.lst (f.map .str)) (some o') ∧ Pool o' ∧ (∀ s ∈ f, Nms 8 s) ∧ f.Nodup ∧ f.length = m.toNat := by
  obtain ⟨n, rfl⟩ : ∃ k, n = k + 1 := ⟨n - 1, by omega⟩
  rw [h15.run n _ _ rfl rfl]
  simp only [startS, bNames, List.map, List.replicate, List.cons_append, List.nil_append, List.length]
  obtain ⟨d1, o1, e1, p1, a1, b1⟩ := take_to h (n := n) (by omega) hp (m := 26) (by decide) (by decide)
  have ec := idx_26 a1 b1
  simp! [add_z, e1, ofFO_ret, ec, rng_int m0 (show m < 1000000000 by omega)]
  obtain ⟨S', e, o2, f, t6, t7, t8, rfl, p2, h2, h4, h3⟩ := loop_nx (CF := S.CF) (Φ := S.run n) (ts := [6]) (b := bNB) (NamX m d1.toNat) (rngL m.toNat) 0 [.own false o1, .val (.int m), .val (.str z26), .val (.str (z26 ++ z10)), .val (.str (one (ch26 d1.toNat))), .own true (.lst []), .un, .un, .un] ⟨o1, [], .un, .un, .un, rfl, p1, fun _ z => (nomatch z), List.nodup_nil, rfl⟩ fun j x S' hx I => by
    obtain ⟨ex, hj⟩ := rngL_get hx
    rw [Nat.zero_add] at I ⊢
    obtain ⟨S2, e, I2⟩ := names_stepX h (n := n) (by omega) m0 m1 (by omega) (by omega) ex I
    exact ⟨S2, .inl e, I2⟩
  simp! [e]
  exact ⟨_, _, rfl, p2, h2, h4, by rw [h3, rngL_len]; omega⟩

set_option linter.all false
set_option maxRecDepth 100000
set_option maxHeartbeats 4000000
open PySem PySem.Spec PyProof.Rows L2

/-! ### some of the rows, exactly: each once -/
theorem erase_perm {α : Type} : ∀ (l : List α) (i : Nat) (h : i < l.length), (l[i] :: l.eraseIdx i).Perm l
  | a :: l, 0, _ => .refl _
  | a :: l, i + 1, h => by
    have ih := erase_perm l i (by simpa using h)
    rw [List.getElem_cons_succ, List.eraseIdx_cons_succ]
    exact (List.Perm.swap _ _ _).trans (.cons a ih)
def SomeX (xs : List D) (k : Int) (i : Nat) (S' : List SD) : Prop := ∃ (l f : List D) (o : OC) (t : SD), S' = [.own false o, .val (.lst xs), .val (.int k), .own true (.lst l), .own true (.lst f), t] ∧ Pool o ∧ (f ++ l).Perm xs ∧ l.length + i = xs.length ∧ f.length = i
theorem some_stepX {S : Src} (h : Has S 8 true 5 2 bTake) {n : Nat} (hn : 2 ≤ n) {xs : List D} (hl : xs.length ≤ 50000) {k : Int} {j : Nat} (hj : j < xs.length) {x : D} {S' : List SD} (I : SomeX xs k j S') : ∃ S2, sBody S.CF (S.run n) [5] bSomeB x S' = .nx S2 ∧ SomeX xs k (j + 1) S2 := by
  obtain ⟨l, f, o, t, rfl, po, hp, e1, e2⟩ := I
  obtain ⟨d2, o2, e3, p2, a2, b2⟩ := take_to h (n := n) hn po (m := (l.length : Int)) (by omega) (by omega)
  have lt : d2.toNat < l.length := by omega
  have c1 : -(2 ^ 63) ≤ d2 ∧ d2 < 2 ^ 63 := by omega
  have c2 : f.length < cap := lt_cap (by omega)
  rw [sBody_some _ _ (bindT_1 5 x _), bSomeB]
  simp! [e3, ofFO_ret, seqIx a2 b2, List.getElem?_eq_getElem lt, if_pos c1, if_pos c2]
  refine ⟨_, rfl, _, _, _, _, rfl, p2, ?_, by rw [List.length_eraseIdx_of_lt lt]; omega, by simp; omega⟩
  rw [List.append_assoc]
  exact ((erase_perm l _ lt).append_left f).trans hp
theorem some_specX {S : Src} (h : Has S 8 true 5 2 bTake) (hs : Has S 14 true 6 3 bSome) {n : Nat} (hn : 3 ≤ n) {o : OC} (hp : Pool o) {xs : List D} (hl : xs.length ≤ 50000) {k : Int} (h0 : 0 ≤ k) :
    ∃ ds ls o', S.run n 14 (some o) [.lst xs, .int k] = .ret (.lst ds) (some o') ∧ Pool o' ∧ (ds ++ ls).Perm xs ∧ ds.length = min k.toNat xs.length := by
  obtain ⟨n, rfl⟩ : ∃ k, n = k + 1 := ⟨n - 1, by omega⟩
  rw [hs.run n _ _ rfl rfl]
  simp only [startS, bSome, List.map, List.replicate, List.cons_append, List.nil_append, List.length]
  obtain ⟨q, hq⟩ : ∃ q : Int, q = if (xs.length : Int) < k then (xs.length : Int) else k := ⟨_, rfl⟩
  have hm : biD .min2 [.int k, .int (xs.length : Int)] = some (.int q) := by rw [min2_i, hq]
  have q0 : 0 ≤ q := by rw [hq]; split <;> omega
  have eq : q.toNat = min k.toNat xs.length := by rw [hq]; split <;> omega
  simp! [lst_lst, len_lst, hm, rng_int q0 (by omega)]
  obtain ⟨S', e, l, f, o2, t, eS, p2, hf1, hf2, hf3⟩ := loop_nx (CF := S.CF) (Φ := S.run n) (ts := [5]) (b := bSomeB) (SomeX xs k) (rngL q.toNat) 0 _ ⟨xs, [], o, .un, rfl, hp, .refl _, rfl, rfl⟩ fun j x S' hx I => by
    obtain ⟨ex, hj⟩ := rngL_get hx
    rw [Nat.zero_add] at I ⊢
    obtain ⟨S2, e, I2⟩ := some_stepX h (n := n) (by omega) hl (by omega) I
    exact ⟨S2, .inl e, I2⟩
  simp! [e]
  subst eS
  simp! [bindT_1]
  exact ⟨_, l, _, rfl, p2, hf1, by rw [hf3, rngL_len]; omega⟩
/-- all rows, in another order -/
theorem some_all {S : Src} (h : Has S 8 true 5 2 bTake) (hs : Has S 14 true 6 3 bSome) {n : Nat} (hn : 3 ≤ n) {o : OC} (hp : Pool o) {xs : List D} (hl : xs.length ≤ 50000) :
    ∃ ds o', S.run n 14 (some o) [.lst xs, .int (xs.length : Int)] = .ret (.lst ds) (some o') ∧ Pool o' ∧ ds.Perm xs := by
  obtain ⟨ds, ls, o', e, p, hp2, hl2⟩ := some_specX h hs hn hp hl (k := (xs.length : Int)) (by omega)
  refine ⟨ds, o', e, p, ?_⟩
  have := hp2.length_eq
  rw [List.length_append] at this
  have z : ls = [] := List.eq_nil_of_length_eq_zero (by omega)
  rw [z, List.append_nil] at hp2
  exact hp2

set_option linter.all false
set_option maxRecDepth 100000
set_option maxHeartbeats 4000000
open PySem PySem.Spec PyProof.Rows L2

/-! ### gaps, exactly: their sum is what is free -/
theorem sum_set : ∀ (l : List Int) (i : Nat) (v : Int), l[i]? = some 0 → (l.set i v).sum = l.sum + v
  | [], _, _, h => by cases h
  | a :: l, 0, v, h => by
    have : a = 0 := by simpa using h
    rw [List.set_cons_zero, List.sum_cons, List.sum_cons, this]; omega
  | a :: l, i + 1, v, h => by
    rw [List.set_cons_succ, List.sum_cons, List.sum_cons, sum_set l i v (by simpa using h)]; omega
theorem sum_add : ∀ (l : List Int) (i : Nat) (v w : Int), l[i]? = some w → (l.set i (w + v)).sum = l.sum + v
  | [], _, _, _, h => by cases h
  | a :: l, 0, v, w, h => by
    have : a = w := by simpa using h
    rw [List.set_cons_zero, List.sum_cons, List.sum_cons, this]; omega
  | a :: l, i + 1, v, w, h => by
    rw [List.set_cons_succ, List.sum_cons, List.sum_cons, sum_add l i v w (by simpa using h)]; omega
def ParX (ks : List D) (fr m kd : Int) (i : Nat) (S' : List SD) : Prop := ∃ (o : OC) (g : List Int) (lf : Int) (t6 t7 t8 t9 : SD), S' = [.own false o, .val (.int fr), .val (.int m), .own true (.lst (g.map .int)), .val (.int kd), .val (.int lf), t6, t7, t8, t9] ∧ isVal (some t6) = true ∧ Pool o ∧ (∀ x ∈ g, 0 ≤ x) ∧ g.length = (m + 1).toNat ∧ 0 ≤ lf ∧ g.sum + lf = fr ∧ ∀ j p, i ≤ j → ks[j]? = some (.int p) → g[p.toNat]? = some 0
theorem parted_stepX {S : Src} (h : Has S 8 true 5 2 bTake) (h9 : Has S 9 true 5 2 bFar) {n : Nat} (hn : 3 ≤ n) {ks : List D} (nd : ks.Nodup) (hk : ∀ d ∈ ks, ∃ i : Int, d = .int i ∧ 0 ≤ i) {fr m kd : Int} (m0 : 0 ≤ m) {j : Nat} {x : D} (hxj : ks[j]? = some x) (hx : ∃ i : Int, x = .int i ∧ 0 ≤ i ∧ i < (m + 1).toNat) {S' : List SD} (I : ParX ks fr m kd j S') : ∃ S2, sBody S.CF (S.run n) [6] bP1 x S' = .nx S2 ∧ ParX ks fr m kd (j + 1) S2 := by
  obtain ⟨o, g, lf, t6, t7, t8, t9, rfl, _, po, hg, hl, l0, hs, hz⟩ := I
  obtain ⟨i, rfl, i0, i1⟩ := hx
  have z0 := hz j i (Nat.le_refl _) hxj
  have fin : ∀ (o2 : OC) (p : Int), Pool o2 → 0 ≤ p → p ≤ lf → ParX ks fr m kd (j + 1) [.own false o2, .val (.int fr), .val (.int m), .own true (.lst ((g.map D.int).set i.toNat (.int p))), .val (.int kd), .val (.int (lf - p)), .val (.int i), .val (.int p), t8, t9] := fun o2 p p2 p0 p1 =>
    ⟨_, g.set i.toNat p, _, _, _, _, _, by rw [List.map_set], rfl, p2, fun d hd => by
      rcases List.mem_or_eq_of_mem_set hd with z | z
      · exact hg d z
      · rw [z]; exact p0, by rw [List.length_set]; exact hl, by omega, by rw [sum_set g _ p z0]; omega, fun j2 p2 hj2 h2 => by
      obtain ⟨p3, e3, p30⟩ := hk _ (List.mem_of_getElem? h2)
      cases e3
      have ne : i.toNat ≠ p2.toNat := fun e => by
        have e4 : i = p2 := by omega
        subst e4
        obtain ⟨b1, c1⟩ := List.getElem?_eq_some_iff.1 hxj
        obtain ⟨b2, c2⟩ := List.getElem?_eq_some_iff.1 h2
        exact (List.pairwise_iff_getElem.1 nd) j j2 b1 b2 (by omega) (c1.trans c2.symm)
      rw [List.getElem?_set_ne ne]
      exact hz j2 p2 (by omega) h2⟩
  have ei : ixN (g.map D.int).length i = some i.toNat := ixN_in i0 (by rw [List.length_map]; omega)
  rw [sBody_some _ _ (bindT_1 6 _ _), bP1]
  by_cases k1 : kd = 1
  · obtain ⟨d1, o1, e1, p1, a1, b1⟩ := far_spec h h9 hn po (m := lf + 1) (by omega)
    simp! [cmp_eqI, k1, e1, ofFO_ret, ei]
    exact ⟨_, rfl, k1 ▸ fin o1 d1 p1 a1 (by omega)⟩
  · by_cases k2 : kd = 2
    · obtain ⟨d1, o1, e1, p1, a1, b1⟩ := take_to h (n := n) (by omega) po (m := 3) (by decide) (by decide)
      obtain ⟨q, hq⟩ : ∃ q : Int, q = if 1 + d1 < lf then 1 + d1 else lf := ⟨_, rfl⟩
      have hm : biD .min2 [.int lf, .int (1 + d1)] = some (.int q) := by rw [min2_i, hq]
      have q0 : 0 ≤ q ∧ q ≤ lf := by rw [hq]; split <;> omega
      obtain ⟨d2, o2, e2, p2, a2, b2⟩ := far_spec h h9 hn p1 (m := lf + 1) (by omega)
      obtain ⟨d3, o3, e3, p3, a3, b3⟩ := take_to h (n := n) (by omega) p2 (m := 3) (by decide) (by decide)
      obtain ⟨y, ey, hy⟩ := idx_tup (xs := [.int 0, .int q, .int d2]) a3 (by simpa using b3)
      obtain ⟨r, rfl, r0, r1⟩ : ∃ r : Int, y = .int r ∧ 0 ≤ r ∧ r ≤ lf := by
        simp only [List.mem_cons, List.not_mem_nil, or_false] at hy
        rcases hy with rfl | rfl | rfl <;> exact ⟨_, rfl, by omega, by omega⟩
      subst k2
      simp! [cmp_eqI, k1, e1, ofFO_ret, hm, e2, e3, ey, ei]
      exact ⟨_, rfl, fin o3 r p3 r0 r1⟩
    · simp! [cmp_eqI, k1, k2, ei]
      have := fin o 0 po (by omega) l0
      exact ⟨_, rfl, this⟩
theorem sum_rep0 (n : Nat) : (List.replicate n (0 : Int)).sum = 0 := by
  induction n with
  | zero => rfl
  | succ n ih => rw [List.replicate_succ, List.sum_cons, ih]; rfl
theorem rngL_nodup (n : Nat) : (rngL n).Nodup := by
  unfold rngL
  refine List.pairwise_map.2 (List.nodup_range.imp ?_)
  intro a b h e
  have : (0 + (a : Int)) = 0 + (b : Int) := D.int.inj e
  exact h (by omega)
/-- _law_parted, exactly -/
theorem parted_specX {S : Src} (h : Has S 8 true 5 2 bTake) (h9 : Has S 9 true 5 2 bFar) (h14 : Has S 14 true 6 3 bSome) (h16 : Has S 16 true 10 3 bParted) {n : Nat} (hn : 4 ≤ n) {o : OC} (hp : Pool o) {fr m : Int} (f0 : 0 ≤ fr) (m0 : 0 ≤ m) (m1 : m ≤ 1000) :
    ∃ (gs : List Int) (o' : OC), S.run n 16 (some o) [.int fr, .int m] = .ret (.lst (gs.map .int)) (some o') ∧ Pool o' ∧ (∀ x ∈ gs, 0 ≤ x) ∧ gs.length = (m + 1).toNat ∧ gs.sum = fr := by
  obtain ⟨n, rfl⟩ : ∃ k, n = k + 1 := ⟨n - 1, by omega⟩
  rw [h16.run n _ _ rfl rfl]
  simp only [startS, bParted, List.map, List.replicate, List.cons_append, List.nil_append, List.length]
  obtain ⟨kd, o1, e1, p1, a1, b1⟩ := take_to h (n := n) (by omega) hp (m := 3) (by decide) (by decide)
  obtain ⟨ks, ls, o2, e2, p2, kp, _⟩ := some_specX h h14 (n := n) (by omega) p1 (xs := rngL (m + 1).toNat) (by rw [rngL_len]; omega) (k := m) m0
  have k2 : ∀ d ∈ ks, d ∈ rngL (m + 1).toNat := fun d hd => kp.mem_iff.1 (List.mem_append_left _ hd)
  have nd : ks.Nodup := (List.nodup_append.1 (kp.nodup_iff.2 (rngL_nodup _))).1
  simp! [rep_0 (show 0 ≤ m + 1 by omega) (show m + 1 ≤ 1001 by omega), e1, ofFO_ret, lrg_ok (show 0 ≤ m + 1 by omega) (show m + 1 ≤ 1001 by omega), e2]
  obtain ⟨S', e3, o3, g, lf, t6, t7, t8, t9, rfl, v6, p3, hg, hl, l0, hsum, _⟩ := loop_nx (CF := S.CF) (Φ := S.run n) (ts := [6]) (b := bP1) (ParX ks fr m kd) ks 0 [.own false o2, .val (.int fr), .val (.int m), .own true (.lst (List.replicate (m + 1).toNat (.int 0))), .val (.int kd), .val (.int fr), .un, .un, .un, .un] ⟨o2, List.replicate (m + 1).toNat 0, fr, .un, .un, .un, .un, by rw [List.map_replicate], rfl, p2, fun d hd => by rw [(List.mem_replicate.mp hd).2]; omega, by rw [List.length_replicate], f0, by rw [sum_rep0]; omega, fun j p _ hj => by
      obtain ⟨i, e, i0, i1⟩ := rngL_mem (k2 _ (List.mem_of_getElem? hj))
      cases e
      rw [List.getElem?_replicate, if_pos (by omega)]⟩ fun j x S' hx I => by
    rw [Nat.zero_add] at I ⊢
    obtain ⟨S2, e, I2⟩ := parted_stepX h h9 (n := n) (by omega) nd (fun d hd => by obtain ⟨i, e, i0, _⟩ := rngL_mem (k2 d hd); exact ⟨i, e, i0⟩) m0 hx (rngL_mem (k2 x (List.mem_of_getElem? hx))) I
    exact ⟨S2, .inl e, I2⟩
  have hgN : ∀ d ∈ g.map D.int, Nn d := fun d hd => by obtain ⟨v, hv, rfl⟩ := List.mem_map.1 hd; exact ⟨v, rfl, hg v hv⟩
  have hlM : (g.map D.int).length = (m + 1).toNat := by rw [List.length_map]; exact hl
  simp! [e3, rng_int (show 0 ≤ m + 1 by omega) (show m + 1 < 1000000000 by omega), List.all_cons, List.all_nil, v6, Bool.and_self, wipeS]
  have ok : ∀ d : D, (∃ i : Int, d = .int i ∧ 0 ≤ i ∧ i < (m + 1).toNat) → ∃ w : Bool, cBody S.CF (S.run n) [6] [6] (.cmp .eq (.idxO 3 (.var 6)) (.int 0)) (.var 6) d [.own false o3, .val (.int fr), .val (.int m), .own true (.lst (g.map .int)), .val (.int kd), .val (.int lf), .un, t7, t8, t9] = .ok (if w = true then some d else none) [.own false o3, .val (.int fr), .val (.int m), .own true (.lst (g.map .int)), .val (.int kd), .val (.int lf), .un, t7, t8, t9] := by
    rintro d ⟨i, rfl, i0, i1⟩
    obtain ⟨v, ev, _⟩ := idx_nn hgN i0 (by omega)
    rw [cBody_some _ _ _ _ (bindT_1 6 _ _)]
    by_cases z : v = 0
    · refine ⟨true, ?_⟩
      simp! [ev, cmp_eqI, z, cBody2_t, cBody3_ok, wipeS]
    · refine ⟨false, ?_⟩
      simp! [ev, cmp_eqI, z, cBody2_f, wipeS]
      rfl
  obtain ⟨es, S', e4, rfl, he, hle⟩ := loopC_all (f := cBody S.CF (S.run n) [6] [6] (.cmp .eq (.idxO 3 (.var 6)) (.int 0)) (.var 6)) (fun i acc S' => S' = [.own false o3, .val (.int fr), .val (.int m), .own true (.lst (g.map .int)), .val (.int kd), .val (.int lf), .un, t7, t8, t9] ∧ (∀ d ∈ acc, ∃ i : Int, d = .int i ∧ 0 ≤ i ∧ i < (m + 1).toNat) ∧ acc.length ≤ i)
    (rngL (m + 1).toNat) 0 [] _ ⟨rfl, fun _ z => (nomatch z), Nat.le_refl _⟩ fun j x acc S' hx ⟨eS, ha, hla⟩ => by
      subst eS
      have hm := rngL_mem (List.mem_of_getElem? hx)
      obtain ⟨w, ew⟩ := ok x hm
      refine ⟨_, _, ew, rfl, fun d hd => ?_, ?_⟩
      · rcases List.mem_append.mp hd with z | z
        · exact ha d z
        · cases w with
          | true =>
            have : d = x := by simpa using z
            rw [this]; exact hm
          | false => simp at z
      · cases w <;> simp <;> omega
  have hz : es.length < cap := lt_cap (by rw [rngL_len] at hle; simp at hle; omega)
  have he' : ∀ d ∈ es, ∃ i : Int, d = .int i ∧ 0 ≤ i ∧ i < (m + 1).toNat := fun d hd => he d (by simpa using hd)
  have fin : ∀ (at_ : Int) (A0 : 0 ≤ at_) (A1 : at_ < (m + 1).toNat), ∃ v : Int, idxD (.lst (g.map .int)) (.int at_) = some (.int v) ∧ ixN (g.map D.int).length at_ = some at_.toNat ∧ ∃ g2 : List Int, (g.map D.int).set at_.toNat (.int (v + lf)) = g2.map .int ∧ (∀ x ∈ g2, 0 ≤ x) ∧ g2.length = (m + 1).toNat ∧ g2.sum = fr := fun at_ A0 A1 => by
    have lt : at_.toNat < g.length := by omega
    have ge := List.getElem?_eq_getElem lt
    refine ⟨g[at_.toNat], ?_, ixN_in A0 (by omega), g.set at_.toNat (g[at_.toNat] + lf), by rw [List.map_set], fun d hd => ?_, by rw [List.length_set]; exact hl, by rw [sum_add g _ lf _ ge]; exact hsum⟩
    · show atI (g.map D.int) at_ = _
      rw [atI_get _ _ A0 (by omega), List.getElem?_map, ge]; rfl
    · rcases List.mem_or_eq_of_mem_set hd with z | z
      · exact hg d z
      · rw [z]
        have := hg _ (List.getElem_mem lt)
        omega
  simp! [e4, cEnd_ok, if_pos hz, backS]
  cases es with
  | nil =>
    obtain ⟨v, ev, eix, g2, eg, r1, r2, r3⟩ := fin 0 (by omega) (by omega)
    simp! [List.isEmpty_nil, Bool.not_true, ev, eix]
    exact ⟨g2, _, by rw [← eg], p3, r1, r2, r3⟩
  | cons a es =>
    obtain ⟨d5, o5, e5, p5, a5, b5⟩ := take_to h (n := n) (by omega) p3 (m := ((a :: es).length : Int)) (by simp <;> omega) (by have := hz; simp [cap] at this; simp; omega)
    obtain ⟨x, ex, hx⟩ := atI_ex (a :: es) d5 a5 b5
    obtain ⟨i, rfl, i0, i1⟩ := he' x hx
    have ei : idxD (.lst (a :: es)) (.int d5) = some (.int i) := ex
    obtain ⟨v, ev, eix, g2, eg, r1, r2, r3⟩ := fin i i0 i1
    have e5' : S.run n 8 (some o3) [.int ((es.length + 1 : Nat) : Int)] = .ret (.int d5) (some o5) := e5
    simp! [List.isEmpty_cons, Bool.not_false, len_lst, e5', ofFO_ret, ei, ev, eix]
    exact ⟨g2, _, by rw [← eg], p5, r1, r2, r3⟩

set_option linter.all false
set_option maxRecDepth 100000
set_option maxHeartbeats 4000000
open PySem PySem.Spec PyProof.Rows L2

/-! ### blocks placed, exactly -/
def plc : Int → List Str → List Int → List Int → List T3
  | e, n :: ns, s :: ss, g :: gs => (n, e + g, s) :: plc (e + g + s) ns ss gs
  | _, _, _, _ => []
def plcE : Int → List Str → List Int → List Int → Int
  | e, _ :: ns, s :: ss, g :: gs => plcE (e + g + s) ns ss gs
  | e, _, _, _ => e
/-- one behind the other, from e to cp -/
def Asc : Int → Int → List T3 → Prop
  | e, cp, [] => e ≤ cp
  | e, cp, t :: l => e ≤ t.2.1 ∧ Asc (t.2.1 + t.2.2) cp l
theorem plc_snoc : ∀ (ns : List Str) (ss gs : List Int) (e : Int) (n : Str) (s g : Int), ss.length = ns.length → gs.length = ns.length →
    plc e (ns ++ [n]) (ss ++ [s]) (gs ++ [g]) = plc e ns ss gs ++ [(n, plcE e ns ss gs + g, s)] ∧ plcE e (ns ++ [n]) (ss ++ [s]) (gs ++ [g]) = plcE e ns ss gs + g + s
  | [], [], [], e, n, s, g, _, _ => ⟨rfl, rfl⟩
  | n1 :: ns, s1 :: ss, g1 :: gs, e, n, s, g, h1, h2 => by
    obtain ⟨a, b⟩ := plc_snoc ns ss gs (e + g1 + s1) n s g (by simpa using h1) (by simpa using h2)
    simp only [List.cons_append, plc, plcE]
    exact ⟨by rw [a], b⟩
theorem placed_specG {S : Src} {nD : List D → D} (hnl : ∀ xs : List D, biD .len [nD xs] = some (.int xs.length)) (hni : ∀ (xs : List D) (i : Int), idxD (nD xs) (.int i) = atI xs i) (h17 : Has S 17 false 6 3 bPlaced) {n : Nat} (hn : 1 ≤ n) {ns : List Str} {ss gs : List Int} (l1 : ss.length = ns.length) (l2 : gs.length = ns.length + 1) (l3 : ns.length ≤ 1000) :
    ∃ g, gs = gs.take ns.length ++ [g] ∧ S.run n 17 none [nD (ns.map .str), .lst (ss.map .int), .lst (gs.map .int)] = .ret (.dct [kCap, kBlk] [.int (plcE 0 ns ss (gs.take ns.length) + g), .tup ((plc 0 ns ss (gs.take ns.length)).map tpD)]) none := by
  obtain ⟨n, rfl⟩ : ∃ k, n = k + 1 := ⟨n - 1, by omega⟩
  rw [h17.run n _ _ rfl rfl]
  simp only [startS, bPlaced, List.map, List.replicate, List.cons_append, List.nil_append, List.length]
  obtain ⟨q, hq⟩ : ∃ q : Int, q = (ns.length : Int) := ⟨_, rfl⟩
  have lq : biD .len [nD (ns.map .str)] = some (.int q) := by rw [hnl, List.length_map, hq]
  have hq2 : q.toNat = ns.length := by omega
  obtain ⟨S', e, t5, rfl⟩ := loop_nx (CF := S.CF) (Φ := S.run n) (ts := [5]) (b := bQ1) (fun i S' => ∃ (t5 : SD), S' = [.val (nD (ns.map .str)), .val (.lst (ss.map .int)), .val (.lst (gs.map .int)), .own true (.lst ((plc 0 (ns.take i) (ss.take i) (gs.take i)).map tpD)), .val (.int (plcE 0 (ns.take i) (ss.take i) (gs.take i))), t5]) (rngL q.toNat) 0 [.val (nD (ns.map .str)), .val (.lst (ss.map .int)), .val (.lst (gs.map .int)), .own true (.lst []), .val (.int 0), .un] ⟨.un, by simp [plc, plcE]⟩ fun j x S' hx ⟨t5, eS⟩ => by
    subst eS
    obtain ⟨ex, hj⟩ := rngL_get hx
    rw [Nat.zero_add]
    obtain ⟨i, hi⟩ : ∃ i : Int, i = (j : Int) := ⟨_, rfl⟩
    rw [← hi] at ex
    subst ex
    have hj1 : j < ns.length := by omega
    have hj2 : j < ss.length := by omega
    have hj3 : j < gs.length := by omega
    have i1 : idxD (nD (ns.map .str)) (.int i) = some (.str ns[j]) := by
      rw [hni, atI_get _ _ (by omega) (by rw [List.length_map]; omega), show i.toNat = j by omega, List.getElem?_map, List.getElem?_eq_getElem hj1]; rfl
    have i2 : idxD (.lst (ss.map .int)) (.int i) = some (.int ss[j]) := by
      show atI _ _ = _
      rw [atI_get _ _ (by omega) (by rw [List.length_map]; omega), show i.toNat = j by omega, List.getElem?_map, List.getElem?_eq_getElem hj2]; rfl
    have i3 : idxD (.lst (gs.map .int)) (.int i) = some (.int gs[j]) := by
      show atI _ _ = _
      rw [atI_get _ _ (by omega) (by rw [List.length_map]; omega), show i.toNat = j by omega, List.getElem?_map, List.getElem?_eq_getElem hj3]; rfl
    have lp : ∀ (a : List Str) (b c : List Int) (e : Int), (plc e a b c).length ≤ a.length := fun a => by
      induction a with
      | nil => intro b c e; simp [plc]
      | cons x a ih =>
        intro b c e
        cases b with
        | nil => simp [plc]
        | cons y b =>
          cases c with
          | nil => simp [plc]
          | cons z c => simp only [plc, List.length_cons]; have := ih b c (e + z + y); omega
    have cf : ((plc 0 (ns.take j) (ss.take j) (gs.take j)).map tpD).length < cap := lt_cap (by rw [List.length_map]; have := lp (ns.take j) (ss.take j) (gs.take j) 0; rw [List.length_take] at this; omega)
    obtain ⟨p1, p2⟩ := plc_snoc (ns.take j) (ss.take j) (gs.take j) 0 ns[j] ss[j] gs[j] (by rw [List.length_take, List.length_take]; omega) (by rw [List.length_take, List.length_take]; omega)
    rw [← List.take_succ_eq_append_getElem hj1, ← List.take_succ_eq_append_getElem hj2, ← List.take_succ_eq_append_getElem hj3] at p1 p2
    rw [sBody_some _ _ (bindT_1 5 _ _), bQ1]
    simp! [i1, i2, i3, if_pos cf]
    refine ⟨_, .inl rfl, .val (.int i), ?_⟩
    rw [p1, p2, List.map_append]
    rfl
  have hg : ns.length < gs.length := by omega
  have tk : gs = gs.take ns.length ++ [gs[ns.length]] := by
    rw [← List.take_succ_eq_append_getElem hg, ← l2, List.take_length]
  have il : idxD (.lst (gs.map .int)) (.int (-1)) = some (.int gs[ns.length]) := by
    show (ixN (gs.map D.int).length (-1)).bind _ = _
    unfold ixN
    rw [List.length_map, if_neg (by omega), if_pos (by omega)]
    have e : ((-1 : Int) + gs.length).toNat = ns.length := by omega
    rw [e]
    show (gs.map D.int)[ns.length]? = _
    rw [List.getElem?_map, List.getElem?_eq_getElem hg]; rfl
  refine ⟨gs[ns.length], tk, ?_⟩
  rw [Nat.zero_add, rngL_len, hq2] at e
  rw [List.take_length, show ss.take ns.length = ss by rw [← l1, List.take_length]] at e
  have rq : rngD [.int q] = some (rngL ns.length) := by rw [rng_int (show 0 ≤ q by omega) (show q < 1000000000 by omega), hq2]
  simp! [lq, rq, e, il, tup_lst]
  rfl
theorem placed_specX {S : Src} (h17 : Has S 17 false 6 3 bPlaced) {n : Nat} (hn : 1 ≤ n) {ns : List Str} {ss gs : List Int} (l1 : ss.length = ns.length) (l2 : gs.length = ns.length + 1) (l3 : ns.length ≤ 1000) :
    ∃ g, gs = gs.take ns.length ++ [g] ∧ S.run n 17 none [.lst (ns.map .str), .lst (ss.map .int), .lst (gs.map .int)] = .ret (.dct [kCap, kBlk] [.int (plcE 0 ns ss (gs.take ns.length) + g), .tup ((plc 0 ns ss (gs.take ns.length)).map tpD)]) none :=
  placed_specG (nD := .lst) (fun _ => rfl) (fun _ _ => rfl) h17 hn l1 l2 l3
theorem placed_specT {S : Src} (h17 : Has S 17 false 6 3 bPlaced) {n : Nat} (hn : 1 ≤ n) {ns : List Str} {ss gs : List Int} (l1 : ss.length = ns.length) (l2 : gs.length = ns.length + 1) (l3 : ns.length ≤ 1000) :
    ∃ g, gs = gs.take ns.length ++ [g] ∧ S.run n 17 none [.tup (ns.map .str), .lst (ss.map .int), .lst (gs.map .int)] = .ret (.dct [kCap, kBlk] [.int (plcE 0 ns ss (gs.take ns.length) + g), .tup ((plc 0 ns ss (gs.take ns.length)).map tpD)]) none :=
  placed_specG (nD := .tup) (fun _ => rfl) (fun _ _ => rfl) h17 hn l1 l2 l3

set_option linter.all false
set_option maxRecDepth 100000
set_option maxHeartbeats 4000000
open PySem PySem.Spec PyProof.Rows L2

/-! ### layouts, exactly -/
def SB : Int := 450000000000000000000000000002
structure LayOk (cp : Int) (bl : List T3) : Prop where
  nm : ∀ t ∈ bl, Nms 8 t.1
  nd : (bl.map (·.1)).Nodup
  sz : ∀ t ∈ bl, 1 ≤ t.2.2 ∧ t.2.2 ≤ 1000000000000000000000000000000
  asc : Asc 0 cp bl
  le : cp ≤ 10000000000000000000000000000000
  len : bl.length ≤ 12
theorem plc_fst : ∀ (ns : List Str) (ss gs : List Int) (e : Int), ss.length = ns.length → gs.length = ns.length → (plc e ns ss gs).map (·.1) = ns ∧ (plc e ns ss gs).map (·.2.2) = ss ∧ plcE e ns ss gs = e + ss.sum + gs.sum
  | [], [], [], e, _, _ => ⟨rfl, rfl, by simp [plcE]⟩
  | n1 :: ns, s1 :: ss, g1 :: gs, e, h1, h2 => by
    obtain ⟨a, b, c⟩ := plc_fst ns ss gs (e + g1 + s1) (by simpa using h1) (by simpa using h2)
    refine ⟨by rw [plc, List.map_cons, a], by rw [plc, List.map_cons, b], ?_⟩
    rw [plcE, c, List.sum_cons, List.sum_cons]; omega
theorem plc_asc : ∀ (ns : List Str) (ss gs : List Int) (e g : Int), ss.length = ns.length → gs.length = ns.length → (∀ x ∈ gs, 0 ≤ x) → 0 ≤ g → Asc e (plcE e ns ss gs + g) (plc e ns ss gs)
  | [], [], [], e, g, _, _, _, hg => by
    show e ≤ e + g
    omega
  | n1 :: ns, s1 :: ss, g1 :: gs, e, g, h1, h2, h3, hg => by
    have a := plc_asc ns ss gs (e + g1 + s1) g (by simpa using h1) (by simpa using h2) (fun x hx => h3 x (List.mem_cons_of_mem _ hx)) hg
    have := h3 g1 List.mem_cons_self
    rw [plc, plcE]
    exact ⟨by show e ≤ e + g1; omega, a⟩
theorem sum_le {B : Int} : ∀ {l : List Int}, (∀ x ∈ l, x ≤ B) → l.sum ≤ B * (l.length : Int)
  | [], _ => by simp
  | x :: l, h => by
    have ih := sum_le fun y hy => h y (List.mem_cons_of_mem _ hy)
    have := h x List.mem_cons_self
    rw [List.sum_cons, List.length_cons, Int.natCast_succ, Int.mul_add]; omega
theorem sum_nn : ∀ {l : List Int}, (∀ x ∈ l, 0 ≤ x) → 0 ≤ l.sum
  | [], _ => by simp
  | x :: l, h => by
    have ih := sum_nn fun y hy => h y (List.mem_cons_of_mem _ hy)
    have := h x List.mem_cons_self
    rw [List.sum_cons]; omega
def LayX (mo mn un fr : Int) (i : Nat) (S' : List SD) : Prop := ∃ (o : OC) (ss : List Int) (t6 t7 : SD), S' = [.own false o, .val (.int mo), .val (.int mn), .val (.int un), .val (.int fr), .own true (.lst (ss.map .int)), t6, t7] ∧ Pool o ∧ (∀ s ∈ ss, 1 ≤ s ∧ s ≤ SB) ∧ ss.length = i
theorem layout_stepX {S : Src} (H : Hlp S) {n : Nat} (hn : 2 ≤ n) {mo mn un fr : Int} (u1 : 1 ≤ un) (u2 : un ≤ 50000000000000000000000000000) (f0 : 0 ≤ fr) (f1 : fr ≤ 400000000000000000000000000002) {j : Nat} (hj : j < 1000) {S' : List SD} {x : D} (I : LayX mo mn un fr j S') : ∃ S2, sBody S.CF (S.run n) [6] bL1 x S' = .nx S2 ∧ LayX mo mn un fr (j + 1) S2 := by
  obtain ⟨o, ss, t6, t7, rfl, po, hs, hl⟩ := I
  obtain ⟨d1, o1, x1, e1, p1, ex1, hx1⟩ := take_few H hn po (xs := [.int 4, .int 10]) (by simp) (by simp) (m := 2) rfl
  obtain ⟨q, rfl, q0, q1⟩ : ∃ q : Int, x1 = .int q ∧ 0 < q ∧ q ≤ 10 := by
    simp only [List.mem_cons, List.not_mem_nil, or_false] at hx1
    rcases hx1 with rfl | rfl <;> exact ⟨_, rfl, by omega, by omega⟩
  obtain ⟨d2, o2, e2, p2, a2, b2⟩ := take_to H.take hn p1 (m := q) q0 (by omega)
  obtain ⟨d3, o3, e3, p3, a3, b3⟩ := take_to H.take hn p2 (m := 3) (by decide) (by decide)
  have mu0 : 0 ≤ un * d2 := Int.mul_nonneg (by omega) a2
  have mu1 : un * d2 ≤ un * 9 := Int.mul_le_mul_of_nonneg_left (by omega) (by omega)
  obtain ⟨ud, hud⟩ : ∃ ud : Int, ud = un * d2 := ⟨_, rfl⟩
  have mu : binD .mul (.int un) (.int d2) = some (.int ud) := by rw [bin_mulR (by omega), hud]
  obtain ⟨d4, o4, x4, e4, p4, ex4, hx4⟩ := take_few H hn p3 (xs := [.int (ud + d3), .int fr, .int (fr + 1), .int (fr - 1), .int (ud + d3)]) (by simp) (by simp) (m := 5) rfl
  obtain ⟨r, rfl, r1⟩ : ∃ r : Int, x4 = .int r ∧ r ≤ SB := by
    unfold SB
    simp only [List.mem_cons, List.not_mem_nil, or_false] at hx4
    rcases hx4 with rfl | rfl | rfl | rfl | rfl <;> exact ⟨_, rfl, by omega⟩
  obtain ⟨w, hw⟩ : ∃ w : Int, w = if r > 1 then r else 1 := ⟨_, rfl⟩
  have hm : biD .max2 [.int 1, .int r] = some (.int w) := by rw [max2_i, hw]
  have w1 : 1 ≤ w ∧ w ≤ SB := by
    unfold SB at r1 ⊢
    rw [hw]; split <;> omega
  have cf : (ss.map D.int).length < cap := lt_cap (by rw [List.length_map]; omega)
  rw [sBody_some _ _ (bindT_1 6 _ _), bL1]
  simp! [e1, ofFO_ret, ex1, e2, mu, e3, e4, ex4, hm, if_pos cf]
  refine ⟨_, rfl, o4, ss ++ [w], _, _, by rw [List.map_append]; rfl, p4, fun d hd => ?_, by simp; omega⟩
  rcases List.mem_append.mp hd with z | z
  · exact hs d z
  · rw [List.mem_singleton] at z
    rw [z]; exact w1
/-- _law_layout, exactly -/
theorem layout_specX {S : Src} (H : Hlp S) {n : Nat} (hn : 5 ≤ n) {o : OC} (hp : Pool o) {m : Int} (m0 : 0 ≤ m) (m1 : m ≤ 12) :
    ∃ (c : Int) (bl : List T3) (o' : OC), S.run n 18 (some o) [.int m] = .ret (.dct [kCap, kBlk] [.int c, .tup (bl.map tpD)]) (some o') ∧ Pool o' ∧ LayOk c bl ∧ (∀ t ∈ bl, t.2.2 ≤ SB) ∧ (bl.length : Int) ≤ m := by
  obtain ⟨n, rfl⟩ : ∃ k, n = k + 1 := ⟨n - 1, by omega⟩
  rw [H.layout.run n _ _ rfl rfl]
  simp only [startS, bLayout, List.map, List.replicate, List.cons_append, List.nil_append, List.length]
  obtain ⟨mn, o1, e1, p1, a1, b1⟩ := take_to H.take (n := n) (by omega) hp (m := m + 1) (by omega) (by omega)
  obtain ⟨d2, o2, e2, p2, a2, b2⟩ := far_spec H.take H.far (n := n) (by omega) p1 (m := 5 * 10000000000000000000000000000) (by decide)
  obtain ⟨d3, o3, x3, e3, p3, ex3, hx3⟩ := take_few H (n := n) (by omega) p2 (xs := [.int 1, .int 1, .int 1, .int (1 + d2)]) (by simp) (by simp) (m := 4) rfl
  obtain ⟨un, rfl, u1, u2⟩ : ∃ q : Int, x3 = .int q ∧ 1 ≤ q ∧ q ≤ 50000000000000000000000000000 := by
    simp only [List.mem_cons, List.not_mem_nil, or_false] at hx3
    rcases hx3 with rfl | rfl | rfl | rfl <;> exact ⟨_, rfl, by omega, by omega⟩
  obtain ⟨d4, o4, x4, e4, p4, ex4, hx4⟩ := take_few H (n := n) (by omega) p3 (xs := [.int 3, .int 9]) (by simp) (by simp) (m := 2) rfl
  obtain ⟨q, rfl, q0, q1⟩ : ∃ q : Int, x4 = .int q ∧ 0 < q ∧ q ≤ 9 := by
    simp only [List.mem_cons, List.not_mem_nil, or_false] at hx4
    rcases hx4 with rfl | rfl <;> exact ⟨_, rfl, by omega, by omega⟩
  obtain ⟨d5, o5, e5, p5, a5, b5⟩ := take_to H.take (n := n) (by omega) p4 (m := q) q0 (by omega)
  have rest : ∀ (o6 : OC) (fr : Int), Pool o6 → 0 ≤ fr → fr ≤ 400000000000000000000000000002 → ∃ (c : Int) (bl : List T3) (o' : OC), finD true (seqB S.CF (S.run n) (.cons (.asgN 5 (.lst .nil)) (.cons (.for [6] (.rng (.cons (.var 2) .nil)) bL1) (.cons (.ret (.call 17 (.cons (.callO 15 0 (.cons (.var 2) .nil)) (.cons (.var 5) (.cons (.callO 16 0 (.cons (.var 4) (.cons (.var 2) .nil))) .nil))))) .nil))) (.nx [.own false o6, .val (.int m), .val (.int mn), .val (.int un), .val (.int fr), .un, .un, .un])) = .ret (.dct [kCap, kBlk] [.int c, .tup (bl.map tpD)]) (some o') ∧ Pool o' ∧ LayOk c bl ∧ (∀ t ∈ bl, t.2.2 ≤ SB) ∧ (bl.length : Int) ≤ m := fun o6 fr p6 f0 f1 => by
    simp! [rng_int a1 (show mn < 1000000000 by omega)]
    obtain ⟨S', e7, o7, ss, t6, t7, rfl, p7, hs, hl⟩ := loop_nx (CF := S.CF) (Φ := S.run n) (ts := [6]) (b := bL1) (LayX m mn un fr) (rngL mn.toNat) 0 [.own false o6, .val (.int m), .val (.int mn), .val (.int un), .val (.int fr), .own true (.lst []), .un, .un] ⟨o6, [], .un, .un, rfl, p6, fun _ z => (nomatch z), rfl⟩ fun j x S' hx I => by
      obtain ⟨ex, hj⟩ := rngL_get hx
      rw [Nat.zero_add] at I ⊢
      obtain ⟨S2, e, I2⟩ := layout_stepX H (n := n) (by omega) u1 u2 f0 f1 (x := x) (by omega) I
      exact ⟨S2, .inl e, I2⟩
    rw [Nat.zero_add, rngL_len] at hl
    obtain ⟨ns, o8, e8, p8, h8, nd8, l8⟩ := names_specX H.take H.names (n := n) (by omega) p7 (m := mn) a1 (by omega)
    obtain ⟨gs, o9, e9, p9, h9, l9, s9⟩ := parted_specX H.take H.far H.some H.parted (n := n) (by omega) p8 (fr := fr) (m := mn) f0 a1 (by omega)
    obtain ⟨g, tk, e10⟩ := placed_specX H.placed (n := n) (by omega) (ns := ns) (ss := ss) (gs := gs) (by omega) (by omega) (by omega)
    have lt : (gs.take ns.length).length = ns.length := by rw [List.length_take]; omega
    have ls : ss.length = ns.length := by omega
    obtain ⟨q1', q2', q3'⟩ := plc_fst ns ss (gs.take ns.length) 0 ls lt
    have sg : (gs.take ns.length).sum + g = fr := by
      rw [← s9]
      conv => rhs; rw [tk]
      rw [List.sum_append]; simp
    have ss1 : ss.sum ≤ SB * (ss.length : Int) := sum_le fun x hx => (hs x hx).2
    have ss2 : ss.sum ≤ 5400000000000000000000000000024 := by
      have : SB * (ss.length : Int) ≤ SB * 12 := Int.mul_le_mul_of_nonneg_left (by omega) (by decide)
      have e : SB * 12 = 5400000000000000000000000000024 := by decide
      omega
    have szs : ∀ t ∈ plc 0 ns ss (gs.take ns.length), 1 ≤ t.2.2 ∧ t.2.2 ≤ SB := fun t ht => hs _ (by rw [← q2']; exact List.mem_map_of_mem ht)
    have lb : (plc 0 ns ss (gs.take ns.length)).length = ns.length := by
      have := congrArg List.length q1'
      rwa [List.length_map] at this
    simp! [e7, e8, ofFO_ret, e9, e10, ofF_ret]
    refine ⟨_, _, o9, rfl, p9, ⟨fun t ht => h8 _ (by rw [← q1']; exact List.mem_map_of_mem ht), by rw [q1']; exact nd8, fun t ht => ⟨(szs t ht).1, ?_⟩, ?_, ?_, by omega⟩, fun t ht => (szs t ht).2, by omega⟩
    · have := (szs t ht).2
      unfold SB at this
      omega
    · refine plc_asc ns ss (gs.take ns.length) 0 g ls lt (fun x hx => h9 x (List.mem_of_mem_take hx)) (h9 g (by rw [tk]; simp))
    · rw [q3']; omega
  have mu0 : 0 ≤ un * d5 := Int.mul_nonneg (by omega) a5
  have mu1 : un * d5 ≤ un * 8 := Int.mul_le_mul_of_nonneg_left (by omega) (by omega)
  by_cases hu : 1 < un
  · obtain ⟨d6, o6, e6, p6, a6, b6⟩ := take_to H.take (n := n) (by omega) p5 (m := 3) (by decide) (by decide)
    have := rest o6 (un * d5 + d6) p6 (by omega) (by omega)
    simp! [e1, ofFO_ret, pow_28, bin_mulL (i := 5) (j := 10000000000000000000000000000) (by decide), e2, e3, ex3, e4, ex4, e5, bin_mulR (i := un) (j := d5) (by omega), hu, e6]
    simp! [bindT_1] at this
    exact this
  · have := rest o5 (un * d5) p5 mu0 (by omega)
    simp! [e1, ofFO_ret, pow_28, bin_mulL (i := 5) (j := 10000000000000000000000000000) (by decide), e2, e3, ex3, e4, ex4, e5, bin_mulR (i := un) (j := d5) (by omega), hu]
    simp! [bindT_1] at this
    exact this

set_option linter.all false
set_option maxRecDepth 100000
set_option maxHeartbeats 4000000
open PySem PySem.Spec PyProof.Rows L2

/-! ### a layout's blocks, in any order, make a layout -/
theorem asc_all : ∀ {l : List T3} {e cp : Int}, Asc e cp l → (∀ t ∈ l, 1 ≤ t.2.2) → e ≤ cp ∧ (∀ t ∈ l, e ≤ t.2.1 ∧ t.2.1 + t.2.2 ≤ cp) ∧ l.Pairwise fun a b => a.2.1 + a.2.2 ≤ b.2.1
  | [], _, _, h, _ => ⟨h, fun _ z => (nomatch z), .nil⟩
  | t :: l, e, cp, ⟨h1, h2⟩, hs => by
    obtain ⟨a, b, c⟩ := asc_all h2 fun x hx => hs x (List.mem_cons_of_mem _ hx)
    have s1 := hs t List.mem_cons_self
    refine ⟨by omega, fun x hx => ?_, .cons (fun x hx => (b x hx).1) c⟩
    rcases List.mem_cons.1 hx with rfl | hx
    · exact ⟨h1, a⟩
    · have := b x hx
      exact ⟨by omega, this.2⟩
theorem firstI_all {f : Nat → Option Str} : ∀ (m k : Nat), (∀ j, k ≤ j → j < k + m → f j = none) → firstI f k m = none
  | 0, _, _ => rfl
  | m + 1, k, h => by
    unfold firstI
    rw [h k (Nat.le_refl _) (by omega)]
    exact firstI_all m (k + 1) fun j h1 h2 => h j (by omega) (by omega)
theorem due_ok {cp : Int} {bl pl : List T3} (L : LayOk cp bl) (hp : pl.Perm bl) : due cp pl = none := by
  have sz : ∀ t ∈ bl, 1 ≤ t.2.2 := fun t ht => (L.sz t ht).1
  obtain ⟨c0, ab, pw⟩ := asc_all L.asc sz
  have le := L.le
  have ln := L.len
  have pn : pl.Pairwise fun a b => a.1 ≠ b.1 := by
    have : bl.Pairwise fun a b => a.1 ≠ b.1 := List.pairwise_map.1 L.nd
    exact (hp.pairwise_iff (fun {a b} h => h.symm)).2 this
  have po : pl.Pairwise fun a b => ¬ (a.2.1 < b.2.1 + b.2.2 ∧ b.2.1 < a.2.1 + a.2.2) := by
    have : bl.Pairwise fun a b => ¬ (a.2.1 < b.2.1 + b.2.2 ∧ b.2.1 < a.2.1 + a.2.2) := pw.imp fun {a b} h z => by omega
    exact (hp.pairwise_iff (fun {a b} h z => h ⟨z.2, z.1⟩)).2 this
  have hl := hp.length_eq
  unfold due
  rw [if_neg (by omega), if_neg (by omega)]
  refine Option.map_eq_none_iff.2 (firstI_all _ _ fun j h1 h2 => ?_)
  have hj : j < pl.length := by omega
  have mt : pl[j] ∈ bl := hp.mem_iff.1 (List.getElem_mem hj)
  have ear : ∀ o ∈ pl.take j, ∃ i, ∃ hi : i < pl.length, i < j ∧ pl[i] = o := fun o ho => by
    obtain ⟨i, hi, e⟩ := List.mem_take_iff_getElem.1 ho
    exact ⟨i, by omega, by omega, e⟩
  unfold rfI
  rw [List.getElem?_eq_getElem hj]
  show rsn cp pl[j] (pl.take j) = none
  have a1 := L.nm _ mt
  have a2 := ab _ mt
  have a3 := L.sz _ mt
  have tw : twc pl[j].1 (pl.take j) = false := by
    unfold twc
    refine List.any_eq_false.2 fun o ho => ?_
    obtain ⟨i, hi, hij, rfl⟩ := ear o ho
    have := (List.pairwise_iff_getElem.1 pn) i j hi hj hij
    simpa using this
  have ov : (pl.take j).any (ovl pl[j].2.1 pl[j].2.2) = false := by
    refine List.any_eq_false.2 fun o ho => ?_
    obtain ⟨i, hi, hij, rfl⟩ := ear o ho
    have := (List.pairwise_iff_getElem.1 po) i j hi hj hij
    unfold ovl
    simp only [Bool.and_eq_true, decide_eq_true_eq]
    exact fun z => this ⟨z.2, z.1⟩
  unfold rsn lone
  rw [a1.isNm, if_neg (by simp), if_neg (by omega), if_neg (by omega), tw, if_neg (by simp), if_neg (by omega)]
  show ovf _ _ = none
  unfold ovf
  rw [ov]; rfl

set_option linter.all false
set_option maxRecDepth 100000
set_option maxHeartbeats 4000000
open PySem PySem.Spec PyProof.Rows L2

/-! ### the object of a layout, exactly -/
theorem insD_pw {α : Type} (p : Int × α) : ∀ {l : List (Int × α)}, l.Pairwise (fun a b => a.1 ≤ b.1) → (insD p l).Pairwise fun a b => a.1 ≤ b.1
  | [], _ => List.pairwise_singleton _ _
  | q :: r, h => by
    obtain ⟨h1, h2⟩ := List.pairwise_cons.1 h
    unfold insD
    split
    · rename_i c
      refine .cons (fun x hx => ?_) h
      rcases List.mem_cons.1 hx with rfl | hx
      · omega
      · have := h1 x hx; omega
    · rename_i c
      refine .cons (fun x hx => ?_) (insD_pw p h2)
      rcases insD_mem hx with rfl | hx
      · omega
      · exact h1 x hx
theorem srtD_pw {α : Type} : ∀ l : List (Int × α), (srtD l).Pairwise fun a b => a.1 ≤ b.1
  | [] => .nil
  | p :: r => by unfold srtD; exact insD_pw p (srtD_pw r)
theorem srt_X {cp : Int} {bl pl : List T3} (L : LayOk cp bl) (hp : pl.Perm bl) (S : List SD) : kSrt (.ita 1) (.ok (.lst (pl.map tpD)) S) = .ok (.lst (bl.map tpD)) S := by
  have sz : ∀ t ∈ bl, 1 ≤ t.2.2 := fun t ht => (L.sz t ht).1
  obtain ⟨c0, ab, pw⟩ := asc_all L.asc sz
  have pl1 : bl.Pairwise fun a b => a.2.1 < b.2.1 := by
    refine pw.imp_of_mem fun {a b} ha hb h => ?_
    have := sz a ha
    omega
  have nd : (pl.map fun t => t.2.1).Nodup := by
    refine List.pairwise_map.2 ((hp.pairwise_iff (fun {a b} h => fun z => h z.symm)).2 (pl1.imp fun {a b} h => by omega))
  have hl := hp.length_eq
  have ln := L.len
  rw [kSrt_ok]
  simp only [keys_tp]
  rw [if_pos ⟨nd, by rw [List.length_map]; exact le_cap (by omega)⟩]
  congr 2
  let f : T3 → Int × D := fun t => (t.2.1, tpD t)
  have ez : (pl.map fun t => t.2.1).zip (pl.map tpD) = pl.map f := List.zip_map' ..
  rw [ez]
  have key : srtD (pl.map f) = bl.map f := by
    refine List.Perm.eq_of_pairwise (le := fun a b => a.1 ≤ b.1) (fun a b ha hb h1 h2 => ?_) (srtD_pw _) (List.pairwise_map.2 (pl1.imp fun {a b} h => by show a.2.1 ≤ b.2.1; omega)) ((srtD_perm _).trans (hp.map f))
    have ha' : a ∈ bl.map f := ((srtD_perm _).trans (hp.map f)).mem_iff.1 ha
    obtain ⟨t, ht, rfl⟩ := List.mem_map.1 ha'
    obtain ⟨u, hu, rfl⟩ := List.mem_map.1 hb
    have he : t.2.1 = u.2.1 := Int.le_antisymm h1 h2
    obtain ⟨i, hi, ei⟩ := List.mem_iff_getElem.1 ht
    obtain ⟨k, hk, ek⟩ := List.mem_iff_getElem.1 hu
    have tri : i = k := by
      rcases Nat.lt_trichotomy i k with z | z | z
      · have := (List.pairwise_iff_getElem.1 pl1) i k hi hk z
        rw [ei, ek] at this; omega
      · exact z
      · have := (List.pairwise_iff_getElem.1 pl1) k i hk hi z
        rw [ei, ek] at this; omega
    subst tri
    rw [← ei, ← ek]
  rw [key, List.map_map]
  rfl
def gpL : Int → Int → List T3 → List (Int × Int)
  | e, cp, [] => [(e, cp - e)]
  | e, cp, t :: l => (e, t.2.1 - e) :: gpL (t.2.1 + t.2.2) cp l
theorem gpL_len : ∀ (l : List T3) (e cp : Int), (gpL e cp l).length = l.length + 1
  | [], _, _ => rfl
  | t :: l, e, cp => by rw [gpL, List.length_cons, gpL_len l, List.length_cons]
theorem gaps_specX {S : Src} (h5 : Has S 5 false 7 2 bGaps) {n : Nat} (hn : 1 ≤ n) {cp : Int} {bl : List T3} (hl : bl.length ≤ 1000) :
    S.run n 5 none [.int cp, .tup (bl.map tpD)] = .ret (.tup ((gpL 0 cp bl).map gpD)) none := by
  obtain ⟨n, rfl⟩ : ∃ k, n = k + 1 := ⟨n - 1, by omega⟩
  rw [h5.run n _ _ rfl rfl]
  obtain ⟨S', e, gs, en, s4, s5, s6, rfl, hg, hll⟩ := loop_nx (CF := S.CF) (Φ := S.run n) (ts := [4, 5, 6]) (b := bGapL) (fun i S' => ∃ (gs : List (Int × Int)) (en : Int) (s4 s5 s6 : SD), S' = [.val (.int cp), .val (.tup (bl.map tpD)), .own true (.lst (gs.map gpD)), .val (.int en), s4, s5, s6] ∧ gs ++ gpL en cp (bl.drop i) = gpL 0 cp bl ∧ gs.length = i) (bl.map tpD) 0 [.val (.int cp), .val (.tup (bl.map tpD)), .own true (.lst []), .val (.int 0), .un, .un, .un] ⟨[], 0, .un, .un, .un, rfl, rfl, rfl⟩ fun j x S' hx ⟨gs, en, s4, s5, s6, eS, hg, hll⟩ => by
    subst eS
    rw [Nat.zero_add] at hg ⊢
    have hj : j < bl.length := by
      have := (List.getElem?_eq_some_iff.1 hx).1
      rwa [List.length_map] at this
    rw [List.getElem?_map, List.getElem?_eq_getElem hj] at hx
    cases hx
    have cf : (gs.map gpD).length < cap := lt_cap (by rw [List.length_map]; omega)
    rw [sBody_some _ _ (show bindT [4, 5, 6] (tpD bl[j]) _ = _ from bindT_3), bGapL]
    simp! [if_pos cf]
    refine ⟨_, .inl rfl, gs ++ [(en, bl[j].2.1 - en)], _, _, _, _, by rw [List.map_append]; rfl, ?_, by simp; omega⟩
    rw [List.drop_eq_getElem_cons hj, gpL] at hg
    rw [List.append_assoc]
    exact hg
  have cf : (gs.map gpD).length < cap := lt_cap (by rw [List.length_map, hll, List.length_map]; omega)
  simp only [startS, bGaps, List.map, List.replicate, List.cons_append, List.nil_append, List.length]
  simp! [e, if_pos cf, tup_lst]
  rw [Nat.zero_add, List.length_map, List.drop_length, gpL] at hg
  rw [← hg, List.map_append]; rfl
/-- what Layout.__init__ makes -/
theorem init_okX {S : Src} (hc : S.CF 0 = lyF) (h1 : Has S 1 false 1 1 bIsName) (h2 : Has S 2 false 6 3 bLone) (h3 : Has S 3 false 7 2 bOvlp) (h4 : Has S 4 false 7 3 bChk) (h5 : Has S 5 false 7 2 bGaps) (h6 : Has S 6 true 7 3 bInit) {n : Nat} (hn : 4 ≤ n) {cp : Int} {m : List T3} (L : LayOk cp m) {bl : List U3} {tl : List T3} (htl : bl.map (·.2) = tl) (hp : tl.Perm m) {dB : D} (hB : Lk (bl.map shD) dB) :
    ∃ mx : Int, S.run n 6 (some (.ins 0 [] [])) [.int cp, dB] = .ret .non (some (.ins 0 lyF [.int cp, .tup (m.map tpD), .tup (m.map fun t => .str t.1), .int (cp - (m.map (·.2.2)).sum), .tup ((gpL 0 cp m).map gpD), .int mx])) := by
  obtain ⟨n, rfl⟩ : ∃ k, n = k + 1 := ⟨n - 1, by omega⟩
  rw [h6.run n _ _ rfl rfl]
  have lm := hp.length_eq
  have lm2 : bl.length = tl.length := by rw [← htl, List.length_map]
  have ln := L.len
  have hl : bl.length ≤ 1000 := by omega
  have hb : ∀ t ∈ bl, t.2.1.length ≤ 100 := fun t ht => by
    have : t.2 ∈ m := hp.mem_iff.1 (by rw [← htl]; exact List.mem_map_of_mem ht)
    have := (L.nm _ this).le
    omega
  have e4 := chk_spec h1 h2 h3 h4 (n := n) (by omega) (cp := cp) hb hl hB
  rw [htl, due_ok L hp] at e4
  unfold chkR at e4
  have r1003 : 1000 + 3 = 1003 := rfl
  simp only [startS, bInit, List.map, List.replicate, List.cons_append, List.nil_append, List.length]
  have el := elm_lk hB
  have v : isVal (some SD.un) = true := rfl
  -- the triples
  have lp1 := cm_lp (CF := S.CF) (Φ := S.run n) (g := shD) (h := fun t => tpD t.2) (v := 4) (el := .bi .tup (.cons (.var 4) .nil)) (S := [.own false (.ins 0 [] []), .val (.int cp), .val dB, .un, .un, .un, .un]) (fun t => by
    have := tup_sh t
    rw [cBody_some _ _ _ _ (bindT_1 4 _ _)]
    simp! [this, cBody2_t, cBody3_ok, wipeS]) bl
  have mm : bl.map (fun t => tpD t.2) = tl.map tpD := by rw [← htl, List.map_map]; rfl
  rw [mm] at lp1
  have lc1 : (tl.map tpD).length < cap := lt_cap (by rw [List.length_map]; omega)
  have kS := srt_X L hp
  have lp2 := fun s0 s3 => cm_lp (CF := S.CF) (Φ := S.run n) (g := tpD) (h := fun t => .str t.1) (v := 4) (el := .idx (.var 4) (.int 0)) (S := [s0, .val (.int cp), .val dB, s3, .un, .un, .un]) (fun t => by
    unfold tpD
    rw [cBody_some _ _ _ _ (bindT_1 4 _ _)]
    simp! [idx_t0, cBody2_t, cBody3_ok, wipeS]) m
  have lp3 := fun s0 s3 => cm_lp (CF := S.CF) (Φ := S.run n) (g := tpD) (h := fun t => .int t.2.2) (v := 4) (el := .idx (.var 4) (.int 2)) (S := [s0, .val (.int cp), .val dB, s3, .un, .un, .un]) (fun t => by
    unfold tpD
    rw [cBody_some _ _ _ _ (bindT_1 4 _ _)]
    simp! [idx_tt2, cBody2_t, cBody3_ok, wipeS]) m
  have lc2 : (m.map fun t => D.str t.1).length < cap := lt_cap (by rw [List.length_map]; omega)
  have lc3 : (m.map fun t => D.int t.2.2).length < cap := lt_cap (by rw [List.length_map]; omega)
  have e5 := gaps_specX h5 (n := n) (by omega) (cp := cp) (bl := m) (by omega)
  obtain ⟨gs, hgs⟩ : ∃ gs, gs = gpL 0 cp m := ⟨_, rfl⟩
  rw [← hgs] at e5
  have lg : gs.length = m.length + 1 := by rw [hgs, gpL_len]
  have lp4 := fun s0 s3 => cm_lp2 (CF := S.CF) (Φ := S.run n) (g := gpD) (h := fun t => .int t.2) (u := 5) (v := 6) (el := .var 6) (S := [s0, .val (.int cp), .val dB, s3, .un, .un, .un]) (fun t => by
    unfold gpD
    rw [cBody_some _ _ _ _ bindT_2]
    simp! [cBody2_t, cBody3_ok, wipeS]) gs
  have lc4 : (gs.map fun t => D.int t.2).length < cap := lt_cap (by rw [List.length_map]; omega)
  obtain ⟨mx, e6⟩ := max_map (fun t : Int × Int => t.2) (l := gs) (fun z => by rw [z] at lg; simp at lg)
  have sm := sum_map (fun t : T3 => t.2.2) m
  have f1 := fun d S' => sfl_at (CF := S.CF) (f := "capacity") (fn := []) (vs := []) (d := d) (S := S') (by rw [hc]; decide) (by decide) rfl
  have f2 := fun d x S' => sfl_at (CF := S.CF) (f := "blocks") (fn := ["capacity"]) (vs := [x]) (d := d) (S := S') (by rw [hc]; decide) (by decide) rfl
  have f3 := fun d x y S' => sfl_at (CF := S.CF) (f := "order") (fn := ["capacity", "blocks"]) (vs := [x, y]) (d := d) (S := S') (by rw [hc]; decide) (by decide) rfl
  have f4 := fun d x y z S' => sfl_at (CF := S.CF) (f := "free") (fn := ["capacity", "blocks", "order"]) (vs := [x, y, z]) (d := d) (S := S') (by rw [hc]; decide) (by decide) rfl
  have f5 := fun d x y z u S' => sfl_at (CF := S.CF) (f := "gaps") (fn := ["capacity", "blocks", "order", "free"]) (vs := [x, y, z, u]) (d := d) (S := S') (by rw [hc]; decide) (by decide) rfl
  have f6 := fun d x y z u v S' => sfl_at (CF := S.CF) (f := "longest_gap") (fn := ["capacity", "blocks", "order", "free", "gaps"]) (vs := [x, y, z, u, v]) (d := d) (S := S') (by rw [hc]; decide) (by decide) rfl
  have g1 := fun x y S' => fld_at (CF := S.CF) (Φ := S.run n) (f := "blocks") (fn := ["capacity", "blocks"]) (vs := [x, y]) (S := S') (by rw [hc]; decide) rfl
  have g2 := fun x y z S' => fld_at (CF := S.CF) (Φ := S.run n) (f := "blocks") (fn := ["capacity", "blocks", "order"]) (vs := [x, y, z]) (S := S') (by rw [hc]; decide) rfl
  have g3 := fun x y z u S' => fld_at (CF := S.CF) (Φ := S.run n) (f := "blocks") (fn := ["capacity", "blocks", "order", "free"]) (vs := [x, y, z, u]) (S := S') (by rw [hc]; decide) rfl
  have g4 := fun x y z u v S' => fld_at (CF := S.CF) (Φ := S.run n) (f := "gaps") (fn := ["capacity", "blocks", "order", "free", "gaps"]) (vs := [x, y, z, u, v]) (S := S') (by rw [hc]; decide) rfl
  simp! [r1003, e4, ofF_ret, el, List.all_cons, List.all_nil, v, Bool.and_self, wipeS, lp1, if_pos lc1, backS, Option.getD_some, f1, kS, tup_lst, f2, g1, lp2, if_pos lc2, f3, g2, lp3, if_pos lc3, sm, f4, g3, e5, f5, g4, lp4, if_pos lc4, e6, f6, -sSfl_ok, -e_fldO, -kSrt_ok]
  exact ⟨mx, by rw [← hgs]; rfl⟩

set_option linter.all false
set_option maxRecDepth 100000
set_option maxHeartbeats 4000000
open PySem PySem.Spec PyProof.Rows L2

/-! ### what the laws read off a layout; their numbers differ from law to law -/
def lyD (cp : Int) (bl : List T3) : D := .dct [kCap, kBlk] [.int cp, .tup (bl.map tpD)]
def bOrder : Bs := (.cons (.ret (.bi .tup (.cons (.cmpr [("block", 1)] [1] (.idx (.var 0) (.str "blocks")) .hole (.idx (.var 1) (.int 0))) .nil))) .nil)
def bFree : Bs := (.cons (.ret (.bin .sub (.idx (.var 0) (.str "capacity")) (.bi .sum (.cons (.cmpr [("block", 1)] [1] (.idx (.var 0) (.str "blocks")) .hole (.idx (.var 1) (.int 2))) .nil)))) .nil)
def bGLL : Bs := (.cons (.exp (.app 1 (.bin .sub (.idx (.var 3) (.int 1)) (.var 2)))) (.cons (.asg 2 (.bin .add (.idx (.var 3) (.int 1)) (.idx (.var 3) (.int 2)))) .nil))
def bGapsL : Bs := (.cons (.asgN 1 (.lst .nil)) (.cons (.asg 2 (.int 0)) (.cons (.for [3] (.idx (.var 0) (.str "blocks")) bGLL) (.cons (.ret (.bi .tup (.cons (.bin .add (.var 1) (.lst (.cons (.bin .sub (.idx (.var 0) (.str "capacity")) (.var 2)) .nil))) .nil))) .nil))))
def bHanded : Bs := (.cons (.asg 2 (.callO 14 0 (.cons (.bi .lst (.cons (.idx (.var 1) (.str "blocks")) .nil)) (.cons (.bi .len (.cons (.idx (.var 1) (.str "blocks")) .nil)) .nil)))) (.cons (.ret (.tup (.cons (.idx (.var 1) (.str "capacity")) (.cons (.callO 13 0 (.cons (.var 2) .nil)) .nil)))) .nil))
theorem ly_cap (cp : Int) (bl : List T3) : idxD (lyD cp bl) (.str "capacity") = some (.int cp) := idx_cap _ _
theorem ly_blk (cp : Int) (bl : List T3) : idxD (lyD cp bl) (.str "blocks") = some (.tup (bl.map tpD)) := idx_blk _ _
section
variable {S : Src} {f : Nat} {n : Nat} {cp : Int} {bl : List T3}
theorem order_spec (h : Has S f false 2 1 bOrder) (hn : 1 ≤ n) (hl : bl.length ≤ 1000) : S.run n f none [lyD cp bl] = .ret (.tup (bl.map fun t => .str t.1)) none := by
  obtain ⟨n, rfl⟩ : ∃ k, n = k + 1 := ⟨n - 1, by omega⟩
  rw [h.run n _ _ rfl rfl]
  have v : isVal (some SD.un) = true := rfl
  have lp := cm_lp (CF := S.CF) (Φ := S.run n) (g := tpD) (h := fun t => .str t.1) (v := 1) (el := .idx (.var 1) (.int 0)) (S := [.val (lyD cp bl), .un]) (fun t => by
    unfold tpD
    rw [cBody_some _ _ _ _ (bindT_1 1 _ _)]
    simp! [idx_t0, cBody2_t, cBody3_ok, wipeS]) bl
  have lc : (bl.map fun t => D.str t.1).length < cap := lt_cap (by rw [List.length_map]; omega)
  simp only [startS, bOrder, List.map, List.replicate, List.cons_append, List.nil_append, List.length]
  simp! [ly_blk, List.all_cons, List.all_nil, v, Bool.and_self, wipeS, lp, if_pos lc, backS, Option.getD_some, tup_lst]
theorem free_spec (h : Has S f false 2 1 bFree) (hn : 1 ≤ n) (hl : bl.length ≤ 1000) : S.run n f none [lyD cp bl] = .ret (.int (cp - (bl.map (·.2.2)).sum)) none := by
  obtain ⟨n, rfl⟩ : ∃ k, n = k + 1 := ⟨n - 1, by omega⟩
  rw [h.run n _ _ rfl rfl]
  have v : isVal (some SD.un) = true := rfl
  have lp := cm_lp (CF := S.CF) (Φ := S.run n) (g := tpD) (h := fun t => .int t.2.2) (v := 1) (el := .idx (.var 1) (.int 2)) (S := [.val (lyD cp bl), .un]) (fun t => by
    unfold tpD
    rw [cBody_some _ _ _ _ (bindT_1 1 _ _)]
    simp! [idx_tt2, cBody2_t, cBody3_ok, wipeS]) bl
  have lc : (bl.map fun t => D.int t.2.2).length < cap := lt_cap (by rw [List.length_map]; omega)
  have sm := sum_map (fun t : T3 => t.2.2) bl
  simp only [startS, bFree, List.map, List.replicate, List.cons_append, List.nil_append, List.length]
  simp! [ly_blk, ly_cap, List.all_cons, List.all_nil, v, Bool.and_self, wipeS, lp, if_pos lc, backS, Option.getD_some, sm]
theorem gapsL_spec (h : Has S f false 4 1 bGapsL) (hn : 1 ≤ n) (hl : bl.length ≤ 1000) : S.run n f none [lyD cp bl] = .ret (.tup ((gpL 0 cp bl).map fun p => .int p.2)) none := by
  obtain ⟨n, rfl⟩ : ∃ k, n = k + 1 := ⟨n - 1, by omega⟩
  rw [h.run n _ _ rfl rfl]
  obtain ⟨S', e, gs, en, s3, rfl, hg, hll⟩ := loop_nx (CF := S.CF) (Φ := S.run n) (ts := [3]) (b := bGLL) (fun i S' => ∃ (gs : List (Int × Int)) (en : Int) (s3 : SD), S' = [.val (lyD cp bl), .own true (.lst (gs.map fun p => .int p.2)), .val (.int en), s3] ∧ gs ++ gpL en cp (bl.drop i) = gpL 0 cp bl ∧ gs.length = i) (bl.map tpD) 0 [.val (lyD cp bl), .own true (.lst []), .val (.int 0), .un] ⟨[], 0, .un, rfl, rfl, rfl⟩ fun j x S' hx ⟨gs, en, s3, eS, hg, hll⟩ => by
    subst eS
    rw [Nat.zero_add] at hg ⊢
    have hj : j < bl.length := by
      have := (List.getElem?_eq_some_iff.1 hx).1
      rwa [List.length_map] at this
    rw [List.getElem?_map, List.getElem?_eq_getElem hj] at hx
    cases hx
    have cf : (gs.map fun p => D.int p.2).length < cap := lt_cap (by rw [List.length_map]; omega)
    have i1 : idxD (tpD bl[j]) (.int 1) = some (.int bl[j].2.1) := idx_t1
    have i2 : idxD (tpD bl[j]) (.int 2) = some (.int bl[j].2.2) := idx_tt2
    rw [sBody_some _ _ (bindT_1 3 _ _), bGLL]
    simp! [i1, i2, if_pos cf]
    refine ⟨_, .inl rfl, gs ++ [(en, bl[j].2.1 - en)], _, _, by rw [List.map_append]; rfl, ?_, by simp; omega⟩
    rw [List.drop_eq_getElem_cons hj, gpL] at hg
    rw [List.append_assoc]
    exact hg
  rw [Nat.zero_add, List.length_map] at hll
  rw [Nat.zero_add, List.length_map, List.drop_length, gpL] at hg
  have ad : binD .add (.lst (gs.map fun p => .int p.2)) (.lst [.int (cp - en)]) = some (.lst ((gs.map fun p => .int p.2) ++ [.int (cp - en)])) := add_lst (by rw [List.length_map]; simp; omega)
  simp only [startS, bGapsL, List.map, List.replicate, List.cons_append, List.nil_append, List.length]
  simp! [ly_blk, ly_cap, e, ad, tup_lst]
  rw [← hg, List.map_append]; rfl
theorem handed_spec (H : Hlp S) (h13 : Has S 13 true 4 2 bShaped) (h : Has S f true 3 2 bHanded) (hn : 5 ≤ n) {o : OC} (po : Pool o) (L : LayOk cp bl) :
    ∃ (dB : D) (ul : List U3) (o' : OC), S.run n f (some o) [lyD cp bl] = .ret (.tup [.int cp, dB]) (some o') ∧ Pool o' ∧ Lk (ul.map shD) dB ∧ (ul.map (·.2)).Perm bl := by
  obtain ⟨n, rfl⟩ : ∃ k, n = k + 1 := ⟨n - 1, by omega⟩
  rw [h.run n _ _ rfl rfl]
  have ln := L.len
  obtain ⟨ds, o1, e1, p1, hp⟩ := some_all H.take H.some (n := n) (by omega) po (xs := bl.map tpD) (by rw [List.length_map]; omega)
  have hb : ∀ d ∈ ds, Blk d := fun d hd => by
    obtain ⟨t, ht, rfl⟩ := List.mem_map.1 (hp.mem_iff.1 hd)
    exact ⟨_, _, _, rfl, by have := (L.nm t ht).le; omega⟩
  have hl := hp.length_eq
  rw [List.length_map] at hl
  obtain ⟨dB, o2, bs', e2, p2, kB, f2⟩ := shaped_blks H h13 (n := n) (by omega) p1 hb (by omega)
  obtain ⟨ul, rfl, hul, htl⟩ := f2_ul f2
  have lq := len_tup (bl.map tpD)
  simp only [startS, bHanded, List.map, List.replicate, List.cons_append, List.nil_append, List.length]
  simp! [ly_blk, ly_cap, lst_tup, lq, e1, ofFO_ret, e2]
  refine ⟨dB, ul, o2, rfl, p2, kB, ?_⟩
  rw [hul] at hp
  generalize ul.map (·.2) = tl at hp ⊢
  have un : ∀ d : D, ∃ g : D → Option T3, ∀ t, g (tpD t) = some t := fun _ => ⟨fun d => match d with | .tup [.str a, .int b, .int c] => some (a, b, c) | _ => none, fun ⟨a, b, c⟩ => rfl⟩
  obtain ⟨g, hg⟩ := un .non
  have := hp.map g
  rw [List.map_map, List.map_map] at this
  have cmp : ∀ l : List T3, l.map (g ∘ tpD) = l.map some := fun l => List.map_congr_left fun t _ => hg t
  rw [cmp, cmp] at this
  have := this.filterMap id
  rw [List.filterMap_map, List.filterMap_map] at this
  simpa using this
end

set_option linter.all false
set_option maxRecDepth 100000
set_option maxHeartbeats 4000000
open PySem PySem.Spec PyProof.Rows L2

/-! ### any layout; o is the number of _law_order -/
def bAnyL (o : Nat) : Bs := (.cons (.asg 1 (.callO 18 0 (.cons (.int 12) .nil))) (.cons (.iff (.disj (.cmp .gt (.callO 8 0 (.cons (.int 6) .nil)) (.int 0)) (.not (.idx (.var 1) (.str "blocks")))) (.cons (.ret (.var 1)) .nil) .nil) (.cons (.asgN 2 (.cmpr [("block", 3)] [3] (.idx (.var 1) (.str "blocks")) .hole (.idx (.var 3) (.int 2)))) (.cons (.six 2 (.callO 8 0 (.cons (.lenO 2) .nil)) (.bin .pow (.int 10) (.int 30))) (.cons (.ret (.call 17 (.cons (.call o (.cons (.var 1) .nil)) (.cons (.var 2) (.cons (.callO 16 0 (.cons (.bin .sub (.bin .pow (.int 10) (.int 31)) (.bi .sum (.cons (.var 2) .nil))) (.cons (.lenO 2) .nil))) .nil))))) .nil)))))
theorem any_layout_spec {S : Src} {f od : Nat} (H : Hlp S) (ho : Has S od false 2 1 bOrder) (h : Has S f true 4 1 (bAnyL od)) {n : Nat} (hn : 6 ≤ n) {o : OC} (po : Pool o) :
    ∃ (c : Int) (bl : List T3) (o' : OC), S.run n f (some o) [] = .ret (lyD c bl) (some o') ∧ Pool o' ∧ LayOk c bl := by
  obtain ⟨n, rfl⟩ : ∃ k, n = k + 1 := ⟨n - 1, by omega⟩
  rw [h.run n _ _ rfl rfl]
  obtain ⟨c, bl, o1, e1, p1, L, sb, lb⟩ := layout_specX H (n := n) (by omega) po (m := 12) (by decide) (by decide)
  have e1' : S.run n 18 (some o) [.int 12] = .ret (lyD c bl) (some o1) := e1
  obtain ⟨d2, o2, e2, p2, a2, b2⟩ := take_to H.take (n := n) (by omega) p1 (m := 6) (by decide) (by decide)
  have v : isVal (some SD.un) = true := rfl
  have nz : ∀ (b : Bool), truD (.bl b) = some b := fun _ => rfl
  have tt : truD (.tup (bl.map tpD)) = some (!(bl.map tpD).isEmpty) := rfl
  simp only [startS, bAnyL, List.map, List.replicate, List.cons_append, List.nil_append, List.length]
  by_cases g : 0 < d2
  · simp! [e1', ofFO_ret, e2, g]
    exact ⟨c, bl, o2, rfl, p2, L⟩
  · cases hb : bl with
    | nil =>
      rw [hb] at e1' L
      have tn : truD (.tup []) = some false := rfl
      simp! [e1', ofFO_ret, e2, g, ly_blk, tn, Bool.not_true, Bool.not_false]
      exact ⟨c, [], o2, rfl, p2, L⟩
    | cons t0 tl =>
      have ne : (bl.map tpD).isEmpty = false := by rw [hb]; rfl
      have pos : 0 < bl.length := by rw [hb, List.length_cons]; omega
      have lp := cm_lp (CF := S.CF) (Φ := S.run n) (g := tpD) (h := fun t => .int t.2.2) (v := 3) (el := .idx (.var 3) (.int 2)) (S := [.own false o2, .val (lyD c bl), .un, .un]) (fun t => by
        unfold tpD
        rw [cBody_some _ _ _ _ (bindT_1 3 _ _)]
        simp! [idx_tt2, cBody2_t, cBody3_ok, wipeS]) bl
      obtain ⟨ss, hss⟩ : ∃ ss : List Int, ss = bl.map (·.2.2) := ⟨_, rfl⟩
      have es : (bl.map fun t => D.int t.2.2) = ss.map .int := by rw [hss, List.map_map]; rfl
      rw [es] at lp
      have lss : ss.length = bl.length := by rw [hss, List.length_map]
      have lc : (ss.map D.int).length < cap := lt_cap (by rw [List.length_map]; omega)
      obtain ⟨q, hq⟩ : ∃ q : Int, q = (ss.length : Int) := ⟨_, rfl⟩
      obtain ⟨d3, o3, e3, p3, a3, b3⟩ := take_to H.take (n := n) (by omega) p2 (m := q) (by omega) (by omega)
      have ei : ixN (ss.map D.int).length d3 = some d3.toNat := ixN_in a3 (by rw [List.length_map]; omega)
      have lt3 : d3.toNat < ss.length := by omega
      obtain ⟨s2, hs2⟩ : ∃ s2 : List Int, s2 = ss.set d3.toNat 1000000000000000000000000000000 := ⟨_, rfl⟩
      have es2 : (ss.map D.int).set d3.toNat (.int 1000000000000000000000000000000) = s2.map .int := by rw [hs2, List.map_set]
      have ls2 : s2.length = bl.length := by rw [hs2, List.length_set, lss]
      have sss : ∀ x ∈ ss, 1 ≤ x ∧ x ≤ SB := fun x hx => by
        rw [hss] at hx
        obtain ⟨t, ht, rfl⟩ := List.mem_map.1 hx
        exact ⟨(L.sz t ht).1, sb t ht⟩
      have ss2 : ∀ x ∈ s2, 1 ≤ x ∧ x ≤ 1000000000000000000000000000000 := fun x hx => by
        rw [hs2] at hx
        rcases List.mem_or_eq_of_mem_set hx with z | z
        · have := sss x z
          unfold SB at this
          omega
        · omega
      have sum1 : ss.sum ≤ 5400000000000000000000000000024 := by
        have h1 : ss.sum ≤ SB * (ss.length : Int) := sum_le fun x hx => (sss x hx).2
        have h2 : SB * (ss.length : Int) ≤ SB * 12 := Int.mul_le_mul_of_nonneg_left (by omega) (by decide)
        have e : SB * 12 = 5400000000000000000000000000024 := by decide
        omega
      have sum2 : s2.sum ≤ 6400000000000000000000000000024 := by
        have := sum_add ss d3.toNat (1000000000000000000000000000000 - ss[d3.toNat]) ss[d3.toNat] (List.getElem?_eq_getElem lt3)
        rw [show ss[d3.toNat] + (1000000000000000000000000000000 - ss[d3.toNat]) = 1000000000000000000000000000000 by omega, ← hs2] at this
        have := (sss _ (List.getElem_mem lt3)).1
        omega
      have sm : biD .sum [.lst (s2.map .int)] = some (.int s2.sum) := by
        have := sum_map (fun x : Int => x) s2
        rw [List.map_id''] at this
        · exact this
        · exact fun _ => rfl
      have eo := order_spec (n := n) (cp := c) (bl := bl) ho (by omega) (by omega)
      obtain ⟨ns, hns⟩ : ∃ ns : List Str, ns = bl.map (·.1) := ⟨_, rfl⟩
      have en : (bl.map fun t => D.str t.1) = ns.map .str := by rw [hns, List.map_map]; rfl
      rw [en] at eo
      have lns : ns.length = bl.length := by rw [hns, List.length_map]
      obtain ⟨gs, o9, e9, p9, h9, l9, s9⟩ := parted_specX H.take H.far H.some H.parted (n := n) (by omega) p3 (fr := 10000000000000000000000000000000 - s2.sum) (m := q) (by omega) (by omega) (by omega)
      obtain ⟨g1, tk, e10⟩ := placed_specT H.placed (n := n) (by omega) (ns := ns) (ss := s2) (gs := gs) (by omega) (by omega) (by omega)
      have lt : (gs.take ns.length).length = ns.length := by rw [List.length_take]; omega
      have ls : s2.length = ns.length := by omega
      obtain ⟨q1', q2', q3'⟩ := plc_fst ns s2 (gs.take ns.length) 0 ls lt
      have sg : (gs.take ns.length).sum + g1 = 10000000000000000000000000000000 - s2.sum := by
        rw [← s9]
        conv => rhs; rw [tk]
        rw [List.sum_append]; simp
      have lbp : (plc 0 ns s2 (gs.take ns.length)).length = ns.length := by
        have := congrArg List.length q1'
        rwa [List.length_map] at this
      have q0 : (ss.map D.int).length = ss.length := List.length_map ..
      have qq : ((ss.map D.int).length : Int) = q := by rw [q0, hq]
      have qq2 : ((s2.map D.int).length : Int) = q := by rw [List.length_map]; omega
      simp! [e1', ofFO_ret, e2, g, ly_blk, tt, ne, Bool.not_false, Bool.not_true, List.all_cons, List.all_nil, v, Bool.and_self, wipeS, lp, if_pos lc, backS, Option.getD_some, pow_30, qq, e3, ei, es2, eo, ofF_ret, sm, pow_31, qq2, e9, e10]
      refine ⟨_, _, o9, rfl, p9, fun t ht => ?_, by rw [q1', hns]; exact L.nd, fun t ht => ss2 _ (by rw [← q2']; exact List.mem_map_of_mem ht), ?_, ?_, by have := L.len; omega⟩
      · have : t.1 ∈ ns := by rw [← q1']; exact List.mem_map_of_mem ht
        rw [hns] at this
        obtain ⟨u, hu, e⟩ := List.mem_map.1 this
        rw [← e]; exact L.nm u hu
      · exact plc_asc ns s2 (gs.take ns.length) 0 g1 ls lt (fun x hx => h9 x (List.mem_of_mem_take hx)) (h9 g1 (by rw [tk]; simp))
      · rw [q3']; omega

set_option linter.all false
set_option maxRecDepth 100000
set_option maxHeartbeats 4000000
open PySem PySem.Spec PyProof.Rows L2

/-! ### runs of gaps -/
theorem cut_ab {α : Type} (xs : List α) {a b : Nat} (h1 : a ≤ b) (h2 : b ≤ xs.length) : cutD xs (some (a : Int)) (some (b : Int)) = (xs.drop a).take (b - a) := by
  have e0 : HT.sIx xs.length 0 (some (a : Int)) = a := by
    simp only [HT.sIx]
    split <;> omega
  have e1 : HT.sIx xs.length xs.length (some (b : Int)) = b := by
    simp only [HT.sIx]
    split <;> omega
  unfold cutD
  rw [e0, e1]
theorem slv_tup (xs : List D) (lo hi : Option Int) : slvD (.tup xs) lo hi = some (.tup (cutD xs lo hi)) := rfl
def gsum (gs : List (Int × Int)) (i b : Nat) : Int := (((gs.drop i).take (b + 1 - i)).map (·.2)).sum
def csum (bl : List T3) (i b : Nat) : Int := (((bl.drop i).take (b - i)).map (·.2.2)).sum
abbrev R3 := Int × Nat × Nat
def r3D (r : R3) : D := .tup [.int r.1, .int (r.2.1 : Int), .int (r.2.2 : Int)]
def rowI (gs : List (Int × Int)) (bl : List T3) (len : Int) (i m : Nat) : List R3 := (List.range' i m).filterMap fun b => if len ≤ gsum gs i b then some (csum bl i b, i, b) else none
def rowsI (gs : List (Int × Int)) (bl : List T3) (len : Int) (k : Nat) : List R3 := (List.range k).flatMap fun i => rowI gs bl len i (gs.length - i)
theorem rowI_succ (gs : List (Int × Int)) (bl : List T3) (len : Int) (i m : Nat) : rowI gs bl len i (m + 1) = rowI gs bl len i m ++ (if len ≤ gsum gs i (i + m) then [(csum bl i (i + m), i, i + m)] else []) := by
  unfold rowI
  rw [List.range'_concat, List.filterMap_append, Nat.one_mul]
  congr 1
  by_cases h : len ≤ gsum gs i (i + m) <;> simp [h]
theorem rowsI_succ (gs : List (Int × Int)) (bl : List T3) (len : Int) (k : Nat) : rowsI gs bl len (k + 1) = rowsI gs bl len k ++ rowI gs bl len k (gs.length - k) := by
  unfold rowsI
  rw [List.range_succ, List.flatMap_append]; simp
theorem rowI_len (gs : List (Int × Int)) (bl : List T3) (len : Int) (i m : Nat) : (rowI gs bl len i m).length ≤ m := by
  unfold rowI
  exact Nat.le_trans (List.length_filterMap_le _ _) (by rw [List.length_range']; omega)
theorem rowsI_len (gs : List (Int × Int)) (bl : List T3) (len : Int) : ∀ k, (rowsI gs bl len k).length ≤ k * gs.length
  | 0 => by simp [rowsI]
  | k + 1 => by
    rw [rowsI_succ, List.length_append, Nat.succ_mul]
    have := rowsI_len gs bl len k
    have := rowI_len gs bl len k (gs.length - k)
    omega
def bLRa : B := (.exp (.app 2 (.tup (.cons (.bi .sum (.cons (.cmpr [("_", 6), ("size", 8)] [6, 6, 8] (.slV (.fld (.var 0) "blocks") (.var 4) (.var 5)) .hole (.var 8)) .nil)) (.cons (.var 4) (.cons (.var 5) .nil))))))
def bLRi : Bs := (.cons (.iff (.cmp .ge (.bi .sum (.cons (.cmpr [("_", 6), ("cells", 7)] [6, 7] (.slV (.var 3) (.var 4) (.bin .add (.var 5) (.int 1))) .hole (.var 7)) .nil)) (.var 1)) (.cons bLRa .nil) .nil) .nil)
def bLRo : Bs := (.cons (.for [5] (.rng (.cons (.var 4) (.cons (.bi .len (.cons (.var 3) .nil)) .nil))) bLRi) .nil)
def bLongRuns : Bs := (.cons (.asgN 2 (.lst .nil)) (.cons (.asg 3 (.fld (.var 0) "gaps")) (.cons (.for [4] (.rng (.cons (.bi .len (.cons (.var 3) .nil)) .nil)) bLRo) (.cons (.ret (.var 2)) .nil))))
def lyO (cp : Int) (bl : List T3) (mx : Int) : D := .obj 0 lyF [.int cp, .tup (bl.map tpD), .tup (bl.map fun t => .str t.1), .int (cp - (bl.map (·.2.2)).sum), .tup ((gpL 0 cp bl).map gpD), .int mx]
theorem fld_ok {CF : Nat → List Str} (hc : CF 0 = lyF) {f : Str} {d : D} {vs : List D} {S : List SD} (h : f ∈ lyF) (hp : (lyF.zip vs).lookup f = some d) : kFld CF f (.ok (.obj 0 lyF vs) S) = .ok d S := by
  rw [kFld_ok]
  show (if (0 : Nat) < 500 ∧ f ∈ CF 0 then ofO ((lyF.zip vs).lookup f) S else .stuck) = _
  rw [if_pos ⟨by decide, by rw [hc]; exact h⟩, hp]
  rfl
theorem fld_blk {CF : Nat → List Str} (hc : CF 0 = lyF) {cp mx : Int} {bl : List T3} {S : List SD} : kFld CF "blocks" (.ok (lyO cp bl mx) S) = .ok (.tup (bl.map tpD)) S := fld_ok hc (by decide) rfl
theorem fld_gps {CF : Nat → List Str} (hc : CF 0 = lyF) {cp mx : Int} {bl : List T3} {S : List SD} : kFld CF "gaps" (.ok (lyO cp bl mx) S) = .ok (.tup ((gpL 0 cp bl).map gpD)) S := fld_ok hc (by decide) rfl
theorem fld_fre {CF : Nat → List Str} (hc : CF 0 = lyF) {cp mx : Int} {bl : List T3} {S : List SD} : kFld CF "free" (.ok (lyO cp bl mx) S) = .ok (.int (cp - (bl.map (·.2.2)).sum)) S := fld_ok hc (by decide) rfl
theorem run_step {S : Src} (hc : S.CF 0 = lyF) {n : Nat} {cp mx len : Int} {bl : List T3} (hl : bl.length ≤ 12) {R : List R3} (hR : R.length ≤ 1000) {i b : Nat} (hib : i ≤ b) (hb : b < bl.length + 1) {s5 : SD} :
    sBody S.CF (S.run n) [5] bLRi (.int (b : Int)) [.val (lyO cp bl mx), .val (.int len), .own true (.lst (R.map r3D)), .val (.tup ((gpL 0 cp bl).map gpD)), .val (.int (i : Int)), s5, .un, .un, .un] =
      .nx [.val (lyO cp bl mx), .val (.int len), .own true (.lst ((R ++ (if len ≤ gsum (gpL 0 cp bl) i b then [(csum bl i b, i, b)] else [])).map r3D)), .val (.tup ((gpL 0 cp bl).map gpD)), .val (.int (i : Int)), .val (.int (b : Int)), .un, .un, .un] := by
  have lg := gpL_len bl 0 cp
  obtain ⟨gs, hgs⟩ : ∃ gs, gs = gpL 0 cp bl := ⟨_, rfl⟩
  have v : isVal (some SD.un) = true := rfl
  obtain ⟨p, hp⟩ : ∃ p : Int, p = (i : Int) := ⟨_, rfl⟩
  obtain ⟨q, hq⟩ : ∃ q : Int, q = (b : Int) := ⟨_, rfl⟩
  have c1 : cutD ((gpL 0 cp bl).map gpD) (some p) (some (q + 1)) = ((gpL 0 cp bl).drop i |>.take (b + 1 - i)).map gpD := by
    rw [hp, hq, show ((b : Int) + 1) = ((b + 1 : Nat) : Int) by omega, cut_ab _ (by omega) (by rw [List.length_map]; omega), List.map_take, List.map_drop]
  have c2 : cutD (bl.map tpD) (some p) (some q) = (bl.drop i |>.take (b - i)).map tpD := by
    rw [hp, hq, cut_ab _ hib (by rw [List.length_map]; omega), List.map_take, List.map_drop]
  rw [sBody_some _ _ (bindT_1 5 _ _), ← hp, ← hq]
  have lp1 := fun s2 => cm_lp2 (CF := S.CF) (Φ := S.run n) (g := gpD) (h := fun t => .int t.2) (u := 6) (v := 7) (el := .var 7) (S := [.val (lyO cp bl mx), .val (.int len), s2, .val (.tup ((gpL 0 cp bl).map gpD)), .val (.int p), .val (.int q), .un, .un, .un]) (fun t => by
    unfold gpD
    rw [cBody_some _ _ _ _ bindT_2]
    simp! [cBody2_t, cBody3_ok, wipeS]) ((gpL 0 cp bl).drop i |>.take (b + 1 - i))
  have lp2 : ∀ (s2 : SD) (l : List T3), loopC (cBody S.CF (S.run n) [6, 8] [6, 6, 8] .hole (.var 8)) (l.map tpD) [.val (lyO cp bl mx), .val (.int len), s2, .val (.tup ((gpL 0 cp bl).map gpD)), .val (.int p), .val (.int q), .un, .un, .un] = .ok (l.map fun t => .int t.2.2) [.val (lyO cp bl mx), .val (.int len), s2, .val (.tup ((gpL 0 cp bl).map gpD)), .val (.int p), .val (.int q), .un, .un, .un] := fun s2 l => by
    induction l with
    | nil => rfl
    | cons t l ih =>
      have one : cBody S.CF (S.run n) [6, 8] [6, 6, 8] .hole (.var 8) (tpD t) [.val (lyO cp bl mx), .val (.int len), s2, .val (.tup ((gpL 0 cp bl).map gpD)), .val (.int p), .val (.int q), .un, .un, .un] = .ok (some (.int t.2.2)) [.val (lyO cp bl mx), .val (.int len), s2, .val (.tup ((gpL 0 cp bl).map gpD)), .val (.int p), .val (.int q), .un, .un, .un] := by
        unfold tpD
        rw [cBody_some _ _ _ _ bindT_3]
        simp! [cBody2_t, cBody3_ok, wipeS]
      rw [List.map_cons, loopC, one]
      simp only [Res.bind, ih]
      rfl
  have lc1 : (((gpL 0 cp bl).drop i |>.take (b + 1 - i)).map fun t => D.int t.2).length < cap := lt_cap (by rw [List.length_map, List.length_take, List.length_drop]; omega)
  have lc2 : ((bl.drop i |>.take (b - i)).map fun t => D.int t.2.2).length < cap := lt_cap (by rw [List.length_map, List.length_take, List.length_drop]; omega)
  have sm1 := sum_map (fun t : Int × Int => t.2) ((gpL 0 cp bl).drop i |>.take (b + 1 - i))
  have sm2 := sum_map (fun t : T3 => t.2.2) (bl.drop i |>.take (b - i))
  have g1 : (((gpL 0 cp bl).drop i |>.take (b + 1 - i)).map (·.2)).sum = gsum (gpL 0 cp bl) i b := rfl
  have g2 : ((bl.drop i |>.take (b - i)).map (·.2.2)).sum = csum bl i b := rfl
  rw [g1] at sm1
  rw [g2] at sm2
  have cf : (R.map r3D).length < cap := lt_cap (by rw [List.length_map]; omega)
  by_cases c : len ≤ gsum (gpL 0 cp bl) i b
  · unfold bLRi bLRa
    simp! [slv_tup, optI_i, c1, List.all_cons, List.all_nil, v, Bool.and_self, wipeS, lp1, if_pos lc1, backS, Option.getD_some, sm1, c, fld_blk hc, c2, lp2, if_pos lc2, sm2, if_pos cf, -kFld_ok]
    rw [List.map_append, hp, hq]; rfl
  · unfold bLRi bLRa
    simp! [slv_tup, optI_i, c1, List.all_cons, List.all_nil, v, Bool.and_self, wipeS, lp1, if_pos lc1, backS, Option.getD_some, sm1, c]
    simp
theorem r2_rng {a b : Nat} (h : a ≤ b) (hb : b ≤ 1000) : rngD [.int (a : Int), .int (b : Int)] = some ((List.range' a (b - a)).map fun (k : Nat) => .int (k : Int)) := by
  obtain ⟨p, hp⟩ : ∃ p : Int, p = (a : Int) := ⟨_, rfl⟩
  obtain ⟨q, hq⟩ : ∃ q : Int, q = (b : Int) := ⟨_, rfl⟩
  rw [← hp, ← hq]
  show (if (-(2 ^ 62) ≤ p ∧ p < 2 ^ 62) ∧ -(2 ^ 62) ≤ q ∧ q < 2 ^ 62 then some ((List.range (q - p).toNat).map fun (k : Nat) => D.int (p + (k : Int))) else none) = _
  rw [if_pos ⟨⟨by omega, by omega⟩, by omega, by omega⟩]
  congr 1
  have e : (q - p).toNat = b - a := by omega
  rw [e, List.range_eq_range']
  apply List.ext_getElem?
  intro i
  simp only [List.getElem?_map]
  by_cases h2 : i < b - a
  · simp [h2, List.getElem?_range', hp]
  · simp [h2, List.getElem?_range']

set_option linter.all false
set_option maxRecDepth 100000
set_option maxHeartbeats 4000000
open PySem PySem.Spec PyProof.Rows L2

/-! ### all runs -/
section
variable {S : Src} (hc : S.CF 0 = lyF) {n : Nat} {cp mx len : Int} {bl : List T3} (hl : bl.length ≤ 12)
include hc hl
theorem long_in {z : Int} (hz : z = ((bl.length + 1 : Nat) : Int)) {j : Nat} (hj : j < bl.length + 1) {x s5 : SD} :
    ∃ t5 : SD, sBody S.CF (S.run n) [4] bLRo (.int (j : Int)) [.val (lyO cp bl mx), .val (.int len), .own true (.lst ((rowsI (gpL 0 cp bl) bl len j).map r3D)), .val (.tup ((gpL 0 cp bl).map gpD)), x, s5, .un, .un, .un] =
      .nx [.val (lyO cp bl mx), .val (.int len), .own true (.lst ((rowsI (gpL 0 cp bl) bl len (j + 1)).map r3D)), .val (.tup ((gpL 0 cp bl).map gpD)), .val (.int (j : Int)), t5, .un, .un, .un] := by
  have lg := gpL_len bl 0 cp
  have lq : biD .len [.tup ((gpL 0 cp bl).map gpD)] = some (.int z) := by rw [len_tup, List.length_map, lg, hz]
  have r2 := r2_rng (a := j) (b := bl.length + 1) (by omega) (by omega)
  rw [← hz] at r2
  have l1 := rowsI_len (gpL 0 cp bl) bl len j
  have l2 : j * (gpL 0 cp bl).length ≤ 13 * 13 := Nat.mul_le_mul (by omega) (by omega)
  obtain ⟨S', e, t5, rfl⟩ := loop_nx (CF := S.CF) (Φ := S.run n) (ts := [5]) (b := bLRi) (fun m S' => ∃ t5 : SD, S' = [.val (lyO cp bl mx), .val (.int len), .own true (.lst ((rowsI (gpL 0 cp bl) bl len j ++ rowI (gpL 0 cp bl) bl len j m).map r3D)), .val (.tup ((gpL 0 cp bl).map gpD)), .val (.int (j : Int)), t5, .un, .un, .un]) ((List.range' j (bl.length + 1 - j)).map fun (k : Nat) => .int (k : Int)) 0 [.val (lyO cp bl mx), .val (.int len), .own true (.lst ((rowsI (gpL 0 cp bl) bl len j).map r3D)), .val (.tup ((gpL 0 cp bl).map gpD)), .val (.int (j : Int)), s5, .un, .un, .un] ⟨s5, by unfold rowI; simp⟩ fun m y S' hy ⟨t5, eS⟩ => by
    subst eS
    rw [Nat.zero_add] at *
    have hm : m < bl.length + 1 - j := by
      have := (List.getElem?_eq_some_iff.1 hy).1
      rwa [List.length_map, List.length_range'] at this
    have ey : y = .int ((j + m : Nat) : Int) := by
      rw [List.getElem?_map, List.getElem?_range' (by omega)] at hy
      simp only [Option.map_some, Option.some.injEq, Nat.one_mul] at hy
      exact hy.symm
    subst ey
    have l3 := rowI_len (gpL 0 cp bl) bl len j m
    have := run_step (S := S) hc (n := n) (cp := cp) (mx := mx) (len := len) hl (R := rowsI (gpL 0 cp bl) bl len j ++ rowI (gpL 0 cp bl) bl len j m) (by rw [List.length_append]; omega) (i := j) (b := j + m) (by omega) (by omega) (s5 := t5)
    refine ⟨_, .inl this, .val (.int ((j + m : Nat) : Int)), ?_⟩
    rw [rowI_succ, List.append_assoc]
  rw [Nat.zero_add, List.length_map, List.length_range'] at e
  refine ⟨t5, ?_⟩
  rw [rowsI_succ, lg]
  obtain ⟨p, hp⟩ : ∃ p : Int, p = (j : Int) := ⟨_, rfl⟩
  obtain ⟨rng, hr⟩ : ∃ rng, rng = (List.range' j (bl.length + 1 - j)).map fun (k : Nat) => D.int (k : Int) := ⟨_, rfl⟩
  rw [← hr, ← hp] at e r2
  rw [← hp]
  clear hp hr hz
  rw [sBody_some _ _ (bindT_1 4 _ _), bLRo]
  simp! [lq, r2, e]
theorem long_spec {f : Nat} (h : Has S f false 9 2 bLongRuns) : S.run (n + 1) f none [lyO cp bl mx, .int len] = .ret (.lst ((rowsI (gpL 0 cp bl) bl len (bl.length + 1)).map r3D)) none := by
  rw [h.run n _ _ rfl rfl]
  have lg := gpL_len bl 0 cp
  obtain ⟨z, hz⟩ : ∃ z : Int, z = ((bl.length + 1 : Nat) : Int) := ⟨_, rfl⟩
  have lq : biD .len [.tup ((gpL 0 cp bl).map gpD)] = some (.int z) := by rw [len_tup, List.length_map, lg, hz]
  have r1 := rng_int (i := z) (by omega) (by omega)
  obtain ⟨S', e, t4, t5, rfl⟩ := loop_nx (CF := S.CF) (Φ := S.run n) (ts := [4]) (b := bLRo) (fun m S' => ∃ t4 t5 : SD, S' = [.val (lyO cp bl mx), .val (.int len), .own true (.lst ((rowsI (gpL 0 cp bl) bl len m).map r3D)), .val (.tup ((gpL 0 cp bl).map gpD)), t4, t5, .un, .un, .un]) (rngL z.toNat) 0 [.val (lyO cp bl mx), .val (.int len), .own true (.lst []), .val (.tup ((gpL 0 cp bl).map gpD)), .un, .un, .un, .un, .un] ⟨.un, .un, rfl⟩ fun m y S' hy ⟨t4, t5, eS⟩ => by
    subst eS
    rw [Nat.zero_add] at *
    obtain ⟨rfl, hm⟩ := rngL_get hy
    obtain ⟨u5, e⟩ := long_in hc hl (n := n) (cp := cp) (mx := mx) (len := len) hz (j := m) (by omega) (x := t4) (s5 := t5)
    exact ⟨_, .inl e, _, _, rfl⟩
  rw [Nat.zero_add, rngL_len] at e
  have ez : z.toNat = bl.length + 1 := by omega
  rw [ez] at e r1
  simp only [startS, bLongRuns, List.map, List.replicate, List.cons_append, List.nil_append, List.length]
  simp! [fld_gps hc, lq, r1, e, -kFld_ok]
end
/-! ### tuples of whole numbers, compared -/
def iD (xs : List Int) : D := .tup (xs.map .int)
theorem toP_iD (xs : List Int) : toP (iD xs) = .tuple (xs.map .int) := by
  unfold iD
  rw [toP, toPs_map, List.map_map]
  rfl
theorem lt_iD (xs ys : List Int) : PySem.W.dataLt (toP (iD xs)) (toP (iD ys)) = decide (xs < ys) := by
  rw [toP_iD, toP_iD, PySem.W.dataLt_tuple]
  exact PySem.W.dataLt_ints xs ys
theorem le_iD (xs ys : List Int) : leD (iD xs) (iD ys) = !decide (ys < xs) := by
  rw [← lt_iD]; rfl
theorem isP_ints : ∀ xs : List Int, isPs (xs.map .int) = true
  | [] => rfl
  | x :: xs => by rw [List.map_cons, isPs, isP_ints xs]; rfl
theorem depth_iD (xs : List Int) : (toP (iD xs)).depth ≤ 60 := by
  rw [toP_iD]
  have : ∀ xs : List Int, PyData.depthAll (xs.map .int) ≤ 1 := fun xs => by
    induction xs with
    | nil => simp [PyData.depthAll]
    | cons x xs ih => simp only [List.map_cons, PyData.depthAll, PyData.depth]; omega
  have := this xs
  simp only [PyData.depth]; omega
theorem srtOk_iD {xss : List (List Int)} (h0 : ∀ xs ∈ xss, xs ≠ []) (hl : xss.length ≤ 100000) : srtOk (xss.map iD) = true := by
  unfold srtOk
  simp only [Bool.and_eq_true, decide_eq_true_eq, List.all_eq_true, List.mem_map, List.length_map]
  refine ⟨⟨⟨⟨le_cap hl, ?_⟩, ?_⟩, ?_⟩, ?_⟩
  · clear h0 hl
    induction xss with
    | nil => rfl
    | cons x xs ih =>
      rw [List.map_cons, isPs, ih]
      show (isP (.tup _) && true) = true
      rw [isP, isP_ints]; rfl
  · rintro a ⟨xs, -, rfl⟩ b ⟨ys, -, rfl⟩
    rw [toP_iD, toP_iD]
    simp only [PySem.W.alike]
    exact PySem.W.alike_ints xs ys
  · rintro a ⟨xs, hx, rfl⟩
    have := h0 xs hx
    cases xs with
    | nil => exact absurd rfl this
    | cons x xs => rfl
  · rintro a ⟨xs, -, rfl⟩
    exact depth_iD xs
theorem minOk_iD {xss : List (List Int)} (h0 : ∀ xs ∈ xss, xs ≠ []) (hl : xss.length ≤ 100000) : minOk (xss.map iD) = true := by
  unfold minOk
  rw [srtOk_iD h0 hl, Bool.true_and, decide_eq_true_eq]
  clear h0 hl
  induction xss with
  | nil => simp [toPs, PyData.depthAll]
  | cons x xs ih =>
    have := depth_iD x
    simp only [List.map_cons, toPs, PyData.depthAll]
    omega
theorem minDD_iD (x : List Int) : ∀ xss : List (List Int), minDD (iD x) (xss.map iD) = iD (xss.foldl (fun a y => if y < a then y else a) x) := fun xss => by
  unfold minDD
  induction xss generalizing x with
  | nil => rfl
  | cons y ys ih =>
    rw [List.map_cons, List.foldl_cons, List.foldl_cons, lt_iD]
    by_cases h : y < x
    · simp only [h, decide_true, if_true]; exact ih y
    · simp only [h, decide_false, Bool.false_eq_true, if_false]; exact ih x

set_option linter.all false
set_option maxRecDepth 100000
set_option maxHeartbeats 4000000
open PySem PySem.Spec PyProof.Rows L2

/-! ### the law's own runs -/
def r3M (r : R3) : D := .tup [.int r.1, .int (r.2.1 : Int), .int ((r.2.2 : Int) - (r.2.1 : Int))]
def bRLa : B := (.exp (.app 3 (.tup (.cons (.bi .sum (.cons (.cmpr [("block", 6)] [6] (.slV (.idx (.var 0) (.str "blocks")) (.var 4) (.var 5)) .hole (.idx (.var 6) (.int 2))) .nil)) (.cons (.var 4) (.cons (.bin .sub (.var 5) (.var 4)) .nil))))))
def bRLi : Bs := (.cons (.iff (.cmp .ge (.bi .sum (.cons (.slV (.var 2) (.var 4) (.bin .add (.var 5) (.int 1))) .nil)) (.var 1)) (.cons bRLa .nil) .nil) .nil)
def bRLo : Bs := (.cons (.for [5] (.rng (.cons (.var 4) (.cons (.bi .len (.cons (.var 2) .nil)) .nil))) bRLi) .nil)
def bRunsL (g : Nat) : Bs := (.cons (.asg 2 (.call g (.cons (.var 0) .nil))) (.cons (.asgN 3 (.lst .nil)) (.cons (.for [4] (.rng (.cons (.bi .len (.cons (.var 2) .nil)) .nil)) bRLo) (.cons (.ret (.bi .srt (.cons (.var 3) .nil))) .nil))))
theorem sum_mapT {T : Type} (f : T → Int) (l : List T) : biD .sum [.tup (l.map fun t => .int (f t))] = some (.int (l.map f).sum) := sum_map f l
section
variable {S : Src} {n : Nat} {cp len : Int} {bl : List T3} (hl : bl.length ≤ 12)
include hl
theorem runL_step {R : List R3} (hR : R.length ≤ 1000) {i b : Nat} (hib : i ≤ b) (hb : b < bl.length + 1) {s5 : SD} :
    sBody S.CF (S.run n) [5] bRLi (.int (b : Int)) [.val (lyD cp bl), .val (.int len), .val (.tup ((gpL 0 cp bl).map fun p => .int p.2)), .own true (.lst (R.map r3M)), .val (.int (i : Int)), s5, .un] =
      .nx [.val (lyD cp bl), .val (.int len), .val (.tup ((gpL 0 cp bl).map fun p => .int p.2)), .own true (.lst ((R ++ (if len ≤ gsum (gpL 0 cp bl) i b then [(csum bl i b, i, b)] else [])).map r3M)), .val (.int (i : Int)), .val (.int (b : Int)), .un] := by
  have lg := gpL_len bl 0 cp
  have v : isVal (some SD.un) = true := rfl
  obtain ⟨p, hp⟩ : ∃ p : Int, p = (i : Int) := ⟨_, rfl⟩
  obtain ⟨q, hq⟩ : ∃ q : Int, q = (b : Int) := ⟨_, rfl⟩
  have c1 : cutD ((gpL 0 cp bl).map fun p => D.int p.2) (some p) (some (q + 1)) = ((gpL 0 cp bl).drop i |>.take (b + 1 - i)).map fun p => D.int p.2 := by
    rw [hp, hq, show ((b : Int) + 1) = ((b + 1 : Nat) : Int) by omega, cut_ab _ (by omega) (by rw [List.length_map]; omega), List.map_take, List.map_drop]
  have c2 : cutD (bl.map tpD) (some p) (some q) = (bl.drop i |>.take (b - i)).map tpD := by
    rw [hp, hq, cut_ab _ hib (by rw [List.length_map]; omega), List.map_take, List.map_drop]
  rw [sBody_some _ _ (bindT_1 5 _ _), ← hp, ← hq]
  have lp2 := fun s3 => cm_lp (CF := S.CF) (Φ := S.run n) (g := tpD) (h := fun t => .int t.2.2) (v := 6) (el := .idx (.var 6) (.int 2)) (S := [.val (lyD cp bl), .val (.int len), .val (.tup ((gpL 0 cp bl).map fun p => .int p.2)), s3, .val (.int p), .val (.int q), .un]) (fun t => by
    unfold tpD
    rw [cBody_some _ _ _ _ (bindT_1 6 _ _)]
    simp! [idx_tt2, cBody2_t, cBody3_ok, wipeS]) (bl.drop i |>.take (b - i))
  have lc2 : ((bl.drop i |>.take (b - i)).map fun t => D.int t.2.2).length < cap := lt_cap (by rw [List.length_map, List.length_take, List.length_drop]; omega)
  have sm1 := sum_mapT (fun t : Int × Int => t.2) ((gpL 0 cp bl).drop i |>.take (b + 1 - i))
  have sm2 := sum_map (fun t : T3 => t.2.2) (bl.drop i |>.take (b - i))
  have g1 : (((gpL 0 cp bl).drop i |>.take (b + 1 - i)).map (·.2)).sum = gsum (gpL 0 cp bl) i b := rfl
  have g2 : ((bl.drop i |>.take (b - i)).map (·.2.2)).sum = csum bl i b := rfl
  rw [g1] at sm1
  rw [g2] at sm2
  have cf : (R.map r3M).length < cap := lt_cap (by rw [List.length_map]; omega)
  by_cases c : len ≤ gsum (gpL 0 cp bl) i b
  · unfold bRLi bRLa
    simp! [slv_tup, optI_i, c1, sm1, c, ly_blk, c2, List.all_cons, List.all_nil, v, Bool.and_self, wipeS, lp2, if_pos lc2, backS, Option.getD_some, sm2, if_pos cf]
    rw [List.map_append, hp, hq]; rfl
  · unfold bRLi bRLa
    simp! [slv_tup, optI_i, c1, sm1, c]
    simp
theorem runL_in {z : Int} (hz : z = ((bl.length + 1 : Nat) : Int)) {j : Nat} (hj : j < bl.length + 1) {x s5 : SD} :
    ∃ t5 : SD, sBody S.CF (S.run n) [4] bRLo (.int (j : Int)) [.val (lyD cp bl), .val (.int len), .val (.tup ((gpL 0 cp bl).map fun p => .int p.2)), .own true (.lst ((rowsI (gpL 0 cp bl) bl len j).map r3M)), x, s5, .un] =
      .nx [.val (lyD cp bl), .val (.int len), .val (.tup ((gpL 0 cp bl).map fun p => .int p.2)), .own true (.lst ((rowsI (gpL 0 cp bl) bl len (j + 1)).map r3M)), .val (.int (j : Int)), t5, .un] := by
  have lg := gpL_len bl 0 cp
  have lq : biD .len [.tup ((gpL 0 cp bl).map fun p => .int p.2)] = some (.int z) := by rw [len_tup, List.length_map, lg, hz]
  have r2 := r2_rng (a := j) (b := bl.length + 1) (by omega) (by omega)
  rw [← hz] at r2
  have l1 := rowsI_len (gpL 0 cp bl) bl len j
  have l2 : j * (gpL 0 cp bl).length ≤ 13 * 13 := Nat.mul_le_mul (by omega) (by omega)
  obtain ⟨S', e, t5, rfl⟩ := loop_nx (CF := S.CF) (Φ := S.run n) (ts := [5]) (b := bRLi) (fun m S' => ∃ t5 : SD, S' = [.val (lyD cp bl), .val (.int len), .val (.tup ((gpL 0 cp bl).map fun p => .int p.2)), .own true (.lst ((rowsI (gpL 0 cp bl) bl len j ++ rowI (gpL 0 cp bl) bl len j m).map r3M)), .val (.int (j : Int)), t5, .un]) ((List.range' j (bl.length + 1 - j)).map fun (k : Nat) => .int (k : Int)) 0 [.val (lyD cp bl), .val (.int len), .val (.tup ((gpL 0 cp bl).map fun p => .int p.2)), .own true (.lst ((rowsI (gpL 0 cp bl) bl len j).map r3M)), .val (.int (j : Int)), s5, .un] ⟨s5, by unfold rowI; simp⟩ fun m y S' hy ⟨t5, eS⟩ => by
    subst eS
    rw [Nat.zero_add] at *
    have hm : m < bl.length + 1 - j := by
      have := (List.getElem?_eq_some_iff.1 hy).1
      rwa [List.length_map, List.length_range'] at this
    have ey : y = .int ((j + m : Nat) : Int) := by
      rw [List.getElem?_map, List.getElem?_range' (by omega)] at hy
      simp only [Option.map_some, Option.some.injEq, Nat.one_mul] at hy
      exact hy.symm
    subst ey
    have l3 := rowI_len (gpL 0 cp bl) bl len j m
    have := runL_step (S := S) (n := n) (cp := cp) (len := len) hl (R := rowsI (gpL 0 cp bl) bl len j ++ rowI (gpL 0 cp bl) bl len j m) (by rw [List.length_append]; omega) (i := j) (b := j + m) (by omega) (by omega) (s5 := t5)
    refine ⟨_, .inl this, .val (.int ((j + m : Nat) : Int)), ?_⟩
    rw [rowI_succ, List.append_assoc]
  rw [Nat.zero_add, List.length_map, List.length_range'] at e
  refine ⟨t5, ?_⟩
  rw [rowsI_succ, lg]
  obtain ⟨p, hp⟩ : ∃ p : Int, p = (j : Int) := ⟨_, rfl⟩
  obtain ⟨rng, hr⟩ : ∃ rng, rng = (List.range' j (bl.length + 1 - j)).map fun (k : Nat) => D.int (k : Int) := ⟨_, rfl⟩
  rw [← hr, ← hp] at e r2
  rw [← hp]
  clear hp hr hz
  rw [sBody_some _ _ (bindT_1 4 _ _), bRLo]
  simp! [lq, r2, e]
theorem runsL_loop {z : Int} (hz : z = ((bl.length + 1 : Nat) : Int)) : ∃ t4 t5 : SD, sLoop S.CF (S.run n) [4] bRLo (rngL (bl.length + 1)) [.val (lyD cp bl), .val (.int len), .val (.tup ((gpL 0 cp bl).map fun p => .int p.2)), .own true (.lst []), .un, .un, .un] = .nx [.val (lyD cp bl), .val (.int len), .val (.tup ((gpL 0 cp bl).map fun p => .int p.2)), .own true (.lst ((rowsI (gpL 0 cp bl) bl len (bl.length + 1)).map r3M)), t4, t5, .un] := by
  obtain ⟨S', e, t4, t5, rfl⟩ := loop_nx (CF := S.CF) (Φ := S.run n) (ts := [4]) (b := bRLo) (fun m S' => ∃ t4 t5 : SD, S' = [.val (lyD cp bl), .val (.int len), .val (.tup ((gpL 0 cp bl).map fun p => .int p.2)), .own true (.lst ((rowsI (gpL 0 cp bl) bl len m).map r3M)), t4, t5, .un]) (rngL (bl.length + 1)) 0 [.val (lyD cp bl), .val (.int len), .val (.tup ((gpL 0 cp bl).map fun p => .int p.2)), .own true (.lst []), .un, .un, .un] ⟨.un, .un, rfl⟩ fun m y S' hy ⟨t4, t5, eS⟩ => by
    subst eS
    rw [Nat.zero_add] at *
    obtain ⟨rfl, hm⟩ := rngL_get hy
    obtain ⟨u5, e⟩ := runL_in hl (S := S) (n := n) (cp := cp) (len := len) hz (j := m) (by omega) (x := t4) (s5 := t5)
    exact ⟨_, .inl e, _, _, rfl⟩
  rw [Nat.zero_add, rngL_len] at e
  exact ⟨t4, t5, e⟩
end
/-! ### the least, and the sorted -/
def mnL (x : List Int) (xss : List (List Int)) : List Int := xss.foldl (fun a y => if y < a then y else a) x
theorem mnL_spec : ∀ (xss : List (List Int)) (x : List Int), mnL x xss ∈ x :: xss ∧ ∀ y ∈ x :: xss, mnL x xss ≤ y
  | [], x => ⟨List.mem_cons_self, fun y hy => by rw [List.mem_singleton] at hy; rw [hy]; exact List.le_refl _⟩
  | z :: xss, x => by
    obtain ⟨h1, h2⟩ := mnL_spec xss (if z < x then z else x)
    have e : mnL x (z :: xss) = mnL (if z < x then z else x) xss := rfl
    rw [e]
    have hw : (if z < x then z else x) ≤ x ∧ (if z < x then z else x) ≤ z := by
      by_cases c : z < x
      · rw [if_pos c]; exact ⟨List.le_of_lt c, List.le_refl _⟩
      · rw [if_neg c]; exact ⟨List.le_refl _, List.not_lt.1 c⟩
    refine ⟨?_, fun y hy => ?_⟩
    · rcases List.mem_cons.1 h1 with h | h
      · rw [h]; split
        · exact List.mem_cons_of_mem _ List.mem_cons_self
        · exact List.mem_cons_self
      · exact List.mem_cons_of_mem _ (List.mem_cons_of_mem _ h)
    · have h3 := h2 _ List.mem_cons_self
      rcases List.mem_cons.1 hy with rfl | hy
      · exact List.le_trans h3 hw.1
      · rcases List.mem_cons.1 hy with rfl | hy
        · exact List.le_trans h3 hw.2
        · exact h2 y (List.mem_cons_of_mem _ hy)
def leL (a b : List Int) : Bool := decide (a ≤ b)
theorem srt_iD (xss : List (List Int)) : (xss.map iD).mergeSort leD = (xss.mergeSort leL).map iD :=
  (List.map_mergeSort (r := leL) (s := leD) (f := iD) (l := xss) fun a _ b _ => by
    rw [le_iD]
    unfold leL
    by_cases h : b < a
    · have : ¬ a ≤ b := fun z => List.not_lt.2 z h
      simp [h, this]
    · have : a ≤ b := List.not_lt.1 h
      simp [h, this]).symm
theorem srtL_hd {xss : List (List Int)} {x : List Int} {r : List (List Int)} (h : xss.mergeSort leL = x :: r) : x ∈ xss ∧ ∀ y ∈ xss, x ≤ y := by
  have pm := List.mergeSort_perm xss leL
  have pw := List.pairwise_mergeSort (le := leL) (fun a b c h1 h2 => by
    simp only [leL, decide_eq_true_eq] at *
    exact List.le_trans h1 h2) (fun a b => by
    simp only [leL, Bool.or_eq_true, decide_eq_true_eq]
    exact List.le_total a b) xss
  rw [h] at pm pw
  refine ⟨pm.mem_iff.1 List.mem_cons_self, fun y hy => ?_⟩
  rcases List.mem_cons.1 (pm.mem_iff.2 hy) with rfl | hy
  · exact List.le_refl _
  · have := (List.pairwise_cons.1 pw).1 y hy
    simpa [leL] using this
def r3L (r : R3) : List Int := [r.1, (r.2.1 : Int), (r.2.2 : Int)]
def r3K (r : R3) : List Int := [r.1, (r.2.1 : Int), (r.2.2 : Int) - (r.2.1 : Int)]
theorem r3D_eq (l : List R3) : l.map r3D = (l.map r3L).map iD := by rw [List.map_map]; rfl
theorem r3M_eq (l : List R3) : l.map r3M = (l.map r3K).map iD := by rw [List.map_map]; rfl
theorem lt3_iff (a b c x y z : Int) : [a, b, c] < [x, y, z] ↔ a < x ∨ (a = x ∧ (b < y ∨ (b = y ∧ c < z))) := by
  simp [List.cons_lt_cons_iff]
theorem r3_same {r s : R3} (h1 : r3L r ≤ r3L s) (h2 : r3K s ≤ r3K r) : r = s := by
  obtain ⟨a, b, c⟩ := r
  obtain ⟨x, y, z⟩ := s
  have h1' := List.not_lt.2 h1
  have h2' := List.not_lt.2 h2
  simp only [r3L, r3K, lt3_iff] at h1' h2'
  have e1 : a = x := by omega
  subst e1
  have e2 : b = y := by omega
  subst e2
  have e3 : c = z := by omega
  subst e3
  rfl
/-- the least run, both ways -/
theorem runs_min {x : R3} {l : List R3} : ∃ m : R3, m ∈ x :: l ∧ biD .mind [.lst ((x :: l).map r3D)] = (if minOk ((x :: l).map r3D) = true then some (r3D m) else none) ∧ ∃ r, ((x :: l).map r3M).mergeSort leD = r3M m :: r := by
  obtain ⟨h1, h2⟩ := mnL_spec (l.map r3L) (r3L x)
  rw [← List.map_cons] at h1 h2
  obtain ⟨m, hm, em⟩ := List.mem_map.1 h1
  refine ⟨m, hm, ?_, ?_⟩
  · show (if minOk (r3D x :: l.map r3D) = true then some (minDD (r3D x) (l.map r3D)) else none) = _
    have e : minDD (r3D x) (l.map r3D) = r3D m := by
      rw [r3D_eq]
      show minDD (iD (r3L x)) _ = iD (r3L m)
      rw [minDD_iD, em]; rfl
    rw [e]; rfl
  · rw [r3M_eq, srt_iD]
    cases e : ((x :: l).map r3K).mergeSort leL with
    | nil =>
      have := congrArg List.length e
      rw [List.length_mergeSort] at this
      simp at this
    | cons y r =>
      obtain ⟨k1, k2⟩ := srtL_hd e
      obtain ⟨s, hs, rfl⟩ := List.mem_map.1 k1
      have e1 : m = s := r3_same (by rw [em]; exact h2 _ (List.mem_map_of_mem hs)) (k2 _ (List.mem_map_of_mem hm))
      subst e1
      exact ⟨_, rfl⟩

set_option linter.all false
set_option maxRecDepth 100000
set_option maxHeartbeats 4000000
open PySem PySem.Spec PyProof.Rows L2

/-! ### the gap that a plan makes -/
def planL : Int → List T3 → List (Str × Int)
  | _, [] => []
  | e, t :: l => (t.1, e) :: planL (e + t.2.2) l
def stD (p : Str × Int) : D := .tup [.str p.1, .int p.2]
theorem planL_len : ∀ (l : List T3) (e : Int), (planL e l).length = l.length
  | [], _ => rfl
  | t :: l, e => by rw [planL, List.length_cons, planL_len l, List.length_cons]
/-- the end of the last one -/
def enE : Int → List T3 → Int
  | e, [] => e
  | _, t :: l => enE (t.2.1 + t.2.2) l
theorem enE_last : ∀ (l : List T3) (e : Int) (h : l ≠ []), enE e l = (l.getLast h).2.1 + (l.getLast h).2.2
  | [t], e, _ => rfl
  | t :: u :: l, e, h => by rw [enE, enE_last (u :: l) _ (by simp)]; rfl
theorem gpL_get : ∀ (l : List T3) (e cp : Int) (i : Nat), i ≤ l.length → ∃ q : Int, (gpL e cp l)[i]? = some (enE e (l.take i), q)
  | [], e, cp, 0, _ => ⟨cp - e, rfl⟩
  | t :: l, e, cp, 0, _ => ⟨t.2.1 - e, rfl⟩
  | t :: l, e, cp, i + 1, h => by
    obtain ⟨q, hq⟩ := gpL_get l (t.2.1 + t.2.2) cp i (by simpa using h)
    exact ⟨q, by rw [gpL, List.getElem?_cons_succ, hq, List.take_succ_cons, enE]⟩
theorem gpL_sum : ∀ (l : List T3) (e cp : Int), ((gpL e cp l).map (·.2)).sum = cp - e - (l.map (·.2.2)).sum
  | [], e, cp => by simp [gpL]
  | t :: l, e, cp => by
    rw [gpL, List.map_cons, List.sum_cons, gpL_sum l, List.map_cons, List.sum_cons]; omega
theorem gpL_nn : ∀ (l : List T3) (e cp : Int), Asc e cp l → ∀ p ∈ gpL e cp l, 0 ≤ p.2
  | [], e, cp, h, p, hp => by
    rw [gpL, List.mem_singleton] at hp
    subst hp
    have : e ≤ cp := h
    show 0 ≤ cp - e
    omega
  | t :: l, e, cp, h, p, hp => by
    rcases List.mem_cons.1 hp with rfl | hp
    · have := h.1
      show 0 ≤ t.2.1 - e
      omega
    · exact gpL_nn l _ cp h.2 p hp
theorem sub_sum {l : List Int} (h : ∀ x ∈ l, 0 ≤ x) (i m : Nat) : ((l.drop i).take m).sum ≤ l.sum := by
  have e1 : l.sum = (l.take i).sum + (l.drop i).sum := by rw [← List.sum_append, List.take_append_drop]
  have e2 : (l.drop i).sum = ((l.drop i).take m).sum + ((l.drop i).drop m).sum := by rw [← List.sum_append, List.take_append_drop]
  have n1 := sum_nn (l := l.take i) fun x hx => h x (List.mem_of_mem_take hx)
  have n2 := sum_nn (l := (l.drop i).drop m) fun x hx => h x (List.mem_of_mem_drop (List.mem_of_mem_drop hx))
  omega
theorem gsum_le {cp : Int} {bl : List T3} (h : Asc 0 cp bl) (i b : Nat) : gsum (gpL 0 cp bl) i b ≤ cp - (bl.map (·.2.2)).sum := by
  have := sub_sum (l := (gpL 0 cp bl).map (·.2)) (fun x hx => by
    obtain ⟨p, hp, rfl⟩ := List.mem_map.1 hx
    exact gpL_nn bl 0 cp h p hp) i (b + 1 - i)
  rw [gpL_sum] at this
  unfold gsum
  rw [List.map_take, List.map_drop]
  omega
theorem rows_mem {gs : List (Int × Int)} {bl : List T3} {len : Int} {k : Nat} {r : R3} (h : r ∈ rowsI gs bl len k) : len ≤ gsum gs r.2.1 r.2.2 ∧ r.2.1 ≤ r.2.2 ∧ r.2.2 < gs.length ∧ r.2.1 < k := by
  unfold rowsI at h
  obtain ⟨i, hi, h⟩ := List.mem_flatMap.1 h
  unfold rowI at h
  obtain ⟨b, hb, h⟩ := List.mem_filterMap.1 h
  have hi := List.mem_range.1 hi
  obtain ⟨hb1, hb2⟩ := List.mem_range'_1.1 hb
  split at h
  · rename_i c
    cases h
    exact ⟨c, hb1, by show b < gs.length; omega, hi⟩
  · cases h
theorem rows_full {cp : Int} {bl : List T3} {len : Int} (h : len ≤ cp - (bl.map (·.2.2)).sum) : (csum bl 0 bl.length, 0, bl.length) ∈ rowsI (gpL 0 cp bl) bl len (bl.length + 1) := by
  have lg := gpL_len bl 0 cp
  unfold rowsI
  refine List.mem_flatMap.2 ⟨0, List.mem_range.2 (by omega), ?_⟩
  unfold rowI
  refine List.mem_filterMap.2 ⟨bl.length, List.mem_range'_1.2 ⟨by omega, by omega⟩, ?_⟩
  rw [if_pos]
  unfold gsum
  rw [List.drop_zero, List.take_of_length_le (by omega), gpL_sum]
  omega
theorem cut_0b {α : Type} (xs : List α) {b : Nat} (h2 : b ≤ xs.length) : cutD xs none (some (b : Int)) = xs.take b := by
  have e0 : HT.sIx xs.length 0 none = 0 := rfl
  have e1 : HT.sIx xs.length xs.length (some (b : Int)) = b := by
    simp only [HT.sIx]
    split <;> omega
  unfold cutD
  rw [e0, e1, List.drop_zero, Nat.sub_zero]
theorem idx_last {xs : List D} {x : D} (h : xs.getLast? = some x) : idxD (.tup xs) (.int (-1)) = some x := by
  have h0 : xs ≠ [] := fun z => by rw [z] at h; cases h
  have pos := List.length_pos_iff.mpr h0
  show (ixN xs.length (-1)).bind _ = _
  unfold ixN
  rw [if_neg (by omega), if_pos (by omega)]
  have e : ((-1 : Int) + xs.length).toNat = xs.length - 1 := by omega
  rw [e]
  show xs[xs.length - 1]? = _
  rw [← List.getLast?_eq_getElem?, h]
def bGPl : Bs := (.cons (.exp (.app 7 (.tup (.cons (.var 8) (.cons (.var 5) .nil))))) (.cons (.aug 5 .add (.var 9)) .nil))
def bGP (lr : Nat) : Bs := (.cons (.iff (.cmp .lt (.var 1) (.int 1)) (.cons (.rsp 501 (.cons (.str "a gap of less than one cell is wanted") .nil)) .nil) .nil) (.cons (.iff (.cmp .lt (.fld (.var 0) "free") (.var 1)) (.cons (.ret .non) .nil) .nil) (.cons (.unp [2, 3, 4] (.bi .mind (.cons (.call lr (.cons (.var 0) (.cons (.var 1) .nil))) .nil))) (.cons (.unp [5, 6] (.idx (.fld (.var 0) "gaps") (.var 3))) (.cons (.asgN 7 (.lst .nil)) (.cons (.for [8, 6, 9] (.slV (.fld (.var 0) "blocks") (.var 3) (.var 4)) bGPl) (.cons (.ret (.tup (.cons (.var 5) (.cons (.var 2) (.cons (.bi .tup (.cons (.var 7) .nil)) .nil))))) .nil)))))))
/-- what gap_plan tells -/
def gapD (cp : Int) (bl : List T3) (m : R3) : D :=
  .tup [.int (enE 0 (bl.take m.2.1) + csum bl m.2.1 m.2.2), .int m.1, .tup ((planL (enE 0 (bl.take m.2.1)) ((bl.drop m.2.1).take (m.2.2 - m.2.1))).map stD)]
theorem plan_loop {CF : Nat → List Str} {Φ : Nat → Option OC → List D → FRes} {s0 s1 s2 s3 s4 s8 s6 s9 : SD} (sl : List T3) (hl : sl.length ≤ 1000) (e : Int) :
    ∃ t8 t6 t9 : SD, sLoop CF Φ [8, 6, 9] bGPl (sl.map tpD) [s0, s1, s2, s3, s4, .val (.int e), s6, .own true (.lst []), s8, s9] = .nx [s0, s1, s2, s3, s4, .val (.int (e + (sl.map (·.2.2)).sum)), t6, .own true (.lst ((planL e sl).map stD)), t8, t9] := by
  obtain ⟨S', eq, ps, e', t6, t8, t9, rfl, h1, h2, h3⟩ := loop_nx (CF := CF) (Φ := Φ) (ts := [8, 6, 9]) (b := bGPl) (fun i S' => ∃ (ps : List (Str × Int)) (e' : Int) (t6 t8 t9 : SD), S' = [s0, s1, s2, s3, s4, .val (.int e'), t6, .own true (.lst (ps.map stD)), t8, t9] ∧ ps ++ planL e' (sl.drop i) = planL e sl ∧ e' + ((sl.drop i).map (·.2.2)).sum = e + (sl.map (·.2.2)).sum ∧ ps.length = i) (sl.map tpD) 0 [s0, s1, s2, s3, s4, .val (.int e), s6, .own true (.lst []), s8, s9] ⟨[], e, s6, s8, s9, rfl, rfl, rfl, rfl⟩ fun j x S' hx ⟨ps, e', t6, t8, t9, eS, h1, h2, h3⟩ => by
    subst eS
    rw [Nat.zero_add] at *
    have hj : j < sl.length := by
      have := (List.getElem?_eq_some_iff.1 hx).1
      rwa [List.length_map] at this
    rw [List.getElem?_map, List.getElem?_eq_getElem hj] at hx
    cases hx
    have cf : (ps.map stD).length < cap := lt_cap (by rw [List.length_map]; omega)
    rw [sBody_some _ _ (show bindT [8, 6, 9] (tpD sl[j]) _ = _ from bindT_3), bGPl]
    simp! [if_pos cf]
    refine ⟨_, .inl rfl, ps ++ [(sl[j].1, e')], _, _, _, _, by rw [List.map_append]; rfl, ?_, ?_, by simp; omega⟩
    · rw [List.drop_eq_getElem_cons hj, planL] at h1
      rw [List.append_assoc]
      exact h1
    · rw [List.drop_eq_getElem_cons hj, List.map_cons, List.sum_cons] at h2
      omega
  rw [Nat.zero_add, List.length_map, List.drop_length] at h1 h2
  rw [planL, List.append_nil] at h1
  rw [List.map_nil, List.sum_nil, Int.add_zero] at h2
  subst h1
  rw [h2] at eq
  exact ⟨t8, t6, t9, eq⟩
section
variable {S : Src} {lr gp : Nat} (hc : S.CF 0 = lyF) (hr : Has S lr false 9 2 bLongRuns) (hg : Has S gp false 10 2 (bGP lr)) {cp mx len : Int} {bl : List T3}
include hg
theorem gp_bad {n : Nat} (hn : 1 ≤ n) (h1 : len < 1) : S.run n gp none [lyO cp bl mx, .int len] = .exc 501 [] [] none := by
  obtain ⟨n, rfl⟩ : ∃ k, n = k + 1 := ⟨n - 1, by omega⟩
  rw [hg.run n _ _ rfl rfl]
  simp only [startS, bGP, List.map, List.replicate, List.cons_append, List.nil_append, List.length]
  dsimp! [h1]
include hc
theorem gp_none {n : Nat} (hn : 1 ≤ n) (h0 : 1 ≤ len) (h1 : cp - (bl.map (·.2.2)).sum < len) : S.run n gp none [lyO cp bl mx, .int len] = .ret .non none := by
  obtain ⟨n, rfl⟩ : ∃ k, n = k + 1 := ⟨n - 1, by omega⟩
  rw [hg.run n _ _ rfl rfl]
  have c0 : ¬ len < 1 := by omega
  simp only [startS, bGP, List.map, List.replicate, List.cons_append, List.nil_append, List.length]
  simp! [c0, fld_fre hc, h1, -kFld_ok]
include hr
theorem gp_some {n : Nat} (hn : 2 ≤ n) (L : LayOk cp bl) (h0 : 1 ≤ len) (h1 : len ≤ cp - (bl.map (·.2.2)).sum) {x : R3} {l : List R3} (hx : rowsI (gpL 0 cp bl) bl len (bl.length + 1) = x :: l) {m : R3} (hm : m ∈ x :: l) (em : biD .mind [.lst ((x :: l).map r3D)] = (if minOk ((x :: l).map r3D) = true then some (r3D m) else none)) : S.run n gp none [lyO cp bl mx, .int len] = .ret (gapD cp bl m) none := by
  obtain ⟨n, rfl⟩ : ∃ k, n = k + 1 := ⟨n - 1, by omega⟩
  obtain ⟨n, rfl⟩ : ∃ k, n = k + 1 := ⟨n - 1, by omega⟩
  rw [hg.run (n + 1) _ _ rfl rfl]
  have hl := L.len
  have e1 := long_spec hc hl (n := n) (cp := cp) (mx := mx) (len := len) hr
  rw [hx] at e1
  have ll := rowsI_len (gpL 0 cp bl) bl len (bl.length + 1)
  have l2 : (bl.length + 1) * (gpL 0 cp bl).length ≤ 13 * 13 := Nat.mul_le_mul (by omega) (by rw [gpL_len]; omega)
  rw [hx] at ll
  have mo : minOk ((x :: l).map r3D) = true := by
    rw [r3D_eq]
    refine minOk_iD (fun xs hxs => ?_) (by rw [List.length_map]; omega)
    obtain ⟨r, -, rfl⟩ := List.mem_map.1 hxs
    unfold r3L; simp
  rw [if_pos mo] at em
  obtain ⟨rl, hrl⟩ : ∃ rl, rl = (x :: l).map r3D := ⟨_, rfl⟩
  rw [← hrl] at em e1
  clear hrl mo
  have hm2 := hm
  rw [← hx] at hm2
  obtain ⟨k1, k2, k3, k4⟩ := rows_mem hm2
  have lg := gpL_len bl 0 cp
  obtain ⟨c, i, b⟩ := m
  simp only at k1 k2 k3 k4
  obtain ⟨p, hp⟩ : ∃ p : Int, p = (i : Int) := ⟨_, rfl⟩
  obtain ⟨q, hq⟩ : ∃ q : Int, q = (b : Int) := ⟨_, rfl⟩
  have u3 : ∀ S', bindT [2, 3, 4] (r3D (c, i, b)) S' = some (((S'.set 2 (.val (.int c))).set 3 (.val (.int p))).set 4 (.val (.int q))) := fun S' => by rw [hp, hq]; exact bindT_3
  obtain ⟨g, hgp⟩ := gpL_get bl 0 cp i (by omega)
  have ig : idxD (.tup ((gpL 0 cp bl).map gpD)) (.int p) = some (gpD (enE 0 (bl.take i), g)) := by
    show atI _ _ = _
    rw [atI_get _ _ (by omega) (by rw [List.length_map]; omega), show p.toNat = i by omega, List.getElem?_map, hgp]; rfl
  have u2 : ∀ S', bindT [5, 6] (gpD (enE 0 (bl.take i), g)) S' = some ((S'.set 5 (.val (.int (enE 0 (bl.take i))))).set 6 (.val (.int g))) := fun S' => bindT_2
  have c2 : cutD (bl.map tpD) (some p) (some q) = (bl.drop i |>.take (b - i)).map tpD := by
    rw [hp, hq, cut_ab _ k2 (by rw [List.length_map]; omega), List.map_take, List.map_drop]
  obtain ⟨t8, t6, t9, lp⟩ := plan_loop (CF := S.CF) (Φ := S.run (n + 1)) (s0 := .val (lyO cp bl mx)) (s1 := .val (.int len)) (s2 := .val (.int c)) (s3 := .val (.int p)) (s4 := .val (.int q)) (s8 := .un) (s6 := .val (.int g)) (s9 := .un) (bl.drop i |>.take (b - i)) (by rw [List.length_take, List.length_drop]; omega) (enE 0 (bl.take i))
  have c0 : ¬ len < 1 := by omega
  have c1 : ¬ cp - (bl.map (·.2.2)).sum < len := by omega
  simp only [startS, bGP, List.map, List.replicate, List.cons_append, List.nil_append, List.length]
  simp! [c0, fld_fre hc, c1, e1, ofF_ret, em, u3, fld_gps hc, ig, u2, fld_blk hc, slv_tup, optI_i, c2, lp, tup_lst, -kFld_ok]
  rfl
end

set_option linter.all false
set_option maxRecDepth 100000
set_option maxHeartbeats 4000000
open PySem PySem.Spec PyProof.Rows L2

/-! ### the law's due -/
theorem runsL_spec {S : Src} {g f : Nat} (hg : Has S g false 4 1 bGapsL) (h : Has S f false 7 2 (bRunsL g)) {n : Nat} (hn : 2 ≤ n) {cp len : Int} {bl : List T3} (hl : bl.length ≤ 12) :
    S.run n f none [lyD cp bl, .int len] = .ret (.lst (((rowsI (gpL 0 cp bl) bl len (bl.length + 1)).map r3M).mergeSort leD)) none := by
  obtain ⟨n, rfl⟩ : ∃ k, n = k + 1 := ⟨n - 1, by omega⟩
  rw [h.run n _ _ rfl rfl]
  have e1 := gapsL_spec hg (n := n) (by omega) (cp := cp) (bl := bl) (by omega)
  have lg := gpL_len bl 0 cp
  obtain ⟨z, hz⟩ : ∃ z : Int, z = ((bl.length + 1 : Nat) : Int) := ⟨_, rfl⟩
  have lq : biD .len [.tup ((gpL 0 cp bl).map fun p => .int p.2)] = some (.int z) := by rw [len_tup, List.length_map, lg, hz]
  have r1 := rng_int (i := z) (by omega) (by omega)
  have ez : z.toNat = bl.length + 1 := by omega
  rw [ez] at r1
  obtain ⟨t4, t5, e2⟩ := runsL_loop (S := S) (n := n) (cp := cp) (len := len) hl hz
  have ll := rowsI_len (gpL 0 cp bl) bl len (bl.length + 1)
  have l2 : (bl.length + 1) * (gpL 0 cp bl).length ≤ 13 * 13 := Nat.mul_le_mul (by omega) (by omega)
  have so : srtOk ((rowsI (gpL 0 cp bl) bl len (bl.length + 1)).map r3M) = true := by
    rw [r3M_eq]
    refine srtOk_iD (fun xs hxs => ?_) (by rw [List.length_map]; omega)
    obtain ⟨r, -, rfl⟩ := List.mem_map.1 hxs
    unfold r3K; simp
  have es : biD .srt [.lst ((rowsI (gpL 0 cp bl) bl len (bl.length + 1)).map r3M)] = some (.lst (((rowsI (gpL 0 cp bl) bl len (bl.length + 1)).map r3M).mergeSort leD)) := if_pos so
  simp only [startS, bRunsL, List.map, List.replicate, List.cons_append, List.nil_append, List.length]
  simp! [e1, ofF_ret, lq, r1, e2, es]
def bDUl : Bs := (.cons (.exp (.app 8 (.tup (.cons (.var 9) (.cons (.var 7) .nil))))) (.cons (.asg 7 (.bin .add (.var 7) (.var 11))) .nil))
def bDue13 (r : Nat) : Bs := (.cons (.asg 2 (.call r (.cons (.var 0) (.cons (.var 1) .nil)))) (.cons (.iff (.not (.var 2)) (.cons (.ret .non) .nil) .nil) (.cons (.unp [3, 4, 5] (.idx (.var 2) (.int 0))) (.cons (.asg 6 (.slV (.idx (.var 0) (.str "blocks")) .hole (.var 4))) (.cons (.asg 7 (.ite (.var 6) (.bin .add (.idx (.idx (.var 6) (.neg (.int 1))) (.int 1)) (.idx (.idx (.var 6) (.neg (.int 1))) (.int 2))) (.int 0))) (.cons (.asgN 8 (.lst .nil)) (.cons (.for [9, 10, 11] (.slV (.idx (.var 0) (.str "blocks")) (.var 4) (.bin .add (.var 4) (.var 5))) bDUl) (.cons (.ret (.tup (.cons (.var 7) (.cons (.var 3) (.cons (.bi .tup (.cons (.var 8) .nil)) .nil))))) .nil))))))))
theorem due_loop {CF : Nat → List Str} {Φ : Nat → Option OC → List D → FRes} {s0 s1 s2 s3 s4 s5 s6 s9 s10 s11 : SD} (sl : List T3) (hl : sl.length ≤ 1000) (e : Int) :
    ∃ t9 t10 t11 : SD, sLoop CF Φ [9, 10, 11] bDUl (sl.map tpD) [s0, s1, s2, s3, s4, s5, s6, .val (.int e), .own true (.lst []), s9, s10, s11] = .nx [s0, s1, s2, s3, s4, s5, s6, .val (.int (e + (sl.map (·.2.2)).sum)), .own true (.lst ((planL e sl).map stD)), t9, t10, t11] := by
  obtain ⟨S', eq, ps, e', t9, t10, t11, rfl, h1, h2, h3⟩ := loop_nx (CF := CF) (Φ := Φ) (ts := [9, 10, 11]) (b := bDUl) (fun i S' => ∃ (ps : List (Str × Int)) (e' : Int) (t9 t10 t11 : SD), S' = [s0, s1, s2, s3, s4, s5, s6, .val (.int e'), .own true (.lst (ps.map stD)), t9, t10, t11] ∧ ps ++ planL e' (sl.drop i) = planL e sl ∧ e' + ((sl.drop i).map (·.2.2)).sum = e + (sl.map (·.2.2)).sum ∧ ps.length = i) (sl.map tpD) 0 [s0, s1, s2, s3, s4, s5, s6, .val (.int e), .own true (.lst []), s9, s10, s11] ⟨[], e, s9, s10, s11, rfl, rfl, rfl, rfl⟩ fun j x S' hx ⟨ps, e', t9, t10, t11, eS, h1, h2, h3⟩ => by
    subst eS
    rw [Nat.zero_add] at *
    have hj : j < sl.length := by
      have := (List.getElem?_eq_some_iff.1 hx).1
      rwa [List.length_map] at this
    rw [List.getElem?_map, List.getElem?_eq_getElem hj] at hx
    cases hx
    have cf : (ps.map stD).length < cap := lt_cap (by rw [List.length_map]; omega)
    rw [sBody_some _ _ (show bindT [9, 10, 11] (tpD sl[j]) _ = _ from bindT_3), bDUl]
    simp! [if_pos cf]
    refine ⟨_, .inl rfl, ps ++ [(sl[j].1, e')], _, _, _, _, by rw [List.map_append]; rfl, ?_, ?_, by simp; omega⟩
    · rw [List.drop_eq_getElem_cons hj, planL] at h1
      rw [List.append_assoc]
      exact h1
    · rw [List.drop_eq_getElem_cons hj, List.map_cons, List.sum_cons] at h2
      omega
  rw [Nat.zero_add, List.length_map, List.drop_length] at h1 h2
  rw [planL, List.append_nil] at h1
  rw [List.map_nil, List.sum_nil, Int.add_zero] at h2
  subst h1
  rw [h2] at eq
  exact ⟨t9, t10, t11, eq⟩
section
variable {S : Src} {g r f : Nat} (hg : Has S g false 4 1 bGapsL) (hr : Has S r false 7 2 (bRunsL g)) (h : Has S f false 12 2 (bDue13 r)) {cp len : Int} {bl : List T3}
include hg hr h
theorem due_nil {n : Nat} (hn : 3 ≤ n) (hl : bl.length ≤ 12) (hx : rowsI (gpL 0 cp bl) bl len (bl.length + 1) = []) : S.run n f none [lyD cp bl, .int len] = .ret .non none := by
  obtain ⟨n, rfl⟩ : ∃ k, n = k + 1 := ⟨n - 1, by omega⟩
  rw [h.run n _ _ rfl rfl]
  have e1 := runsL_spec hg hr (n := n) (by omega) (cp := cp) (len := len) hl
  have e0 : (([] : List R3).map r3M).mergeSort leD = [] := by simp
  rw [hx, e0] at e1
  have tn : truD (.lst []) = some false := rfl
  simp only [startS, bDue13, List.map, List.replicate, List.cons_append, List.nil_append, List.length]
  simp! [e1, ofF_ret, tn, Bool.not_false]
theorem due_some {n : Nat} (hn : 3 ≤ n) (hl : bl.length ≤ 12) {m : R3} {q : List D} (hm : m ∈ rowsI (gpL 0 cp bl) bl len (bl.length + 1)) (hs : ((rowsI (gpL 0 cp bl) bl len (bl.length + 1)).map r3M).mergeSort leD = r3M m :: q) : S.run n f none [lyD cp bl, .int len] = .ret (gapD cp bl m) none := by
  obtain ⟨n, rfl⟩ : ∃ k, n = k + 1 := ⟨n - 1, by omega⟩
  rw [h.run n _ _ rfl rfl]
  have e1 := runsL_spec hg hr (n := n) (by omega) (cp := cp) (len := len) hl
  rw [hs] at e1
  obtain ⟨k1, k2, k3, k4⟩ := rows_mem hm
  have lg := gpL_len bl 0 cp
  obtain ⟨c, i, b⟩ := m
  simp only at k1 k2 k3 k4
  obtain ⟨p, hp⟩ : ∃ p : Int, p = (i : Int) := ⟨_, rfl⟩
  obtain ⟨w, hw⟩ : ∃ w : Int, w = (b : Int) - (i : Int) := ⟨_, rfl⟩
  have ne : truD (.lst (r3M (c, i, b) :: q)) = some true := rfl
  have u3 : ∀ S', bindT [3, 4, 5] (r3M (c, i, b)) S' = some (((S'.set 3 (.val (.int c))).set 4 (.val (.int p))).set 5 (.val (.int w))) := fun S' => by rw [hp, hw]; exact bindT_3
  have c1 : cutD (bl.map tpD) none (some p) = (bl.take i).map tpD := by
    rw [hp, cut_0b _ (by rw [List.length_map]; omega), List.map_take]
  have pw : p + w = (b : Int) := by omega
  have c2 : cutD (bl.map tpD) (some p) (some (p + w)) = (bl.drop i |>.take (b - i)).map tpD := by
    rw [pw, hp, cut_ab _ k2 (by rw [List.length_map]; omega), List.map_take, List.map_drop]
  obtain ⟨t9, t10, t11, lp⟩ := due_loop (CF := S.CF) (Φ := S.run n) (s0 := .val (lyD cp bl)) (s1 := .val (.int len)) (s2 := .val (.lst (r3M (c, i, b) :: q))) (s3 := .val (.int c)) (s4 := .val (.int p)) (s5 := .val (.int w)) (s6 := .val (.tup ((bl.take i).map tpD))) (s9 := .un) (s10 := .un) (s11 := .un) (bl.drop i |>.take (b - i)) (by rw [List.length_take, List.length_drop]; omega) (enE 0 (bl.take i))
  have tt : truD (.tup ((bl.take i).map tpD)) = some (!((bl.take i).map tpD).isEmpty) := rfl
  simp only [startS, bDue13, List.map, List.replicate, List.cons_append, List.nil_append, List.length]
  cases ht : (bl.take i).getLast? with
  | none =>
    have hE := List.getLast?_eq_none_iff.1 ht
    have em : (((bl.take i).map tpD).isEmpty) = true := by rw [hE]; rfl
    have z0 : enE 0 (bl.take i) = 0 := by rw [hE]; rfl
    have lp0 := lp
    rw [z0] at lp
    simp! [e1, ofF_ret, ne, Bool.not_true, idx_l0, u3, ly_blk, slv_tup, optI_n, optI_i, c1, tt, em, c2, lp, tup_lst]
    show FRes.ret _ _ = FRes.ret (.tup [.int (enE 0 (bl.take i) + csum bl i b), .int c, .tup ((planL (enE 0 (bl.take i)) ((bl.drop i).take (b - i))).map stD)]) none
    rw [z0]; rfl
  | some t =>
    have hne : bl.take i ≠ [] := fun z => by rw [z] at ht; cases ht
    have em : (((bl.take i).map tpD).isEmpty) = false := by
      cases hb : bl.take i with
      | nil => exact absurd hb hne
      | cons a l => rfl
    have z0 : enE 0 (bl.take i) = t.2.1 + t.2.2 := by
      rw [enE_last _ _ hne]
      rw [List.getLast?_eq_some_getLast hne] at ht
      cases ht; rfl
    have il : idxD (.tup ((bl.take i).map tpD)) (.int (-1)) = some (tpD t) := idx_last (by rw [List.getLast?_map, ht]; rfl)
    have i1 : idxD (tpD t) (.int 1) = some (.int t.2.1) := idx_t1
    have i2 : idxD (tpD t) (.int 2) = some (.int t.2.2) := idx_tt2
    rw [z0] at lp
    simp! [e1, ofF_ret, ne, Bool.not_true, idx_l0, u3, ly_blk, slv_tup, optI_n, optI_i, c1, tt, em, Bool.not_false, il, i1, i2, c2, lp, tup_lst]
    show FRes.ret _ _ = FRes.ret (.tup [.int (enE 0 (bl.take i) + csum bl i b), .int c, .tup ((planL (enE 0 (bl.take i)) ((bl.drop i).take (b - i))).map stD)]) none
    rw [z0]; rfl
end
/-- both tell the same -/
theorem gap_same {S : Src} {lr gp g r f : Nat} (hc : S.CF 0 = lyF) (hlr : Has S lr false 9 2 bLongRuns) (hgp : Has S gp false 10 2 (bGP lr)) (hg : Has S g false 4 1 bGapsL) (hr : Has S r false 7 2 (bRunsL g)) (h : Has S f false 12 2 (bDue13 r)) {n : Nat} (hn : 3 ≤ n) {cp mx len : Int} {bl : List T3} (L : LayOk cp bl) (h0 : 1 ≤ len) :
    ∃ d, Sm 3 d ∧ S.run n gp none [lyO cp bl mx, .int len] = .ret d none ∧ S.run n f none [lyD cp bl, .int len] = .ret d none := by
  have hl := L.len
  by_cases c : len ≤ cp - (bl.map (·.2.2)).sum
  · have hf := rows_full c
    cases hx : rowsI (gpL 0 cp bl) bl len (bl.length + 1) with
    | nil => rw [hx] at hf; cases hf
    | cons x l =>
      obtain ⟨m, hm, em, q, hs⟩ := runs_min (x := x) (l := l)
      refine ⟨gapD cp bl m, ?_, gp_some hc hlr hgp (by omega) L h0 c hx hm em, due_some hg hr h hn hl (by rw [hx]; exact hm) (by rw [hx]; exact hs)⟩
      have hm2 := hm
      rw [← hx] at hm2
      obtain ⟨k1, k2, k3, k4⟩ := rows_mem hm2
      unfold gapD
      refine .tup _ (fun d hd => ?_) (by simp)
      simp only [List.mem_cons, List.not_mem_nil, or_false] at hd
      rcases hd with rfl | rfl | rfl
      · exact .int _
      · exact .int _
      · refine .tup _ (fun d hd => ?_) (by rw [List.length_map, planL_len, List.length_take, List.length_drop]; omega)
        obtain ⟨p, -, rfl⟩ := List.mem_map.1 hd
        refine .tup _ (fun d hd => ?_) (by simp)
        simp only [List.mem_cons, List.not_mem_nil, or_false] at hd
        rcases hd with rfl | rfl
        · exact .str _
        · exact .int _
  · refine ⟨.non, .non, gp_none hc hgp (by omega) h0 (by omega), due_nil hg hr h hn hl ?_⟩
    cases hx : rowsI (gpL 0 cp bl) bl len (bl.length + 1) with
    | nil => rfl
    | cons x l =>
      have hm : x ∈ rowsI (gpL 0 cp bl) bl len (bl.length + 1) := by rw [hx]; exact List.mem_cons_self
      have k1 := (rows_mem hm).1
      have := gsum_le L.asc x.2.1 x.2.2
      omega

set_option linter.all false
set_option maxRecDepth 100000
set_option maxHeartbeats 4000000
open PySem PySem.Spec PyProof.Rows L2

/-! ### the law of gap plans -/
theorem pow_6 : binD .pow (.int 10) (.int 6) = some (.int 1000000) := by rw [bin_pow (by decide)]; rfl
theorem pow_32 : binD .pow (.int 10) (.int 32) = some (.int 100000000000000000000000000000000) := by rw [bin_pow (by decide)]; rfl
theorem cut_map {α β : Type} (f : α → β) (xs : List α) (lo hi : Option Int) : cutD (xs.map f) lo hi = (cutD xs lo hi).map f := by
  unfold cutD
  rw [List.length_map, List.map_take, List.map_drop]
def blF : List Str := ["BadLength", "LetError", "ValueError", "Exception", "BaseException"]
def hRef : List (Str × Nat × HX) := [("BadLength", 2, (.inst "LetError"))]
def bRef13 (gp : Nat) : Bs := (.cons (.tri (.cons (.exp (.call gp (.cons (.var 0) (.cons (.var 1) .nil)))) .nil) hRef) (.cons (.ret (.bl false)) .nil))
theorem ref_h {CF : Nat → List Str} (hx : CF 501 = blF) (a b c : SD) : triH CF 501 [] [] [a, b, c] hRef = .rt (.bl true) [a, b, .un] := by
  unfold hRef triH
  have c1 : (("BadLength" : Str)) ∈ CF 501 := by rw [hx]; decide
  have c2 : (("LetError" : Str)) ∈ CF 501 := by rw [hx]; decide
  have h1 : evH CF 501 [] [] (.inst "LetError") = some (.bl true) := by rw [evH, decide_eq_true c2]
  show (if ("BadLength" : Str) ∈ CF 501 then if 2 < 3 then match evH CF 501 [] [] (.inst "LetError") with | some d => RS.rt d ([a, b, c].set 2 .un) | none => .stuck else .stuck else _) = _
  rw [if_pos c1, if_pos (by decide), h1]
  rfl
theorem ref_spec {S : Src} (hx : S.CF 501 = blF) {lr gp f : Nat} (hg : Has S gp false 10 2 (bGP lr)) (h : Has S f false 3 2 (bRef13 gp)) {n : Nat} (hn : 2 ≤ n) {cp mx len : Int} {bl : List T3} (h1 : len < 1) : S.run n f none [lyO cp bl mx, .int len] = .ret (.bl true) none := by
  obtain ⟨n, rfl⟩ : ∃ k, n = k + 1 := ⟨n - 1, by omega⟩
  rw [h.run n _ _ rfl rfl]
  have q : 500 ≤ 501 ∧ 501 < 1000 := by decide
  have e := gp_bad hg (n := n) (by omega) (cp := cp) (mx := mx) (bl := bl) h1
  have te := fun a b c => tri_exc (CF := S.CF) (S := [a, b, c]) hRef (fn := []) (vs := []) q
  simp only [startS, bRef13, List.map, List.replicate, List.cons_append, List.nil_append, List.length]
  dsimp! [e, ofF_exc, te, ref_h hx]
structure Nr13 where (lr gp fr gg hd al rn du rf : Nat)
def bLawT (N : Nr13) : Bs := (.cons (.asg 7 (.callO 8 1 (.cons (.bi .len (.cons (.var 5) .nil)) .nil))) (.cons (.asg 8 (.bin .add (.var 7) (.callO 8 1 (.cons (.bin .sub (.bi .len (.cons (.var 5) .nil)) (.var 7)) .nil)))) (.cons (.asg 9 (.idx (.tup (.cons (.idx (.var 5) (.var 7)) (.cons (.bi .sum (.cons (.slV (.var 5) (.var 7) (.bin .add (.var 8) (.int 1))) .nil)) (.cons (.call N.fr (.cons (.var 2) .nil)) (.cons (.callO 9 1 (.cons (.bin .add (.call N.fr (.cons (.var 2) .nil)) (.int 2)) .nil)) .nil))))) (.callO 8 1 (.cons (.int 4) .nil)))) (.cons (.asg 10 (.bi .max2 (.cons (.int 1) (.cons (.bin .add (.var 9) (.idx (.tup (.cons (.int 0) (.cons (.int 0) (.cons (.int 1) (.cons (.neg (.int 1)) .nil))))) (.callO 8 1 (.cons (.int 4) .nil)))) .nil)))) (.cons (.iff (.not (.call 11 (.cons (.call N.gp (.cons (.var 4) (.cons (.var 10) .nil))) (.cons (.call N.du (.cons (.var 2) (.cons (.var 10) .nil))) .nil)))) (.cons (.ret (.bl false)) .nil) .nil) .nil)))))
def bLaw13 (N : Nr13) : Bs := (.cons (.asgF 1 7 (.cons (.var 0) .nil)) (.cons (.asg 2 (.callO N.al 1 .nil)) (.cons (.asg 3 (.callO N.hd 1 (.cons (.var 2) .nil))) (.cons (.asg 4 (.mk 0 6 (.cons (.idx (.var 3) (.int 0)) (.cons (.idx (.var 3) (.int 1)) .nil)))) (.cons (.asg 5 (.call N.gg (.cons (.var 2) .nil))) (.cons (.for [6] (.rng (.cons (.int 8) .nil)) (bLawT N)) (.cons (.iff (.disj (.not (.call N.rf (.cons (.var 4) (.cons (.int 0) .nil)))) (.not (.call N.rf (.cons (.var 4) (.cons (.bin .sub (.neg (.int 1)) (.callO 8 1 (.cons (.bin .pow (.int 10) (.int 6)) .nil))) .nil))))) (.cons (.ret (.bl false)) .nil) .nil) (.cons (.ret (.conj (.isN false (.call N.gp (.cons (.var 4) (.cons (.bin .pow (.int 10) (.int 32)) .nil)))) (.call 11 (.cons (.fld (.var 4) "blocks") (.cons (.idx (.var 2) (.str "blocks")) .nil))))) .nil))))))))
structure Prg13 (S : Src) (N : Nr13) (law : Nat) : Prop where
  hlp : Hlp S
  c0 : S.CF 0 = lyF
  c501 : S.CF 501 = blF
  p1 : Has S 1 false 1 1 bIsName
  p2 : Has S 2 false 6 3 bLone
  p3 : Has S 3 false 7 2 bOvlp
  p4 : Has S 4 false 7 3 bChk
  p5 : Has S 5 false 7 2 bGaps
  p6 : Has S 6 true 7 3 bInit
  p7 : Has S 7 false 2 1 bPool
  p10 : Has S 10 false 1 1 bIsInt
  p11 : Has S 11 false 3 2 bSame
  p13 : Has S 13 true 4 2 bShaped
  lr : Has S N.lr false 9 2 bLongRuns
  gp : Has S N.gp false 10 2 (bGP N.lr)
  od : ∃ od, Has S od false 2 1 bOrder ∧ Has S N.al true 4 1 (bAnyL od)
  fr : Has S N.fr false 2 1 bFree
  gg : Has S N.gg false 4 1 bGapsL
  hd : Has S N.hd true 3 2 bHanded
  rn : Has S N.rn false 7 2 (bRunsL N.gg)
  du : Has S N.du false 12 2 (bDue13 N.rn)
  rf : Has S N.rf false 3 2 (bRef13 N.gp)
  lw : Has S law false 11 1 (bLaw13 N)
section
variable {S : Src} {N : Nr13} {law : Nat} (H : Prg13 S N law) {n : Nat} (hn : 10 ≤ n)
include H hn
theorem turn13 {cp mx : Int} {bl : List T3} (L : LayOk cp bl) {s0 s3 s6 s7 s8 s9 s10 : SD} {o : OC} (po : Pool o) (x : D) : ∃ (o' : OC) (t6 t7 t8 t9 t10 : SD), sBody S.CF (S.run n) [6] (bLawT N) x [s0, .own true o, .val (lyD cp bl), s3, .val (lyO cp bl mx), .val (.tup ((gpL 0 cp bl).map fun p => .int p.2)), s6, s7, s8, s9, s10] = .nx [s0, .own true o', .val (lyD cp bl), s3, .val (lyO cp bl mx), .val (.tup ((gpL 0 cp bl).map fun p => .int p.2)), t6, t7, t8, t9, t10] ∧ Pool o' := by
  have lg := gpL_len bl 0 cp
  have hl := L.len
  obtain ⟨z, hz⟩ : ∃ z : Int, z = ((bl.length + 1 : Nat) : Int) := ⟨_, rfl⟩
  have lq : biD .len [.tup ((gpL 0 cp bl).map fun p => .int p.2)] = some (.int z) := by rw [len_tup, List.length_map, lg, hz]
  obtain ⟨d1, o1, e1, p1, a1, b1⟩ := take_to H.hlp.take (n := n) (by omega) po (m := z) (by omega) (by omega)
  obtain ⟨d2, o2, e2, p2, a2, b2⟩ := take_to H.hlp.take (n := n) (by omega) p1 (m := z - d1) (by omega) (by omega)
  have l1 : d1.toNat < (gpL 0 cp bl).length := by omega
  have ig : idxD (.tup ((gpL 0 cp bl).map fun p => .int p.2)) (.int d1) = some (.int (gpL 0 cp bl)[d1.toNat].2) := by
    show atI _ _ = _
    rw [atI_get _ _ a1 (by rw [List.length_map]; omega), List.getElem?_map, List.getElem?_eq_getElem l1]; rfl
  have cm := cut_map (fun p : Int × Int => D.int p.2) (gpL 0 cp bl) (some d1) (some (d1 + d2 + 1))
  have sm := sum_mapT (fun p : Int × Int => p.2) (cutD (gpL 0 cp bl) (some d1) (some (d1 + d2 + 1)))
  generalize ((cutD (gpL 0 cp bl) (some d1) (some (d1 + d2 + 1))).map fun p : Int × Int => p.2).sum = w at sm
  have ef := free_spec (n := n) (cp := cp) (bl := bl) H.fr (by omega) (by omega)
  have f0 : 0 ≤ cp - (bl.map (·.2.2)).sum := by
    have := sum_nn (l := (gpL 0 cp bl).map (·.2)) fun x hx => by
      obtain ⟨p, hp, rfl⟩ := List.mem_map.1 hx
      exact gpL_nn bl 0 cp L.asc p hp
    rw [gpL_sum] at this
    omega
  obtain ⟨q, hq⟩ : ∃ q : Int, q = cp - (bl.map (·.2.2)).sum := ⟨_, rfl⟩
  rw [← hq] at ef f0
  obtain ⟨d3, o3, e3, p3, a3, b3⟩ := far_spec H.hlp.take H.hlp.far (n := n) (by omega) p2 (m := q + 2) (by omega)
  obtain ⟨d4, o4, x4, e4, p4, i4, m4⟩ := take_few H.hlp (n := n) (by omega) p3 (xs := [.int (gpL 0 cp bl)[d1.toNat].2, .int w, .int q, .int d3]) (by simp) (by simp) (m := 4) rfl
  obtain ⟨v4, rfl⟩ : ∃ v : Int, x4 = .int v := by
    simp only [List.mem_cons, List.not_mem_nil, or_false] at m4
    rcases m4 with rfl | rfl | rfl | rfl <;> exact ⟨_, rfl⟩
  obtain ⟨d5, o5, x5, e5, p5, i5, m5⟩ := take_few H.hlp (n := n) (by omega) p4 (xs := [.int 0, .int 0, .int 1, .int (-1)]) (by simp) (by simp) (m := 4) rfl
  obtain ⟨v5, rfl⟩ : ∃ v : Int, x5 = .int v := by
    simp only [List.mem_cons, List.not_mem_nil, or_false] at m5
    rcases m5 with rfl | rfl | rfl | rfl <;> exact ⟨_, rfl⟩
  obtain ⟨len, hlen, h1⟩ : ∃ len : Int, biD .max2 [.int 1, .int (v4 + v5)] = some (.int len) ∧ 1 ≤ len := ⟨_, max2_i _ _, by split <;> omega⟩
  obtain ⟨d, sd, eg, ed⟩ := gap_same H.c0 H.lr H.gp H.gg H.rn H.du (n := n) (by omega) (mx := mx) L h1
  have es := same_spec H.p10 H.p11 3 (n := n) (by omega) sd
  rw [sBody_some _ _ (bindT_1 6 _ _), bLawT]
  simp! [lq, e1, ofFO_ret, e2, ig, slv_tup, optI_i, cm, sm, ef, ofF_ret, e3, e4, i4, e5, i5, hlen, eg, ed, es, Bool.not_true]
  exact ⟨_, _, _, _, _, _, rfl, p5⟩
theorem core13 {ns : List Int} (hl : ns.length ≤ 1000) : S.run (n + 1) law none [.scr (ns.map .int)] = .ret (.bl true) none := by
  rw [H.lw.run n _ _ rfl rfl]
  obtain ⟨xs, e1, p1⟩ := pool_spec H.p7 (n := n) (by omega) hl
  obtain ⟨od, ho, ha⟩ := H.od
  obtain ⟨cp, bl, o2, e2, p2, L⟩ := any_layout_spec H.hlp ho ha (n := n) (by omega) p1
  obtain ⟨dB, ul, o3, e3, p3, kB, pm⟩ := handed_spec H.hlp H.p13 H.hd (n := n) (by omega) p2 L
  obtain ⟨mx, e4⟩ := init_okX H.c0 H.p1 H.p2 H.p3 H.p4 H.p5 H.p6 (n := n) (by omega) L rfl pm kB
  have mk : ∀ S', kMk (S.run n) 0 6 (.ok [.int cp, dB] S') = .ok (lyO cp bl mx) S' := fun S' => by rw [kMk_ok, e4]; rfl
  have e5 := gapsL_spec H.gg (n := n) (by omega) (cp := cp) (bl := bl) (by have := L.len; omega)
  obtain ⟨S', e6, o6, t6, t7, t8, t9, t10, rfl, p6⟩ := loop_nx (CF := S.CF) (Φ := S.run n) (ts := [6]) (b := bLawT N) (fun _ S' => ∃ (o : OC) (s6 s7 s8 s9 s10 : SD), S' = [.val (.scr (ns.map .int)), .own true o, .val (lyD cp bl), .val (.tup [.int cp, dB]), .val (lyO cp bl mx), .val (.tup ((gpL 0 cp bl).map fun p => .int p.2)), s6, s7, s8, s9, s10] ∧ Pool o) (rngL (8 : Int).toNat) 0 [.val (.scr (ns.map .int)), .own true o3, .val (lyD cp bl), .val (.tup [.int cp, dB]), .val (lyO cp bl mx), .val (.tup ((gpL 0 cp bl).map fun p => .int p.2)), .un, .un, .un, .un, .un] ⟨_, _, _, _, _, _, rfl, p3⟩ fun j y S' hy ⟨o, s6, s7, s8, s9, s10, eS, po⟩ => by
    subst eS
    obtain ⟨o', t6, t7, t8, t9, t10, e, p⟩ := turn13 H hn L (mx := mx) (s0 := .val (.scr (ns.map .int))) (s3 := .val (.tup [.int cp, dB])) (s6 := s6) (s7 := s7) (s8 := s8) (s9 := s9) (s10 := s10) po y
    exact ⟨_, .inl e, o', t6, t7, t8, t9, t10, rfl, p⟩
  obtain ⟨d7, o7, e7, p7, a7, b7⟩ := take_to H.hlp.take (n := n) (by omega) p6 (m := 1000000) (by decide) (by decide)
  have r1 := ref_spec H.c501 H.gp H.rf (n := n) (by omega) (cp := cp) (mx := mx) (len := 0) (bl := bl) (by decide)
  have r2 := ref_spec H.c501 H.gp H.rf (n := n) (by omega) (cp := cp) (mx := mx) (len := -1 - d7) (bl := bl) (by omega)
  have ss := sum_nn (l := bl.map (·.2.2)) fun x hx => by
    obtain ⟨t, ht, rfl⟩ := List.mem_map.1 hx
    have := (L.sz t ht).1
    omega
  have le := L.le
  have g1 := gp_none H.c0 H.gp (n := n) (by omega) (mx := mx) (cp := cp) (bl := bl) (len := 100000000000000000000000000000000) (by decide) (by omega)
  have sm : Sm 2 (.tup (bl.map tpD)) := .tup _ (fun d hd => by
    obtain ⟨t, -, rfl⟩ := List.mem_map.1 hd
    refine .tup _ (fun d hd => ?_) (by simp)
    simp only [List.mem_cons, List.not_mem_nil, or_false] at hd
    rcases hd with rfl | rfl | rfl
    · exact .str _
    · exact .int _
    · exact .int _) (by rw [List.length_map]; have := L.len; omega)
  have es := same_spec H.p10 H.p11 2 (n := n) (by omega) sm
  have tb : truD (.bl true) = some true := rfl
  simp only [startS, bLaw13, List.map, List.replicate, List.cons_append, List.nil_append, List.length]
  simp! [e1, e2, ofFO_ret, e3, idx_t0, idx_t1, mk, e5, ofF_ret, rng_int (i := 8) (by decide) (by decide), e6, r1, pow_6, e7, r2, Bool.not_true, pow_32, g1, fld_blk H.c0, ly_blk, es, Bool.not_false, -kMk_ok, -kFld_ok]
end
end VI

set_option Elab.async false
set_option linter.all false
set_option maxRecDepth 100000
set_option maxHeartbeats 0
namespace K13
open PySem PySem.W PySem.Calls PySem.Spec PyProof.Rows L2 VI
abbrev PW : Program := PySem.Challenge.pw_letpast_k13_gap_plans
def noSt : Stmt := .Pass ⟨0, 0, 0, 0⟩
def top (i : Nat) : Stmt := PW.main.body.getD i noSt
def clsSt (s : Stmt) (j : Nat) : Stmt := match s with | .ClassDef _ _ _ b _ _ _ _ _ _ _ => b.getD j noSt | _ => noSt
abbrev s0 : Stmt := clsSt (top 14) 0  -- BadLayout.__init__
abbrev s1 : Stmt := top 15  -- is_name
abbrev s2 : Stmt := top 16  -- lone_fault
abbrev s3 : Stmt := top 17  -- overlap_fault
abbrev s4 : Stmt := top 18  -- check_blocks
abbrev s5 : Stmt := top 19  -- gaps_around
abbrev s6 : Stmt := clsSt (top 20) 0  -- Layout.__init__
abbrev s7 : Stmt := top 22  -- _law_pool
abbrev s8 : Stmt := top 23  -- _law_take
abbrev s9 : Stmt := top 24  -- _law_far
abbrev s10 : Stmt := top 25  -- _law_is_integer
abbrev s11 : Stmt := top 26  -- _law_same
abbrev s12 : Stmt := top 5  -- long_runs
abbrev s13 : Stmt := top 27  -- _law_shaped
abbrev s14 : Stmt := top 28  -- _law_some
abbrev s15 : Stmt := top 29  -- _law_names
abbrev s16 : Stmt := top 30  -- _law_parted
abbrev s17 : Stmt := top 31  -- _law_placed
abbrev s18 : Stmt := top 32  -- _law_layout
abbrev s19 : Stmt := top 6  -- gap_plan
abbrev s20 : Stmt := top 33  -- _law_order
abbrev s21 : Stmt := top 34  -- _law_free
abbrev s22 : Stmt := top 35  -- _law_gaps
abbrev s23 : Stmt := top 36  -- _law_handed
abbrev s24 : Stmt := top 37  -- _law_any_layout
abbrev s25 : Stmt := top 38  -- _law_runs
abbrev s26 : Stmt := top 39  -- _law_due
abbrev s27 : Stmt := top 40  -- _law_refused
abbrev s28 : Stmt := top 41  -- law
def b0 : Bs := (.cons (.sfl 0 "number" (.var 1)) (.cons (.sfl 0 "reason" (.var 2)) .nil))
def b1 : Bs := (.cons (.iff (.disj (.not (.isi (.var 0) [.str])) (.not (.chain .le .le (.int 1) (.bi .len (.cons (.var 0) .nil)) (.glob "MOST_NAME_SIGNS" (.int 8))))) (.cons (.ret (.bl false)) .nil) .nil) (.cons (.ret (.conj (.cmp .inn (.idx (.var 0) (.int 0)) (.glob "LETTERS" (.str "abcdefghijklmnopqrstuvwxyz"))) (.gen true (.var 0) (.inn false .it (.cat (.gl "LETTERS" (.str "abcdefghijklmnopqrstuvwxyz")) (.gl "FIGURES" (.str "0123456789"))))))) .nil))
def b2 : Bs := (.cons (.unp [3, 4, 5] (.var 1)) (.cons (.iff (.not (.call 1 (.cons (.var 3) .nil))) (.cons (.ret (.str "name")) .nil) .nil) (.cons (.iff (.cmp .lt (.var 4) (.int 0)) (.cons (.ret (.str "start")) .nil) .nil) (.cons (.iff (.not (.chain .le .le (.int 1) (.var 5) (.glob "MOST_SIZE" (.int 1000000000000000000000000000000)))) (.cons (.ret (.str "size")) .nil) .nil) (.cons (.iff (.gen false (.var 2) (.eqq false (.fr 3 "name") (.ita 0))) (.cons (.ret (.str "twice")) .nil) .nil) (.cons (.iff (.cmp .gt (.bin .add (.var 4) (.var 5)) (.var 0)) (.cons (.ret (.str "beyond")) .nil) .nil) (.cons (.ret .non) .nil)))))))
def b3 : Bs := (.cons (.unp [2, 3, 4] (.var 0)) (.cons (.for [2, 5, 6] (.var 1) (.cons (.iff (.conj (.cmp .lt (.var 3) (.bin .add (.var 5) (.var 6))) (.cmp .lt (.var 5) (.bin .add (.var 3) (.var 4)))) (.cons (.ret (.str "overlap")) .nil) .nil) .nil)) (.cons (.ret .non) .nil)))
def b4 : Bs := (.cons (.iff (.not (.chain .le .le (.int 0) (.var 0) (.glob "MOST_CAPACITY" (.int 10000000000000000000000000000000)))) (.cons (.rse 500 ["number", "reason"] (.cons .non (.cons (.str "capacity") .nil))) .nil) .nil) (.cons (.iff (.cmp .gt (.bi .len (.cons (.var 1) .nil)) (.glob "MOST_BLOCKS" (.int 12))) (.cons (.rse 500 ["number", "reason"] (.cons .non (.cons (.str "many") .nil))) .nil) .nil) (.cons (.for [3, 4] (.enm (.var 1)) (.cons (.asg 5 (.slV (.var 1) .hole (.var 3))) (.cons (.asg 6 (.call 2 (.cons (.var 0) (.cons (.var 4) (.cons (.var 5) .nil))))) (.cons (.iff (.isN false (.var 6)) (.cons (.asg 6 (.callV 2 (.cons (.var 4) (.cons (.var 5) .nil)))) .nil) .nil) (.cons (.iff (.isN true (.var 6)) (.cons (.rse 500 ["number", "reason"] (.cons (.var 3) (.cons (.var 6) .nil))) .nil) .nil) .nil))))) .nil)))
def b5 : Bs := (.cons (.asgN 2 (.lst .nil)) (.cons (.asg 3 (.int 0)) (.cons (.for [4, 5, 6] (.var 1) (.cons (.exp (.app 2 (.tup (.cons (.var 3) (.cons (.bin .sub (.var 5) (.var 3)) .nil))))) (.cons (.asg 3 (.bin .add (.var 5) (.var 6))) .nil))) (.cons (.exp (.app 2 (.tup (.cons (.var 3) (.cons (.bin .sub (.var 0) (.var 3)) .nil))))) (.cons (.ret (.bi .tup (.cons (.var 2) .nil))) .nil)))))
def b6 : Bs := (.cons (.exp (.call 4 (.cons (.var 1) (.cons (.var 2) (.cons (.gfn 3) .nil))))) (.cons (.asgN 3 (.cmpr [("block", 4)] [4] (.var 2) .hole (.bi .tup (.cons (.var 4) .nil)))) (.cons (.sfl 0 "capacity" (.var 1)) (.cons (.sfl 0 "blocks" (.bi .tup (.cons (.srt (.ita 1) (.var 3)) .nil))) (.cons (.sfl 0 "order" (.bi .tup (.cons (.cmpr [("block", 4)] [4] (.fldO 0 "blocks") .hole (.idx (.var 4) (.int 0))) .nil))) (.cons (.sfl 0 "free" (.bin .sub (.var 1) (.bi .sum (.cons (.cmpr [("block", 4)] [4] (.fldO 0 "blocks") .hole (.idx (.var 4) (.int 2))) .nil)))) (.cons (.sfl 0 "gaps" (.call 5 (.cons (.var 1) (.cons (.fldO 0 "blocks") .nil)))) (.cons (.sfl 0 "longest_gap" (.bi .maxl (.cons (.cmpr [("_", 5), ("cells", 6)] [5, 6] (.fldO 0 "gaps") .hole (.var 6)) .nil))) .nil))))))))
def b7 : Bs := (.cons (.retL (.lst (.cons (.cmpr [("cell", 1)] [1] (.var 0) .hole (.ite (.cmp .ge (.var 1) (.int 0)) (.bin .mul (.int 2) (.var 1)) (.bin .sub (.bin .mul (.neg (.int 2)) (.var 1)) (.int 1)))) (.cons (.int 0) (.cons (.int 0) (.cons (.int 17) .nil)))))) .nil)
def b8 : Bs := (.cons (.iff (.cmp .gt (.idxO 0 (.int 2)) (.int 0)) (.cons (.asg 2 (.bin .mod (.bi .int (.cons (.idxO 0 (.int 2)) .nil)) (.var 1))) (.cons (.six 0 (.int 2) (.bin .fdiv (.idxO 0 (.int 2)) (.var 1))) (.cons (.ret (.var 2)) .nil))) .nil) (.cons (.asg 3 (.int 0)) (.cons (.iff (.cmp .lt (.idxO 0 (.int 1)) (.bi .len (.cons (.idxO 0 (.int 0)) .nil))) (.cons (.asg 3 (.idx (.idxO 0 (.int 0)) (.idxO 0 (.int 1)))) .nil) .nil) (.cons (.six 0 (.int 1) (.bin .add (.idxO 0 (.int 1)) (.int 1))) (.cons (.iff (.cmp .ge (.var 3) (.bin .pow (.int 10) (.int 18))) (.cons (.six 0 (.int 2) (.bin .fdiv (.var 3) (.int 2))) (.cons (.ret (.callO 8 0 (.cons (.var 1) .nil))) .nil)) .nil) (.cons (.six 0 (.int 3) (.bin .mod (.bi .int (.cons (.bin .add (.bin .add (.bin .mul (.idxO 0 (.int 3)) (.int 48271)) (.bin .mul (.var 3) (.int 69621))) (.bin .mul (.idxO 0 (.int 1)) (.int 613))) .nil)) (.int 2147483647))) (.cons (.asg 4 (.bin .mod (.bi .int (.cons (.bin .add (.bin .add (.bin .mul (.idxO 0 (.int 3)) (.idxO 0 (.int 3))) (.bin .mul (.idxO 0 (.int 3)) (.int 7919))) (.int 104729)) .nil)) (.int 1000000007))) (.cons (.ret (.bin .mod (.bi .int (.cons (.bin .fdiv (.var 4) (.int 3)) .nil)) (.var 1))) .nil))))))))
def b9 : Bs := (.cons (.asg 2 (.callO 8 0 (.cons (.bin .pow (.int 10) (.int 8)) .nil))) (.cons (.asg 3 (.bin .pow (.int 10) (.int 8))) (.cons (.for [4] (.rng (.cons (.int 36) .nil)) (.cons (.iff (.cmp .lt (.var 3) (.var 1)) (.cons (.asg 2 (.bin .add (.bin .mul (.var 2) (.bin .pow (.int 10) (.int 8))) (.callO 8 0 (.cons (.bin .pow (.int 10) (.int 8)) .nil)))) (.cons (.asg 3 (.bin .mul (.var 3) (.bin .pow (.int 10) (.int 8)))) .nil)) .nil) .nil)) (.cons (.ret (.bin .mod (.bi .int (.cons (.var 2) .nil)) (.var 1))) .nil))))
def b10 : Bs := (.cons (.ret (.conj (.isi (.var 0) [.int]) (.not (.isi (.var 0) [.bool])))) .nil)
def b11 : Bs := (.cons (.iff (.isi (.var 1) [.tup]) (.cons (.iff (.disj (.not (.isi (.var 0) [.tup])) (.cmp .ne (.bi .len (.cons (.var 0) .nil)) (.bi .len (.cons (.var 1) .nil)))) (.cons (.ret (.bl false)) .nil) .nil) (.cons (.ret (.bi .all (.cons (.cmpr [("k", 2)] [2] (.rng (.cons (.bi .len (.cons (.var 1) .nil)) .nil)) .hole (.call 11 (.cons (.idx (.var 0) (.var 2)) (.cons (.idx (.var 1) (.var 2)) .nil)))) .nil))) .nil)) .nil) (.cons (.iff (.isi (.var 1) [.lst]) (.cons (.iff (.disj (.not (.isi (.var 0) [.lst])) (.cmp .ne (.bi .len (.cons (.var 0) .nil)) (.bi .len (.cons (.var 1) .nil)))) (.cons (.ret (.bl false)) .nil) .nil) (.cons (.ret (.bi .all (.cons (.cmpr [("k", 2)] [2] (.rng (.cons (.bi .len (.cons (.var 1) .nil)) .nil)) .hole (.call 11 (.cons (.idx (.var 0) (.var 2)) (.cons (.idx (.var 1) (.var 2)) .nil)))) .nil))) .nil)) .nil) (.cons (.iff (.isN false (.var 1)) (.cons (.ret (.isN false (.var 0))) .nil) .nil) (.cons (.iff (.isi (.var 1) [.bool]) (.cons (.ret (.conj (.isi (.var 0) [.bool]) (.cmp .eq (.var 0) (.var 1)))) .nil) .nil) (.cons (.iff (.isi (.var 1) [.str]) (.cons (.ret (.conj (.isi (.var 0) [.str]) (.cmp .eq (.var 0) (.var 1)))) .nil) .nil) (.cons (.ret (.conj (.call 10 (.cons (.var 0) .nil)) (.cmp .eq (.var 0) (.var 1)))) .nil))))))
def b12 : Bs := (.cons (.asgN 2 (.lst .nil)) (.cons (.asg 3 (.fld (.var 0) "gaps")) (.cons (.for [4] (.rng (.cons (.bi .len (.cons (.var 3) .nil)) .nil)) (.cons (.for [5] (.rng (.cons (.var 4) (.cons (.bi .len (.cons (.var 3) .nil)) .nil))) (.cons (.iff (.cmp .ge (.bi .sum (.cons (.cmpr [("_", 6), ("cells", 7)] [6, 7] (.slV (.var 3) (.var 4) (.bin .add (.var 5) (.int 1))) .hole (.var 7)) .nil)) (.var 1)) (.cons (.exp (.app 2 (.tup (.cons (.bi .sum (.cons (.cmpr [("_", 6), ("size", 8)] [6, 6, 8] (.slV (.fld (.var 0) "blocks") (.var 4) (.var 5)) .hole (.var 8)) .nil)) (.cons (.var 4) (.cons (.var 5) .nil)))))) .nil) .nil) .nil)) .nil)) (.cons (.ret (.var 2)) .nil))))
def b13 : Bs := (.cons (.iff (.not (.isi (.var 1) [.tup, .lst])) (.cons (.ret (.var 1)) .nil) .nil) (.cons (.asgN 2 (.cmpr [("part", 3)] [3] (.var 1) .hole (.callO 13 0 (.cons (.var 3) .nil)))) (.cons (.ret (.ite (.cmp .eq (.callO 8 0 (.cons (.int 2) .nil)) (.int 0)) (.var 2) (.bi .tup (.cons (.var 2) .nil)))) .nil)))
def b14 : Bs := (.cons (.asgN 3 (.bi .lst (.cons (.var 1) .nil))) (.cons (.asgN 4 (.lst .nil)) (.cons (.for [5] (.rng (.cons (.bi .min2 (.cons (.var 2) (.cons (.bi .len (.cons (.var 1) .nil)) .nil))) .nil)) (.cons (.exp (.app 4 (.pop 3 (.cons (.callO 8 0 (.cons (.lenO 3) .nil)) .nil)))) .nil)) (.cons (.ret (.var 4)) .nil))))
def b15 : Bs := (.cons (.asg 2 (.str "abcdefghijklmnopqrstuvwxyz")) (.cons (.asg 3 (.bin .add (.var 2) (.str "0123456789"))) (.cons (.asg 4 (.idx (.var 2) (.callO 8 0 (.cons (.int 26) .nil)))) (.cons (.asgN 5 (.lst .nil)) (.cons (.for [6] (.rng (.cons (.var 1) .nil)) (.cons (.asg 7 (.idx (.tup (.cons (.idx (.var 2) (.callO 8 0 (.cons (.int 26) .nil))) (.cons (.var 4) .nil))) (.callO 8 0 (.cons (.int 2) .nil)))) (.cons (.for [8] (.rng (.cons (.idx (.tup (.cons (.int 0) (.cons (.int 0) (.cons (.int 1) (.cons (.int 2) (.cons (.int 7) .nil)))))) (.callO 8 0 (.cons (.int 5) .nil))) .nil)) (.cons (.asg 7 (.bin .add (.var 7) (.idx (.var 3) (.callO 8 0 (.cons (.int 36) .nil))))) .nil)) (.cons (.for [8] (.rng (.cons (.bin .add (.var 1) (.int 1)) .nil)) (.cons (.iff (.cmpO .nin (.var 7) 5) (.cons .brk .nil) .nil) (.cons (.asg 7 (.bin .add (.bin .add (.idx (.var 2) (.bin .mod (.bi .int (.cons (.var 6) .nil)) (.int 26))) (.idx (.var 3) (.bin .mod (.bi .int (.cons (.var 8) .nil)) (.int 36)))) (.idx (.var 3) (.bin .mod (.bi .int (.cons (.var 6) .nil)) (.int 36))))) .nil))) (.cons (.exp (.app 5 (.var 7))) .nil))))) (.cons (.ret (.var 5)) .nil))))))
def b16 : Bs := (.cons (.asgN 3 (.rep (.lst (.cons (.int 0) .nil)) (.bin .add (.var 2) (.int 1)))) (.cons (.asg 4 (.callO 8 0 (.cons (.int 3) .nil))) (.cons (.asg 5 (.var 1)) (.cons (.for [6] (.callO 14 0 (.cons (.lrg (.bin .add (.var 2) (.int 1))) (.cons (.var 2) .nil))) (.cons (.asg 7 (.int 0)) (.cons (.iff (.cmp .eq (.var 4) (.int 1)) (.cons (.asg 7 (.callO 9 0 (.cons (.bin .add (.var 5) (.int 1)) .nil))) .nil) (.cons (.iff (.cmp .eq (.var 4) (.int 2)) (.cons (.asg 7 (.idx (.tup (.cons (.int 0) (.cons (.bi .min2 (.cons (.var 5) (.cons (.bin .add (.int 1) (.callO 8 0 (.cons (.int 3) .nil))) .nil))) (.cons (.callO 9 0 (.cons (.bin .add (.var 5) (.int 1)) .nil)) .nil)))) (.callO 8 0 (.cons (.int 3) .nil)))) .nil) .nil) .nil)) (.cons (.six 3 (.var 6) (.var 7)) (.cons (.asg 5 (.bin .sub (.var 5) (.var 7))) .nil))))) (.cons (.asgN 8 (.cmpr [("k", 6)] [6] (.rng (.cons (.bin .add (.var 2) (.int 1)) .nil)) (.cmp .eq (.idxO 3 (.var 6)) (.int 0)) (.var 6))) (.cons (.asg 9 (.ite (.var 8) (.idx (.var 8) (.callO 8 0 (.cons (.bi .len (.cons (.var 8) .nil)) .nil))) (.int 0))) (.cons (.six 3 (.var 9) (.bin .add (.idxO 3 (.var 9)) (.var 5))) (.cons (.ret (.var 3)) .nil))))))))
def b17 : Bs := (.cons (.asgN 3 (.lst .nil)) (.cons (.asg 4 (.int 0)) (.cons (.for [5] (.rng (.cons (.bi .len (.cons (.var 0) .nil)) .nil)) (.cons (.exp (.app 3 (.tup (.cons (.idx (.var 0) (.var 5)) (.cons (.bin .add (.var 4) (.idx (.var 2) (.var 5))) (.cons (.idx (.var 1) (.var 5)) .nil)))))) (.cons (.asg 4 (.bin .add (.bin .add (.var 4) (.idx (.var 2) (.var 5))) (.idx (.var 1) (.var 5)))) .nil))) (.cons (.ret (.dct ["capacity", "blocks"] (.cons (.bin .add (.var 4) (.idx (.var 2) (.neg (.int 1)))) (.cons (.bi .tup (.cons (.var 3) .nil)) .nil)))) .nil))))
def b18 : Bs := (.cons (.asg 2 (.callO 8 0 (.cons (.bin .add (.var 1) (.int 1)) .nil))) (.cons (.asg 3 (.idx (.tup (.cons (.int 1) (.cons (.int 1) (.cons (.int 1) (.cons (.bin .add (.int 1) (.callO 9 0 (.cons (.bin .mul (.int 5) (.bin .pow (.int 10) (.int 28))) .nil))) .nil))))) (.callO 8 0 (.cons (.int 4) .nil)))) (.cons (.asg 4 (.bin .mul (.var 3) (.callO 8 0 (.cons (.idx (.tup (.cons (.int 3) (.cons (.int 9) .nil))) (.callO 8 0 (.cons (.int 2) .nil))) .nil)))) (.cons (.iff (.cmp .gt (.var 3) (.int 1)) (.cons (.asg 4 (.bin .add (.var 4) (.callO 8 0 (.cons (.int 3) .nil)))) .nil) .nil) (.cons (.asgN 5 (.lst .nil)) (.cons (.for [6] (.rng (.cons (.var 2) .nil)) (.cons (.asg 7 (.bin .add (.bin .mul (.var 3) (.callO 8 0 (.cons (.idx (.tup (.cons (.int 4) (.cons (.int 10) .nil))) (.callO 8 0 (.cons (.int 2) .nil))) .nil))) (.callO 8 0 (.cons (.int 3) .nil)))) (.cons (.asg 7 (.idx (.tup (.cons (.var 7) (.cons (.var 4) (.cons (.bin .add (.var 4) (.int 1)) (.cons (.bin .sub (.var 4) (.int 1)) (.cons (.var 7) .nil)))))) (.callO 8 0 (.cons (.int 5) .nil)))) (.cons (.exp (.app 5 (.bi .max2 (.cons (.int 1) (.cons (.var 7) .nil))))) .nil)))) (.cons (.ret (.call 17 (.cons (.callO 15 0 (.cons (.var 2) .nil)) (.cons (.var 5) (.cons (.callO 16 0 (.cons (.var 4) (.cons (.var 2) .nil))) .nil))))) .nil)))))))
def b19 : Bs := (.cons (.iff (.cmp .lt (.var 1) (.int 1)) (.cons (.rsp 501 (.cons (.str "a gap of less than one cell is wanted") .nil)) .nil) .nil) (.cons (.iff (.cmp .lt (.fld (.var 0) "free") (.var 1)) (.cons (.ret .non) .nil) .nil) (.cons (.unp [2, 3, 4] (.bi .mind (.cons (.call 12 (.cons (.var 0) (.cons (.var 1) .nil))) .nil))) (.cons (.unp [5, 6] (.idx (.fld (.var 0) "gaps") (.var 3))) (.cons (.asgN 7 (.lst .nil)) (.cons (.for [8, 6, 9] (.slV (.fld (.var 0) "blocks") (.var 3) (.var 4)) (.cons (.exp (.app 7 (.tup (.cons (.var 8) (.cons (.var 5) .nil))))) (.cons (.aug 5 .add (.var 9)) .nil))) (.cons (.ret (.tup (.cons (.var 5) (.cons (.var 2) (.cons (.bi .tup (.cons (.var 7) .nil)) .nil))))) .nil)))))))
def b20 : Bs := (.cons (.ret (.bi .tup (.cons (.cmpr [("block", 1)] [1] (.idx (.var 0) (.str "blocks")) .hole (.idx (.var 1) (.int 0))) .nil))) .nil)
def b21 : Bs := (.cons (.ret (.bin .sub (.idx (.var 0) (.str "capacity")) (.bi .sum (.cons (.cmpr [("block", 1)] [1] (.idx (.var 0) (.str "blocks")) .hole (.idx (.var 1) (.int 2))) .nil)))) .nil)
def b22 : Bs := (.cons (.asgN 1 (.lst .nil)) (.cons (.asg 2 (.int 0)) (.cons (.for [3] (.idx (.var 0) (.str "blocks")) (.cons (.exp (.app 1 (.bin .sub (.idx (.var 3) (.int 1)) (.var 2)))) (.cons (.asg 2 (.bin .add (.idx (.var 3) (.int 1)) (.idx (.var 3) (.int 2)))) .nil))) (.cons (.ret (.bi .tup (.cons (.bin .add (.var 1) (.lst (.cons (.bin .sub (.idx (.var 0) (.str "capacity")) (.var 2)) .nil))) .nil))) .nil))))
def b23 : Bs := (.cons (.asg 2 (.callO 14 0 (.cons (.bi .lst (.cons (.idx (.var 1) (.str "blocks")) .nil)) (.cons (.bi .len (.cons (.idx (.var 1) (.str "blocks")) .nil)) .nil)))) (.cons (.ret (.tup (.cons (.idx (.var 1) (.str "capacity")) (.cons (.callO 13 0 (.cons (.var 2) .nil)) .nil)))) .nil))
def b24 : Bs := (.cons (.asg 1 (.callO 18 0 (.cons (.int 12) .nil))) (.cons (.iff (.disj (.cmp .gt (.callO 8 0 (.cons (.int 6) .nil)) (.int 0)) (.not (.idx (.var 1) (.str "blocks")))) (.cons (.ret (.var 1)) .nil) .nil) (.cons (.asgN 2 (.cmpr [("block", 3)] [3] (.idx (.var 1) (.str "blocks")) .hole (.idx (.var 3) (.int 2)))) (.cons (.six 2 (.callO 8 0 (.cons (.lenO 2) .nil)) (.bin .pow (.int 10) (.int 30))) (.cons (.ret (.call 17 (.cons (.call 20 (.cons (.var 1) .nil)) (.cons (.var 2) (.cons (.callO 16 0 (.cons (.bin .sub (.bin .pow (.int 10) (.int 31)) (.bi .sum (.cons (.var 2) .nil))) (.cons (.lenO 2) .nil))) .nil))))) .nil)))))
def b25 : Bs := (.cons (.asg 2 (.call 22 (.cons (.var 0) .nil))) (.cons (.asgN 3 (.lst .nil)) (.cons (.for [4] (.rng (.cons (.bi .len (.cons (.var 2) .nil)) .nil)) (.cons (.for [5] (.rng (.cons (.var 4) (.cons (.bi .len (.cons (.var 2) .nil)) .nil))) (.cons (.iff (.cmp .ge (.bi .sum (.cons (.slV (.var 2) (.var 4) (.bin .add (.var 5) (.int 1))) .nil)) (.var 1)) (.cons (.exp (.app 3 (.tup (.cons (.bi .sum (.cons (.cmpr [("block", 6)] [6] (.slV (.idx (.var 0) (.str "blocks")) (.var 4) (.var 5)) .hole (.idx (.var 6) (.int 2))) .nil)) (.cons (.var 4) (.cons (.bin .sub (.var 5) (.var 4)) .nil)))))) .nil) .nil) .nil)) .nil)) (.cons (.ret (.bi .srt (.cons (.var 3) .nil))) .nil))))
def b26 : Bs := (.cons (.asg 2 (.call 25 (.cons (.var 0) (.cons (.var 1) .nil)))) (.cons (.iff (.not (.var 2)) (.cons (.ret .non) .nil) .nil) (.cons (.unp [3, 4, 5] (.idx (.var 2) (.int 0))) (.cons (.asg 6 (.slV (.idx (.var 0) (.str "blocks")) .hole (.var 4))) (.cons (.asg 7 (.ite (.var 6) (.bin .add (.idx (.idx (.var 6) (.neg (.int 1))) (.int 1)) (.idx (.idx (.var 6) (.neg (.int 1))) (.int 2))) (.int 0))) (.cons (.asgN 8 (.lst .nil)) (.cons (.for [9, 10, 11] (.slV (.idx (.var 0) (.str "blocks")) (.var 4) (.bin .add (.var 4) (.var 5))) (.cons (.exp (.app 8 (.tup (.cons (.var 9) (.cons (.var 7) .nil))))) (.cons (.asg 7 (.bin .add (.var 7) (.var 11))) .nil))) (.cons (.ret (.tup (.cons (.var 7) (.cons (.var 3) (.cons (.bi .tup (.cons (.var 8) .nil)) .nil))))) .nil))))))))
def b27 : Bs := (.cons (.tri (.cons (.exp (.call 19 (.cons (.var 0) (.cons (.var 1) .nil)))) .nil) [("BadLength", 2, (.inst "LetError"))]) (.cons (.ret (.bl false)) .nil))
def b28 : Bs := (.cons (.asgF 1 7 (.cons (.var 0) .nil)) (.cons (.asg 2 (.callO 24 1 .nil)) (.cons (.asg 3 (.callO 23 1 (.cons (.var 2) .nil))) (.cons (.asg 4 (.mk 0 6 (.cons (.idx (.var 3) (.int 0)) (.cons (.idx (.var 3) (.int 1)) .nil)))) (.cons (.asg 5 (.call 22 (.cons (.var 2) .nil))) (.cons (.for [6] (.rng (.cons (.int 8) .nil)) (.cons (.asg 7 (.callO 8 1 (.cons (.bi .len (.cons (.var 5) .nil)) .nil))) (.cons (.asg 8 (.bin .add (.var 7) (.callO 8 1 (.cons (.bin .sub (.bi .len (.cons (.var 5) .nil)) (.var 7)) .nil)))) (.cons (.asg 9 (.idx (.tup (.cons (.idx (.var 5) (.var 7)) (.cons (.bi .sum (.cons (.slV (.var 5) (.var 7) (.bin .add (.var 8) (.int 1))) .nil)) (.cons (.call 21 (.cons (.var 2) .nil)) (.cons (.callO 9 1 (.cons (.bin .add (.call 21 (.cons (.var 2) .nil)) (.int 2)) .nil)) .nil))))) (.callO 8 1 (.cons (.int 4) .nil)))) (.cons (.asg 10 (.bi .max2 (.cons (.int 1) (.cons (.bin .add (.var 9) (.idx (.tup (.cons (.int 0) (.cons (.int 0) (.cons (.int 1) (.cons (.neg (.int 1)) .nil))))) (.callO 8 1 (.cons (.int 4) .nil)))) .nil)))) (.cons (.iff (.not (.call 11 (.cons (.call 19 (.cons (.var 4) (.cons (.var 10) .nil))) (.cons (.call 26 (.cons (.var 2) (.cons (.var 10) .nil))) .nil)))) (.cons (.ret (.bl false)) .nil) .nil) .nil)))))) (.cons (.iff (.disj (.not (.call 27 (.cons (.var 4) (.cons (.int 0) .nil)))) (.not (.call 27 (.cons (.var 4) (.cons (.bin .sub (.neg (.int 1)) (.callO 8 1 (.cons (.bin .pow (.int 10) (.int 6)) .nil))) .nil))))) (.cons (.ret (.bl false)) .nil) .nil) (.cons (.ret (.conj (.isN false (.call 19 (.cons (.var 4) (.cons (.bin .pow (.int 10) (.int 32)) .nil)))) (.call 11 (.cons (.fld (.var 4) "blocks") (.cons (.idx (.var 2) (.str "blocks")) .nil))))) .nil))))))))
def d0 : Df := ⟨("BadLayout", some "__init__"), "__init__", "BadLayout.__init__", s0, true, ["self", "number", "reason"], ["self", "number", "reason"], false, b0⟩
def d1 : Df := ⟨("is_name", none), "is_name", "is_name", s1, false, ["name"], ["name"], true, b1⟩
def d2 : Df := ⟨("lone_fault", none), "lone_fault", "lone_fault", s2, false, ["capacity", "block", "earlier", "name", "start", "size"], ["capacity", "block", "earlier"], true, b2⟩
def d3 : Df := ⟨("overlap_fault", none), "overlap_fault", "overlap_fault", s3, false, ["block", "earlier", "_", "start", "size", "other_start", "other_size"], ["block", "earlier"], false, b3⟩
def d4 : Df := ⟨("check_blocks", none), "check_blocks", "check_blocks", s4, false, ["capacity", "blocks", "place_fault", "number", "block", "earlier", "reason"], ["capacity", "blocks", "place_fault"], false, b4⟩
def d5 : Df := ⟨("gaps_around", none), "gaps_around", "gaps_around", s5, false, ["capacity", "blocks", "gaps", "end", "_", "start", "size"], ["capacity", "blocks"], false, b5⟩
def d6 : Df := ⟨("Layout", some "__init__"), "__init__", "Layout.__init__", s6, true, ["self", "capacity", "blocks", "triples", "block", "_", "cells"], ["self", "capacity", "blocks"], true, b6⟩
def d7 : Df := ⟨("_law_pool", none), "_law_pool", "_law_pool", s7, false, ["script", "cell"], ["script"], false, b7⟩
def d8 : Df := ⟨("_law_take", none), "_law_take", "_law_take", s8, true, ["pool", "many", "digit", "cell", "mixed"], ["pool", "many"], false, b8⟩
def d9 : Df := ⟨("_law_far", none), "_law_far", "_law_far", s9, true, ["pool", "many", "found", "bound", "turn"], ["pool", "many"], false, b9⟩
def d10 : Df := ⟨("_law_is_integer", none), "_law_is_integer", "_law_is_integer", s10, false, ["actual"], ["actual"], false, b10⟩
def d11 : Df := ⟨("_law_same", none), "_law_same", "_law_same", s11, false, ["actual", "due", "k"], ["actual", "due"], false, b11⟩
def d12 : Df := ⟨("long_runs", none), "long_runs", "long_runs", s12, false, ["layout", "length", "runs", "gaps", "first", "behind", "_", "cells", "size"], ["layout", "length"], false, b12⟩
def d13 : Df := ⟨("_law_shaped", none), "_law_shaped", "_law_shaped", s13, true, ["pool", "value", "parts", "part"], ["pool", "value"], false, b13⟩
def d14 : Df := ⟨("_law_some", none), "_law_some", "_law_some", s14, true, ["pool", "rows", "many", "left", "found", "k"], ["pool", "rows", "many"], false, b14⟩
def d15 : Df := ⟨("_law_names", none), "_law_names", "_law_names", s15, true, ["pool", "many", "letters", "signs", "base", "found", "k", "name", "more"], ["pool", "many"], false, b15⟩
def d16 : Df := ⟨("_law_parted", none), "_law_parted", "_law_parted", s16, true, ["pool", "free", "many", "gaps", "kind", "left", "k", "part", "empty", "at"], ["pool", "free", "many"], false, b16⟩
def d17 : Df := ⟨("_law_placed", none), "_law_placed", "_law_placed", s17, false, ["names", "sizes", "gaps", "blocks", "end", "k"], ["names", "sizes", "gaps"], false, b17⟩
def d18 : Df := ⟨("_law_layout", none), "_law_layout", "_law_layout", s18, true, ["pool", "most", "many", "unit", "free", "sizes", "k", "size"], ["pool", "most"], false, b18⟩
def d19 : Df := ⟨("gap_plan", none), "gap_plan", "gap_plan", s19, false, ["layout", "length", "moved", "first", "behind", "end", "_", "plan", "name", "size"], ["layout", "length"], false, b19⟩
def d20 : Df := ⟨("_law_order", none), "_law_order", "_law_order", s20, false, ["layout", "block"], ["layout"], false, b20⟩
def d21 : Df := ⟨("_law_free", none), "_law_free", "_law_free", s21, false, ["layout", "block"], ["layout"], false, b21⟩
def d22 : Df := ⟨("_law_gaps", none), "_law_gaps", "_law_gaps", s22, false, ["layout", "found", "end", "block"], ["layout"], false, b22⟩
def d23 : Df := ⟨("_law_handed", none), "_law_handed", "_law_handed", s23, true, ["pool", "layout", "blocks"], ["pool", "layout"], false, b23⟩
def d24 : Df := ⟨("_law_any_layout", none), "_law_any_layout", "_law_any_layout", s24, true, ["pool", "layout", "sizes", "block"], ["pool"], false, b24⟩
def d25 : Df := ⟨("_law_runs", none), "_law_runs", "_law_runs", s25, false, ["layout", "length", "gaps", "found", "first", "last", "block"], ["layout", "length"], false, b25⟩
def d26 : Df := ⟨("_law_due", none), "_law_due", "_law_due", s26, false, ["layout", "length", "runs", "moved", "first", "many", "ahead", "start", "plan", "name", "old", "size"], ["layout", "length"], false, b26⟩
def d27 : Df := ⟨("_law_refused", none), "_law_refused", "_law_refused", s27, false, ["made", "length", "wrong"], ["made", "length"], false, b27⟩
def d28 : Df := ⟨("law", none), "law", "law", s28, false, ["script", "pool", "layout", "handed", "made", "gaps", "turn", "first", "last", "near", "length"], ["script"], false, b28⟩
def ds0 : List Df := [d0, d1, d2, d3, d4, d5, d6, d7, d8, d9, d10, d11, d12, d13, d14, d15, d16, d17, d18, d19]
def ds1 : List Df := [d20, d21, d22, d23, d24, d25, d26, d27, d28]
def S : Src := ⟨ds0 ++ ds1, [("Layout", 6, ["capacity", "blocks", "order", "free", "gaps", "longest_gap"])], [("MOST_CAPACITY", .int 10000000000000000000000000000000), ("MOST_BLOCKS", .int 12), ("MOST_SIZE", .int 1000000000000000000000000000000), ("MOST_NAME_SIGNS", .int 8), ("LETTERS", .str "abcdefghijklmnopqrstuvwxyz"), ("FIGURES", .str "0123456789")], [("BadLayout", 0, ["number", "reason"]), ("BadLength", 0, [])], [("BadLength", false), ("LetError", false)], [], [["BadLayout", "LetError", "ValueError", "Exception", "BaseException"], ["BadLength", "LetError", "ValueError", "Exception", "BaseException"]]⟩
def P : Prg := S.prg
theorem k0 : chkBs 60 ⟨{ P with tb := d0.tb }, d0.N, defScope s0, true⟩ b0 (defBody s0) = true := by decide +kernel
theorem k1 : chkBs 60 ⟨{ P with tb := d1.tb }, d1.N, defScope s1, true⟩ b1 (defBody s1) = true := by decide +kernel
theorem k2 : chkBs 60 ⟨{ P with tb := d2.tb }, d2.N, defScope s2, true⟩ b2 (defBody s2) = true := by decide +kernel
theorem k3 : chkBs 60 ⟨{ P with tb := d3.tb }, d3.N, defScope s3, true⟩ b3 (defBody s3) = true := by decide +kernel
theorem k4 : chkBs 60 ⟨{ P with tb := d4.tb }, d4.N, defScope s4, true⟩ b4 (defBody s4) = true := by decide +kernel
theorem k5 : chkBs 60 ⟨{ P with tb := d5.tb }, d5.N, defScope s5, true⟩ b5 (defBody s5) = true := by decide +kernel
theorem k6 : chkBs 60 ⟨{ P with tb := d6.tb }, d6.N, defScope s6, true⟩ b6 (defBody s6) = true := by decide +kernel
theorem k7 : chkBs 60 ⟨{ P with tb := d7.tb }, d7.N, defScope s7, true⟩ b7 (defBody s7) = true := by decide +kernel
theorem k8 : chkBs 60 ⟨{ P with tb := d8.tb }, d8.N, defScope s8, true⟩ b8 (defBody s8) = true := by decide +kernel
theorem k9 : chkBs 60 ⟨{ P with tb := d9.tb }, d9.N, defScope s9, true⟩ b9 (defBody s9) = true := by decide +kernel
theorem k10 : chkBs 60 ⟨{ P with tb := d10.tb }, d10.N, defScope s10, true⟩ b10 (defBody s10) = true := by decide +kernel
theorem k11 : chkBs 60 ⟨{ P with tb := d11.tb }, d11.N, defScope s11, true⟩ b11 (defBody s11) = true := by decide +kernel
theorem k12 : chkBs 60 ⟨{ P with tb := d12.tb }, d12.N, defScope s12, true⟩ b12 (defBody s12) = true := by decide +kernel
theorem k13 : chkBs 60 ⟨{ P with tb := d13.tb }, d13.N, defScope s13, true⟩ b13 (defBody s13) = true := by decide +kernel
theorem k14 : chkBs 60 ⟨{ P with tb := d14.tb }, d14.N, defScope s14, true⟩ b14 (defBody s14) = true := by decide +kernel
theorem k15 : chkBs 60 ⟨{ P with tb := d15.tb }, d15.N, defScope s15, true⟩ b15 (defBody s15) = true := by decide +kernel
theorem k16 : chkBs 60 ⟨{ P with tb := d16.tb }, d16.N, defScope s16, true⟩ b16 (defBody s16) = true := by decide +kernel
theorem k17 : chkBs 60 ⟨{ P with tb := d17.tb }, d17.N, defScope s17, true⟩ b17 (defBody s17) = true := by decide +kernel
theorem k18 : chkBs 60 ⟨{ P with tb := d18.tb }, d18.N, defScope s18, true⟩ b18 (defBody s18) = true := by decide +kernel
theorem k19 : chkBs 60 ⟨{ P with tb := d19.tb }, d19.N, defScope s19, true⟩ b19 (defBody s19) = true := by decide +kernel
theorem k20 : chkBs 60 ⟨{ P with tb := d20.tb }, d20.N, defScope s20, true⟩ b20 (defBody s20) = true := by decide +kernel
theorem k21 : chkBs 60 ⟨{ P with tb := d21.tb }, d21.N, defScope s21, true⟩ b21 (defBody s21) = true := by decide +kernel
theorem k22 : chkBs 60 ⟨{ P with tb := d22.tb }, d22.N, defScope s22, true⟩ b22 (defBody s22) = true := by decide +kernel
theorem k23 : chkBs 60 ⟨{ P with tb := d23.tb }, d23.N, defScope s23, true⟩ b23 (defBody s23) = true := by decide +kernel
theorem k24 : chkBs 60 ⟨{ P with tb := d24.tb }, d24.N, defScope s24, true⟩ b24 (defBody s24) = true := by decide +kernel
theorem k25 : chkBs 60 ⟨{ P with tb := d25.tb }, d25.N, defScope s25, true⟩ b25 (defBody s25) = true := by decide +kernel
theorem k26 : chkBs 60 ⟨{ P with tb := d26.tb }, d26.N, defScope s26, true⟩ b26 (defBody s26) = true := by decide +kernel
theorem k27 : chkBs 60 ⟨{ P with tb := d27.tb }, d27.N, defScope s27, true⟩ b27 (defBody s27) = true := by decide +kernel
theorem k28 : chkBs 60 ⟨{ P with tb := d28.tb }, d28.N, defScope s28, true⟩ b28 (defBody s28) = true := by decide +kernel
theorem chk : S.chk = true := by decide +kernel
def loose0 : List PySem.Str := ["_wall", "LetError", "BadLength", "long_runs", "gap_plan", "MOST_CAPACITY", "MOST_BLOCKS", "MOST_SIZE", "MOST_NAME_SIGNS", "LETTERS", "FIGURES", "BadLayout", "is_name", "lone_fault", "overlap_fault", "check_blocks", "gaps_around", "Layout", "_law_pool", "_law_take", "_law_far", "_law_is_integer", "_law_same", "_law_shaped", "_law_some", "_law_names", "_law_parted", "_law_placed", "_law_layout", "_law_order"]
def loose1 : List PySem.Str := ["_law_free", "_law_gaps", "_law_handed", "_law_any_layout", "_law_runs", "_law_due", "_law_refused"]
abbrev loose : List PySem.Str := loose0 ++ loose1
abbrev R : PySem.W.OpenRow := PySem.W.OpenLaw.row PySem.Challenge.rw_letpast_k13_gap_plans
abbrev hk : PySem.W.Hook := He.hookX 6 S.fa S.fn [] S.tf S.ex
def ob (s : PySem.W.SharedT) : He.AlX := He.obsX 6 S.fa S.fn [] S.tf S.ex (HandSHeadRun.getT s)
theorem ob_eq (s : PySem.W.SharedT) : ob s = hk.obs s.abs := congrArg (He.obsX 6 S.fa S.fn [] S.tf S.ex) (funext (HandSHeadRun.getT_eq s))
theorem run (w : World) : HandSHeadRun.RunEq R (PySem.W.view R.prog [41]) hk ob 4000 loose w := by
  intro os
  kernel_rfl
theorem o0 : d0.Ok S.prg := ⟨⟨rfl, rfl, rfl, by decide +kernel, rfl, by decide +kernel, by decide +kernel⟩, fun _ _ _ _ _ _ us hl => match us, hl with | [_, _, _], _ => rfl, ⟨60, k0⟩⟩
theorem o1 : d1.Ok S.prg := ⟨⟨rfl, rfl, rfl, by decide +kernel, rfl, by decide +kernel, by decide +kernel⟩, fun _ _ _ _ _ _ us hl => match us, hl with | [_], _ => rfl, ⟨60, k1⟩⟩
theorem o2 : d2.Ok S.prg := ⟨⟨rfl, rfl, rfl, by decide +kernel, rfl, by decide +kernel, by decide +kernel⟩, fun _ _ _ _ _ _ us hl => match us, hl with | [_, _, _], _ => rfl, ⟨60, k2⟩⟩
theorem o3 : d3.Ok S.prg := ⟨⟨rfl, rfl, rfl, by decide +kernel, rfl, by decide +kernel, by decide +kernel⟩, fun _ _ _ _ _ _ us hl => match us, hl with | [_, _], _ => rfl, ⟨60, k3⟩⟩
theorem o4 : d4.Ok S.prg := ⟨⟨rfl, rfl, rfl, by decide +kernel, rfl, by decide +kernel, by decide +kernel⟩, fun _ _ _ _ _ _ us hl => match us, hl with | [_, _, _], _ => rfl, ⟨60, k4⟩⟩
theorem o5 : d5.Ok S.prg := ⟨⟨rfl, rfl, rfl, by decide +kernel, rfl, by decide +kernel, by decide +kernel⟩, fun _ _ _ _ _ _ us hl => match us, hl with | [_, _], _ => rfl, ⟨60, k5⟩⟩
theorem o6 : d6.Ok S.prg := ⟨⟨rfl, rfl, rfl, by decide +kernel, rfl, by decide +kernel, by decide +kernel⟩, fun _ _ _ _ _ _ us hl => match us, hl with | [_, _, _], _ => rfl, ⟨60, k6⟩⟩
theorem o7 : d7.Ok S.prg := ⟨⟨rfl, rfl, rfl, by decide +kernel, rfl, by decide +kernel, by decide +kernel⟩, fun _ _ _ _ _ _ us hl => match us, hl with | [_], _ => rfl, ⟨60, k7⟩⟩
theorem o8 : d8.Ok S.prg := ⟨⟨rfl, rfl, rfl, by decide +kernel, rfl, by decide +kernel, by decide +kernel⟩, fun _ _ _ _ _ _ us hl => match us, hl with | [_, _], _ => rfl, ⟨60, k8⟩⟩
theorem o9 : d9.Ok S.prg := ⟨⟨rfl, rfl, rfl, by decide +kernel, rfl, by decide +kernel, by decide +kernel⟩, fun _ _ _ _ _ _ us hl => match us, hl with | [_, _], _ => rfl, ⟨60, k9⟩⟩
theorem o10 : d10.Ok S.prg := ⟨⟨rfl, rfl, rfl, by decide +kernel, rfl, by decide +kernel, by decide +kernel⟩, fun _ _ _ _ _ _ us hl => match us, hl with | [_], _ => rfl, ⟨60, k10⟩⟩
theorem o11 : d11.Ok S.prg := ⟨⟨rfl, rfl, rfl, by decide +kernel, rfl, by decide +kernel, by decide +kernel⟩, fun _ _ _ _ _ _ us hl => match us, hl with | [_, _], _ => rfl, ⟨60, k11⟩⟩
theorem o12 : d12.Ok S.prg := ⟨⟨rfl, rfl, rfl, by decide +kernel, rfl, by decide +kernel, by decide +kernel⟩, fun _ _ _ _ _ _ us hl => match us, hl with | [_, _], _ => rfl, ⟨60, k12⟩⟩
theorem o13 : d13.Ok S.prg := ⟨⟨rfl, rfl, rfl, by decide +kernel, rfl, by decide +kernel, by decide +kernel⟩, fun _ _ _ _ _ _ us hl => match us, hl with | [_, _], _ => rfl, ⟨60, k13⟩⟩
theorem o14 : d14.Ok S.prg := ⟨⟨rfl, rfl, rfl, by decide +kernel, rfl, by decide +kernel, by decide +kernel⟩, fun _ _ _ _ _ _ us hl => match us, hl with | [_, _, _], _ => rfl, ⟨60, k14⟩⟩
theorem o15 : d15.Ok S.prg := ⟨⟨rfl, rfl, rfl, by decide +kernel, rfl, by decide +kernel, by decide +kernel⟩, fun _ _ _ _ _ _ us hl => match us, hl with | [_, _], _ => rfl, ⟨60, k15⟩⟩
theorem o16 : d16.Ok S.prg := ⟨⟨rfl, rfl, rfl, by decide +kernel, rfl, by decide +kernel, by decide +kernel⟩, fun _ _ _ _ _ _ us hl => match us, hl with | [_, _, _], _ => rfl, ⟨60, k16⟩⟩
theorem o17 : d17.Ok S.prg := ⟨⟨rfl, rfl, rfl, by decide +kernel, rfl, by decide +kernel, by decide +kernel⟩, fun _ _ _ _ _ _ us hl => match us, hl with | [_, _, _], _ => rfl, ⟨60, k17⟩⟩
theorem o18 : d18.Ok S.prg := ⟨⟨rfl, rfl, rfl, by decide +kernel, rfl, by decide +kernel, by decide +kernel⟩, fun _ _ _ _ _ _ us hl => match us, hl with | [_, _], _ => rfl, ⟨60, k18⟩⟩
theorem o19 : d19.Ok S.prg := ⟨⟨rfl, rfl, rfl, by decide +kernel, rfl, by decide +kernel, by decide +kernel⟩, fun _ _ _ _ _ _ us hl => match us, hl with | [_, _], _ => rfl, ⟨60, k19⟩⟩
theorem o20 : d20.Ok S.prg := ⟨⟨rfl, rfl, rfl, by decide +kernel, rfl, by decide +kernel, by decide +kernel⟩, fun _ _ _ _ _ _ us hl => match us, hl with | [_], _ => rfl, ⟨60, k20⟩⟩
theorem o21 : d21.Ok S.prg := ⟨⟨rfl, rfl, rfl, by decide +kernel, rfl, by decide +kernel, by decide +kernel⟩, fun _ _ _ _ _ _ us hl => match us, hl with | [_], _ => rfl, ⟨60, k21⟩⟩
theorem o22 : d22.Ok S.prg := ⟨⟨rfl, rfl, rfl, by decide +kernel, rfl, by decide +kernel, by decide +kernel⟩, fun _ _ _ _ _ _ us hl => match us, hl with | [_], _ => rfl, ⟨60, k22⟩⟩
theorem o23 : d23.Ok S.prg := ⟨⟨rfl, rfl, rfl, by decide +kernel, rfl, by decide +kernel, by decide +kernel⟩, fun _ _ _ _ _ _ us hl => match us, hl with | [_, _], _ => rfl, ⟨60, k23⟩⟩
theorem o24 : d24.Ok S.prg := ⟨⟨rfl, rfl, rfl, by decide +kernel, rfl, by decide +kernel, by decide +kernel⟩, fun _ _ _ _ _ _ us hl => match us, hl with | [_], _ => rfl, ⟨60, k24⟩⟩
theorem o25 : d25.Ok S.prg := ⟨⟨rfl, rfl, rfl, by decide +kernel, rfl, by decide +kernel, by decide +kernel⟩, fun _ _ _ _ _ _ us hl => match us, hl with | [_, _], _ => rfl, ⟨60, k25⟩⟩
theorem o26 : d26.Ok S.prg := ⟨⟨rfl, rfl, rfl, by decide +kernel, rfl, by decide +kernel, by decide +kernel⟩, fun _ _ _ _ _ _ us hl => match us, hl with | [_, _], _ => rfl, ⟨60, k26⟩⟩
theorem o27 : d27.Ok S.prg := ⟨⟨rfl, rfl, rfl, by decide +kernel, rfl, by decide +kernel, by decide +kernel⟩, fun _ _ _ _ _ _ us hl => match us, hl with | [_, _], _ => rfl, ⟨60, k27⟩⟩
theorem o28 : d28.Ok S.prg := ⟨⟨rfl, rfl, rfl, by decide +kernel, rfl, by decide +kernel, by decide +kernel⟩, fun _ _ _ _ _ _ us hl => match us, hl with | [_], _ => rfl, ⟨60, k28⟩⟩
theorem oks0 : ∀ d ∈ ds0, d.Ok S.prg := by
  intro d hd
  unfold ds0 at hd
  simp only [List.mem_cons, List.not_mem_nil, or_false] at hd
  rcases hd with rfl | rfl | rfl | rfl | rfl | rfl | rfl | rfl | rfl | rfl | rfl | rfl | rfl | rfl | rfl | rfl | rfl | rfl | rfl | rfl
  · exact o0
  · exact o1
  · exact o2
  · exact o3
  · exact o4
  · exact o5
  · exact o6
  · exact o7
  · exact o8
  · exact o9
  · exact o10
  · exact o11
  · exact o12
  · exact o13
  · exact o14
  · exact o15
  · exact o16
  · exact o17
  · exact o18
  · exact o19
theorem oks1 : ∀ d ∈ ds1, d.Ok S.prg := by
  intro d hd
  unfold ds1 at hd
  simp only [List.mem_cons, List.not_mem_nil, or_false] at hd
  rcases hd with rfl | rfl | rfl | rfl | rfl | rfl | rfl | rfl | rfl
  · exact o20
  · exact o21
  · exact o22
  · exact o23
  · exact o24
  · exact o25
  · exact o26
  · exact o27
  · exact o28
theorem oks : ∀ d ∈ S.ds, d.Ok S.prg := by
  intro d hd
  replace hd : d ∈ ds0 ++ ds1 := hd
  simp only [List.mem_append] at hd
  rcases hd with h0 | h1
  · exact oks0 d h0
  · exact oks1 d h1
/-- the end: it is enough that the core says so -/
theorem holds_of (n : Nat) (hr : Room (2 * n + 1) callerA) (core : ∀ ns : List Int, ns.length ≤ 63 → (∀ z ∈ ns, Builtin.Int.intBits z ≤ 1048576) → S.run n 28 none [.scr (ns.map .int)] = .ret (.bl true) none) : PySem.Challenge.rw_letpast_k13_gap_plans.Holds := by
  w_on; o_law
  refine HandSHeadRun.head_any (r := PySem.W.OpenLaw.row PySem.Challenge.rw_letpast_k13_gap_plans) (q := PySem.W.view (PySem.W.OpenLaw.row PySem.Challenge.rw_letpast_k13_gap_plans).prog [41]) (H := hk) (ob := ob) (M := 4000) (loose := loose) (d := HandSHeadRun.topDef (PySem.W.OpenLaw.row PySem.Challenge.rw_letpast_k13_gap_plans).prog 41) (kwd := []) ob_eq
    (by kernel_rfl) (fun s => by kernel_rfl) run (by kernel_rfl) (by kernel_rfl) (by kernel_rfl) (by rfl) (by first | assumption | decide +kernel) (by decide +kernel) ⟨rfl, rfl, rfl, rfl, rfl, by decide +kernel⟩ ?hw ?hc
  case hw => w_witness2
  case hc =>
    refine LamX.walk_ofTsE (l := PySem.Challenge.rw_letpast_k13_gap_plans) (n := 63) (k := 2 * n + 1) (x := "script") (CX := fun w => L2.CX (PySem.Challenge.rw_letpast_k13_gap_plans).prog w) rfl (by decide) (by kernel_rfl) hr ?F (fun w H s e s' z => cx_none w H s e s' z)
    intro w mg fa h Y G hmg0
    obtain ⟨K, KX, c⟩ := Y
    have hmg : mg ("law" : PySem.Str) = some (.ref fa) := by
      have e : (HandSHeadRun.topDef (PySem.W.OpenLaw.row PySem.Challenge.rw_letpast_k13_gap_plans).prog 41).name = ("law" : PySem.Str) := by kernel_rfl
      rw [← e]
      exact hmg0
    exact ⟨K, KX, law_at KX G c chk oks (d := d28) rfl rfl rfl rfl (by decide) hmg core⟩
end K13

set_option Elab.async false
set_option linter.all false
set_option maxRecDepth 100000
set_option maxHeartbeats 0
namespace K13
open PySem PySem.W PySem.Calls PySem.Spec PyProof.Rows L2 VI
theorem hlp : Hlp S where
  take := ⟨d8, rfl, rfl, rfl, rfl, rfl⟩
  far := ⟨d9, rfl, rfl, rfl, rfl, rfl⟩
  some := ⟨d14, rfl, rfl, rfl, rfl, rfl⟩
  names := ⟨d15, rfl, rfl, rfl, rfl, rfl⟩
  parted := ⟨d16, rfl, rfl, rfl, rfl, rfl⟩
  placed := ⟨d17, rfl, rfl, rfl, rfl, rfl⟩
  layout := ⟨d18, rfl, rfl, rfl, rfl, rfl⟩
theorem prg13 : Prg13 S ⟨12, 19, 21, 22, 23, 24, 25, 26, 27⟩ 28 where
  hlp := hlp
  c0 := rfl
  c501 := rfl
  p1 := ⟨d1, rfl, rfl, rfl, rfl, rfl⟩
  p2 := ⟨d2, rfl, rfl, rfl, rfl, rfl⟩
  p3 := ⟨d3, rfl, rfl, rfl, rfl, rfl⟩
  p4 := ⟨d4, rfl, rfl, rfl, rfl, rfl⟩
  p5 := ⟨d5, rfl, rfl, rfl, rfl, rfl⟩
  p6 := ⟨d6, rfl, rfl, rfl, rfl, rfl⟩
  p7 := ⟨d7, rfl, rfl, rfl, rfl, rfl⟩
  p10 := ⟨d10, rfl, rfl, rfl, rfl, rfl⟩
  p11 := ⟨d11, rfl, rfl, rfl, rfl, rfl⟩
  p13 := ⟨d13, rfl, rfl, rfl, rfl, rfl⟩
  lr := ⟨d12, rfl, rfl, rfl, rfl, rfl⟩
  gp := ⟨d19, rfl, rfl, rfl, rfl, rfl⟩
  od := ⟨20, ⟨d20, rfl, rfl, rfl, rfl, rfl⟩, ⟨d24, rfl, rfl, rfl, rfl, rfl⟩⟩
  fr := ⟨d21, rfl, rfl, rfl, rfl, rfl⟩
  gg := ⟨d22, rfl, rfl, rfl, rfl, rfl⟩
  hd := ⟨d23, rfl, rfl, rfl, rfl, rfl⟩
  rn := ⟨d25, rfl, rfl, rfl, rfl, rfl⟩
  du := ⟨d26, rfl, rfl, rfl, rfl, rfl⟩
  rf := ⟨d27, rfl, rfl, rfl, rfl, rfl⟩
  lw := ⟨d28, rfl, rfl, rfl, rfl, rfl⟩
theorem k13_holds : PySem.Challenge.rw_letpast_k13_gap_plans.Holds :=
  holds_of 11 ⟨rfl, by decide, by decide⟩ fun _ hl _ => core13 prg13 (by decide) (by omega)
end K13

theorem PySem.Challenge.cw_letpast_k13_gap_plans_holds : PySem.Challenge.rw_letpast_k13_gap_plans.Holds :=
  K13.k13_holds
