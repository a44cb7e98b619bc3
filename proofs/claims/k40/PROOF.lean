import PyProof.Rows.All
import Wide.All
import OpenK.AllK
import Wide.FinOn
import HandS.ForMost
import HandS.Exc
import HandS.TryOnly
import HandS.TryMany
import HandS.ExcOwn
import HandS.ExcInit
import HandS.ExcField
import HandS.WordsExc
import HandS.CallSlots
import HandS.IsInst
import HandS.Wide
import HandS.Style
import HandS.Flow
import HandS.Conv
import HandS.TupAny
import HandS.TupMul
import HandS.Rev
import HandS.Zip
import HandS.DeepEq
import HandS.Deep
import HandS.ExcIs
import KE.KExcIs
import HandS.Dict
import HandS.HeadHook1
import HandS.Small
import HandS.NoneIn
import HandS.Iter
import PyProof.EnumMake
import PyProof.Draws
import PyProof.Rows.ChunkLeaf
import HandS.Strs
import HandS.SetBool
import HandS.Defaults
import HandS.Ends
import HandS.SortInts
import HandS.Star
import HandS.RaiseMore
import HandS.SortKw
import HandS.Gcd
import KE.KMathGC
import KE.DatumOrd
import HandS.Flt
import HandS.Head0
import HandS.Head1
import HandS.Head2
import HandS.HeadEnd
import HandS.HeadHook2
import HandS.HeadHook3
import HandS.HeadHook4
import HandS.EndBits
import HandS.HeadWalk
import PySem.Challenge.RW_sparesum_k40_whole_three_values_kept
set_option Elab.async false
set_option linter.all false
set_option maxRecDepth 100000
/-! E1: the values of the engine, its memory, and how they lie in HandS's abstract heap. -/
namespace En
open PySem PySem.Spec PyProof.Rows L2

/-- a value: flat, a tuple, a list that nobody changes, a dict that nobody changes, the cell n of the memory; scr: a list that is read alone (the script) -/
inductive D where
  | non
  | bl (b : Bool)
  | int (i : Int)
  | str (s : Str)
  | tup (xs : List D)
  | lst (xs : List D)
  | loc (n : Nat)
  | dct (ks : List (Key × D))
  | exc (c : Str) (fs : List (Str × D))
  | cls (c : Str)
  | scr (xs : List D)
  | ty (n : String)
  | ktp (xs : List D)
/-- what stands in a cell: a list; an instance of an own class with its attributes -/
inductive Cell where
  | lst (xs : List D)
  | ins (c : Str) (fs : List (Str × D))
  | dic (ks : List (Str × D))
abbrev Mem := List (Option Cell)

/-- the addresses of the cells -/
abbrev Ads := List Addr
def Liv (F : Ads) (M : Mem) (a : Addr) : Prop := ∃ (n : Nat) (c : Cell), F[n]? = some a ∧ M[n]? = some (some c)

/-- the fixed surroundings: the written part, the addresses of own classes, and what else is taken for a value (by its number) -/
structure Sur where
  K : PySem.W.Frag
  cls : Str → Option Addr

/-- an own exception class, as isinstance of its instances needs it -/
def tyNames : List String := ["int", "bool", "str", "list", "tuple", "dict"]
def extK (K : PySem.W.Frag) (C : Addr) : Bool := (PySem.W.clsIn K C).isSome && (decide (PySem.W.findIn K (.ref C) "__getattribute__" = some (some (.builtin "BaseException.__getattribute__"))) && (decide (PySem.W.findIn K (.ref C) "__getattr__" = some none) && (decide (PySem.W.subIn K (.ref C) (.type "BaseException") = some true) &&
  (decide (PySem.W.findIn K (.ref C) "__class__" = some (some (.builtin "object.__class__"))) && (decide (PySem.W.specialIn K (.builtin "object.__class__") "__get__" = some (some (.builtin "getset_descriptor.__get__"))) && (decide (PySem.W.takesIn K (.builtin "object.__class__") = some true) && (decide (PySem.W.mroIn K C (.type "object") = some true) &&
  tyNames.all fun n => decide (PySem.W.kitOne K (.ref C) (.type n) = some false))))))))
/-- a stands in the heap (or in the written part), is no cell and not reserved -/
structure Fz (S : Sur) (R : Addr → Prop) (F : Ads) (M : Mem) (H : Hp) (a : Addr) : Prop where
  nl : ¬ Liv F M a
  nr : ¬ R a
  th : ∃ o, H a = some o

inductive RelD (S : Sur) (R : Addr → Prop) (F : Ads) (M : Mem) (H : Hp) : D → V → Prop
  | non : RelD S R F M H .non .non
  | bl (b : Bool) : RelD S R F M H (.bl b) (.bl b)
  | int (i : Int) : RelD S R F M H (.int i) (.int i)
  | str (s : Str) : RelD S R F M H (.str s) (.str s)
  | ty (n : String) : RelD S R F M H (.ty n) (.ty n)
  | tup (a : Addr) (ds : List D) (vs : List V) : Fz S R F M H a → H a = some (.tup vs) → ds.length = vs.length → (∀ (i : Nat) d v, ds[i]? = some d → vs[i]? = some v → RelD S R F M H d v) → RelD S R F M H (.tup ds) (.ref a)
  | lst (a : Addr) (ds : List D) (vs : List V) : Fz S R F M H a → H a = some (.lst vs) → ds.length = vs.length → (∀ (i : Nat) d v, ds[i]? = some d → vs[i]? = some v → RelD S R F M H d v) → RelD S R F M H (.lst ds) (.ref a)
  | loc (n : Nat) (a : Addr) : F[n]? = some a → RelD S R F M H (.loc n) (.ref a)
  | dct (a : Addr) (ks : List (Key × D)) (kvs : List (Key × V)) : Fz S R F M H a → H a = some (.dK kvs) → ks.map (·.1) = kvs.map (·.1) → (∀ (i : Nat) d v, ks[i]? = some d → kvs[i]? = some v → RelD S R F M H d.2 v.2) → RelD S R F M H (.dct ks) (.ref a)
  | exc (a dx C : Addr) (c : Str) (fs : List (Str × D)) (gs : List (Str × V)) : Fz S R F M H a → Fz S R F M H dx → S.cls c = some C ∧ extK S.K C = true → H a = some (exo a C (some dx)) → H dx = some (exd dx gs) → fs.map (·.1) = gs.map (·.1) → (∀ (i : Nat) d v, fs[i]? = some d → gs[i]? = some v → RelD S R F M H d.2 v.2) → RelD S R F M H (.exc c fs) (.ref a)
  | cls (c : Str) (C : Addr) : S.cls c = some C → RelD S R F M H (.cls c) (.ref C)
  | scr (a : Addr) (ds : List D) (vs : List V) : (Fz S R F M H a ∧ Rd H a (.lst vs) ∨ ∀ H0, SqL S.K H0 a vs) → ds.length = vs.length → (∀ (i : Nat) d v, ds[i]? = some d → vs[i]? = some v → RelD S R F M H d v) → RelD S R F M H (.scr ds) (.ref a)

  | ktp (a : Addr) (ds : List D) (vs : List V) : (∀ H0, SqT S.K H0 a vs) → ds.length = vs.length → (∀ (i : Nat) d v, ds[i]? = some d → vs[i]? = some v → RelD S R F M H d v) → RelD S R F M H (.ktp ds) (.ref a)

/-- the items of a list one by one -/
def Rels (S : Sur) (R : Addr → Prop) (F : Ads) (M : Mem) (H : Hp) (ds : List D) (vs : List V) : Prop :=
  ds.length = vs.length ∧ ∀ (i : Nat) d v, ds[i]? = some d → vs[i]? = some v → RelD S R F M H d v

/-- a cell as it stands at its address -/
def CellAt (S : Sur) (R : Addr → Prop) (F : Ads) (M : Mem) (H : Hp) (a : Addr) : Cell → Prop
  | .lst ds => ∃ vs, H a = some (.lst vs) ∧ Rels S R F M H ds vs
  | .ins c fs => ∃ C dx gs, S.cls c = some C ∧ H a = some (.ins C dx gs) ∧ H dx = some (.own a) ∧ gs.map (·.1) = fs.map (·.1) ∧ Rels S R F M H (fs.map (·.2)) (gs.map (·.2))
  | .dic ks => ∃ kvs : List (Key × V), H a = some (.dK kvs) ∧ kvs.map (·.1) = ks.map (fun p => Sum.inr p.1) ∧ Rels S R F M H (ks.map (·.2)) (kvs.map (·.2))

structure Sim (S : Sur) (R : Addr → Prop) (F : Ads) (M : Mem) (H : Hp) : Prop where
  len : F.length = M.length
  cell : ∀ (n : Nat) c, M[n]? = some (some c) → ∃ a, F[n]? = some a ∧ ¬ R a ∧ CellAt S R F M H a c
  inj : ∀ (n m : Nat) (c d : Cell) a, M[n]? = some (some c) → M[m]? = some (some d) → F[n]? = some a → F[m]? = some a → n = m
  res : ∀ a, R a → ∃ o, H a = some o

/-- the world grows: cells are added at new addresses or given up, all else stays -/
structure Le (F : Ads) (M : Mem) (H : Hp) (F' : Ads) (M' : Mem) (H' : Hp) : Prop where
  pre : ∀ (n : Nat) a, F[n]? = some a → F'[n]? = some a
  liv : ∀ a, Liv F' M' a → Liv F M a ∨ H a = none
  keep : ∀ a o, H a = some o → ¬ Liv F M a → H' a = some o
  there : ∀ a, (∃ o, H a = some o) → ∃ o, H' a = some o

section
variable {S : Sur} {R R' : Addr → Prop} {F F' F1 F2 : Ads} {M M' M1 M2 : Mem} {H H' H1 H2 : Hp}
theorem Le.refl : Le F M H F M H := ⟨fun _ _ h => h, fun _ h => .inl h, fun _ _ h _ => h, fun _ h => h⟩
theorem Le.trans (a : Le F M H F1 M1 H1) (b : Le F1 M1 H1 F2 M2 H2) : Le F M H F2 M2 H2 := by
  refine ⟨fun n x h => b.pre n x (a.pre n x h), fun x h => ?_, fun x o h nl => ?_, fun x h => b.there x (a.there x h)⟩
  · rcases b.liv x h with h | h
    · exact a.liv x h
    · refine .inr ?_
      cases e : H x with
      | none => rfl
      | some o =>
        obtain ⟨o', e'⟩ := a.there x ⟨o, e⟩
        rw [e'] at h; cases h
  · have nl1 : ¬ Liv F1 M1 x := fun z => by
      rcases a.liv x z with z | z
      · exact nl z
      · rw [h] at z; cases z
    exact b.keep x o (a.keep x o h nl) nl1
theorem Fz.mono (h : Fz S R F M H a) (l : Le F M H F' M' H') : Fz S R F' M' H' a := by
  refine ⟨fun z => ?_, h.nr, l.there a h.th⟩
  rcases l.liv a z with z | z
  · exact h.nl z
  · obtain ⟨o, e⟩ := h.th
    rw [e] at z; cases z
theorem Fz.at (h : Fz S R F M H a) (l : Le F M H F' M' H') (e : H a = some o) : H' a = some o := l.keep a o e h.nl
theorem Fz.rd (h : Fz S R F M H a) (l : Le F M H F' M' H') (e : Rd H a u) : Rd H' a u := by
  rcases e with e | ⟨o, e⟩
  · exact .inl (h.at l e)
  · exact .inr ⟨o, h.at l e⟩
theorem RelD.mono {d : D} {v : V} (h : RelD S R F M H d v) (l : Le F M H F' M' H') : RelD S R F' M' H' d v := by
  induction h with
  | non => exact .non
  | bl b => exact .bl b
  | int i => exact .int i
  | str s => exact .str s
  | ty n => exact .ty n
  | tup a ds vs z e n _ ih => exact .tup a ds vs (z.mono l) (z.at l e) n ih
  | lst a ds vs z e n _ ih => exact .lst a ds vs (z.mono l) (z.at l e) n ih
  | loc n a e => exact .loc n a (l.pre n a e)
  | dct a ks kvs z e n _ ih => exact .dct a ks kvs (z.mono l) (z.at l e) n ih
  | exc a dx C c fs gs z z2 k e e2 n _ ih => exact .exc a dx C c fs gs (z.mono l) (z2.mono l) k (z.at l e) (z2.at l e2) n ih
  | cls c C e => exact .cls c C e
  | scr a ds vs z n _ ih => exact .scr a ds vs (z.imp (fun ⟨z, e⟩ => ⟨z.mono l, z.rd l e⟩) id) n ih
  | ktp a ds vs z n _ ih => exact .ktp a ds vs z n ih
theorem RelD.less {d : D} {v : V} (h : RelD S R' F M H d v) (l : ∀ a, R a → R' a) : RelD S R F M H d v := by
  have k : ∀ {a}, Fz S R' F M H a → Fz S R F M H a := fun z => ⟨z.nl, fun q => z.nr (l _ q), z.th⟩
  induction h with
  | non => exact .non
  | bl b => exact .bl b
  | int i => exact .int i
  | str s => exact .str s
  | ty n => exact .ty n
  | tup a ds vs z e n _ ih => exact .tup a ds vs (k z) e n ih
  | lst a ds vs z e n _ ih => exact .lst a ds vs (k z) e n ih
  | loc n a e => exact .loc n a e
  | dct a ks kvs z e n _ ih => exact .dct a ks kvs (k z) e n ih
  | exc a dx C c fs gs z z2 kc e e2 n _ ih => exact .exc a dx C c fs gs (k z) (k z2) kc e e2 n ih
  | cls c C e => exact .cls c C e
  | scr a ds vs z n _ ih => exact .scr a ds vs (z.imp (fun ⟨z, e⟩ => ⟨k z, e⟩) id) n ih
  | ktp a ds vs z n _ ih => exact .ktp a ds vs z n ih
theorem Rels.mono {ds : List D} {vs : List V} (h : Rels S R F M H ds vs) (l : Le F M H F' M' H') : Rels S R F' M' H' ds vs := ⟨h.1, fun i d v a b => (h.2 i d v a b).mono l⟩
theorem Rels.less {ds : List D} {vs : List V} (h : Rels S R' F M H ds vs) (l : ∀ a, R a → R' a) : Rels S R F M H ds vs := ⟨h.1, fun i d v a b => (h.2 i d v a b).less l⟩
theorem Rels.nil : Rels S R F M H [] [] := ⟨rfl, fun i d v h _ => by simp at h⟩
theorem Rels.cons {d : D} {v : V} {ds : List D} {vs : List V} (h : RelD S R F M H d v) (t : Rels S R F M H ds vs) : Rels S R F M H (d :: ds) (v :: vs) := by
  refine ⟨by simp [t.1], fun i e u h1 h2 => ?_⟩
  cases i with
  | zero => simp at h1 h2; subst h1; subst h2; exact h
  | succ i => exact t.2 i e u (by simpa using h1) (by simpa using h2)
theorem Rels.get {ds : List D} {vs : List V} {i : Nat} {d : D} (h : Rels S R F M H ds vs) (e : ds[i]? = some d) : ∃ v, vs[i]? = some v ∧ RelD S R F M H d v := by
  have hi : i < ds.length := (List.getElem?_eq_some_iff.mp e).1
  have hv : i < vs.length := h.1 ▸ hi
  exact ⟨vs[i], by simp [hv], h.2 i d _ e (by simp [hv])⟩
theorem Rels.get2 {ds : List D} {vs : List V} {i : Nat} {v : V} (h : Rels S R F M H ds vs) (e : vs[i]? = some v) : ∃ d, ds[i]? = some d ∧ RelD S R F M H d v := by
  have hi : i < vs.length := (List.getElem?_eq_some_iff.mp e).1
  have hv : i < ds.length := h.1 ▸ hi
  exact ⟨ds[i], by simp [hv], h.2 i _ v (by simp [hv]) e⟩
theorem Rels.append {ds es : List D} {vs us : List V} (h : Rels S R F M H ds vs) (t : Rels S R F M H es us) : Rels S R F M H (ds ++ es) (vs ++ us) := by
  refine ⟨by simp [h.1, t.1], fun i d v h1 h2 => ?_⟩
  by_cases hi : i < ds.length
  · rw [List.getElem?_append_left hi] at h1
    rw [List.getElem?_append_left (h.1 ▸ hi)] at h2
    exact h.2 i d v h1 h2
  · rw [List.getElem?_append_right (by omega)] at h1
    rw [List.getElem?_append_right (by have := h.1; omega), ← h.1] at h2
    exact t.2 _ d v h1 h2
theorem Rels.take {ds : List D} {vs : List V} (n : Nat) (h : Rels S R F M H ds vs) : Rels S R F M H (ds.take n) (vs.take n) := by
  refine ⟨by simp [h.1], fun i d v h1 h2 => ?_⟩
  rw [List.getElem?_take] at h1 h2
  split at h1
  · rename_i q
    rw [if_pos q] at h2
    exact h.2 i d v h1 h2
  · cases h1
theorem Rels.drop {ds : List D} {vs : List V} (n : Nat) (h : Rels S R F M H ds vs) : Rels S R F M H (ds.drop n) (vs.drop n) := by
  refine ⟨by simp [h.1], fun i d v h1 h2 => ?_⟩
  rw [List.getElem?_drop] at h1 h2
  exact h.2 _ d v h1 h2
theorem Rels.reverse {ds : List D} {vs : List V} (h : Rels S R F M H ds vs) : Rels S R F M H ds.reverse vs.reverse := by
  refine ⟨by simp [h.1], fun i d v h1 h2 => ?_⟩
  have hi : i < ds.reverse.length := (List.getElem?_eq_some_iff.mp h1).1
  rw [List.length_reverse] at hi
  rw [List.getElem?_reverse hi] at h1
  rw [List.getElem?_reverse (h.1 ▸ hi), ← h.1] at h2
  exact h.2 _ d v h1 h2
theorem Rels.set {ds : List D} {vs : List V} {d : D} {v : V} (i : Nat) (h : Rels S R F M H ds vs) (r : RelD S R F M H d v) : Rels S R F M H (ds.set i d) (vs.set i v) := by
  refine ⟨by simp [h.1], fun j e u h1 h2 => ?_⟩
  rw [List.getElem?_set] at h1 h2
  by_cases hj : i = j
  · subst hj
    simp only [if_true] at h1 h2
    split at h1
    · rename_i q
      rw [if_pos (h.1 ▸ q)] at h2
      cases h1; cases h2; exact r
    · cases h1
  · rw [if_neg hj] at h1 h2
    exact h.2 j e u h1 h2
theorem CellAt.mono {c : Cell} {a : Addr} (h : CellAt S R F M H a c) (l : Le F M H F' M' H') (e : ∀ o, H a = some o → H' a = some o) (own : ∀ dx, H dx = some (.own a) → H' dx = some (.own a)) : CellAt S R F' M' H' a c := by
  cases c with
  | lst ds =>
    obtain ⟨vs, h1, h2⟩ := h
    exact ⟨vs, e _ h1, h2.mono l⟩
  | ins c fs =>
    obtain ⟨C, dx, gs, h1, h2, h3, h4, h5⟩ := h
    exact ⟨C, dx, gs, h1, e _ h2, own _ h3, h4, h5.mono l⟩
  | dic ks =>
    obtain ⟨kvs, h1, h2, h3⟩ := h
    exact ⟨kvs, e _ h1, h2, h3.mono l⟩
end
end En

set_option Elab.async false
set_option linter.all false
set_option maxRecDepth 100000
/-! E2: results, what is wanted of them, and the rules of expressions. -/
namespace En
open PySem PySem.Spec PyProof.Rows L2

inductive Res (α : Type) where
  | ok (a : α) (M : Mem)
  | exc (c : Str) (fs : List (Str × D)) (M : Mem)
  | bad
def Res.bind {α β : Type} (r : Res α) (f : α → Mem → Res β) : Res β :=
  match r with
  | .ok a M => f a M
  | .exc c fs M => .exc c fs M
  | .bad => .bad
@[simp] theorem Res.bind_ok {α β : Type} (a : α) (M : Mem) (f : α → Mem → Res β) : (Res.ok a M).bind f = f a M := rfl
@[simp] theorem Res.bind_exc {α β : Type} (c : Str) (fs : List (Str × D)) (M : Mem) (f : α → Mem → Res β) : (Res.exc c fs M : Res α).bind f = .exc c fs M := rfl
@[simp] theorem Res.bind_bad {α β : Type} (f : α → Mem → Res β) : (Res.bad : Res α).bind f = .bad := rfl

abbrev Ev := List (Option D)
abbrev FE (α : Type) := Ev → Mem → Res α
def RelE (S : Sur) (R : Addr → Prop) (F : Ads) (M : Mem) (H : Hp) (env : Ev) (σ : L2.St) : Prop :=
  env.length = σ.length ∧ ∀ (i : Nat) d, env[i]? = some (some d) → ∃ v, σ[i]? = some (some v) ∧ RelD S R F M H d v
def ExcD (S : Sur) (R : Addr → Prop) (F : Ads) (M : Mem) (H : Hp) (d : Option Addr) : List (Str × D) → Prop
  | [] => d = none
  | f :: fs => ∃ dx gs, d = some dx ∧ H dx = some (.xd gs) ∧ gs.map (·.1) = (f :: fs).map (·.1) ∧ Rels S R F M H ((f :: fs).map (·.2)) (gs.map (·.2))

/-- what is wanted of a result, from the world F M H on: K of what comes out, W of an exception -/
def Post {α : Type} (S : Sur) (R : Addr → Prop) (W : WX) (σ : L2.St) (F : Ads) (M : Mem) (H : Hp) (K : Ads → Mem → Hp → α → Prop) : Res α → Prop
  | .ok a M' => ∀ F' H', Le F M H F' M' H' → Sim S R F' M' H' → K F' M' H' a
  | .exc c fs M' => ∀ F' H' C d, Le F M H F' M' H' → Sim S R F' M' H' → S.cls c = some C → ExcD S R F' M' H' d fs → W (.ref C) d σ H'
  | .bad => False
section
variable {S : Sur} {R : Addr → Prop} {W : WX} {σ : L2.St} {F : Ads} {M : Mem} {H : Hp} {α β : Type}
theorem Post.from {K : Ads → Mem → Hp → α → Prop} {r : Res α} {F1 : Ads} {M1 : Mem} {H1 : Hp} (h : Post S R W σ F M H K r) (l : Le F M H F1 M1 H1) : Post S R W σ F1 M1 H1 K r := by
  cases r with
  | ok a M' => exact fun F' H' l' s => h F' H' (l.trans l') s
  | exc c fs M' => exact fun F' H' C d l' s e x => h F' H' C d (l.trans l') s e x
  | bad => exact h
theorem Post.bind {K : Ads → Mem → Hp → β → Prop} {r : Res α} {f : α → Mem → Res β} (h : Post S R W σ F M H K (r.bind f)) :
    Post S R W σ F M H (fun F' M' H' a => Post S R W σ F' M' H' K (f a M')) r := by
  cases r with
  | ok a M' => exact fun F' H' l s => Post.from h l
  | exc c fs M' => exact h
  | bad => exact h
theorem Post.mono {K K' : Ads → Mem → Hp → α → Prop} {r : Res α} (h : Post S R W σ F M H K r) (k : ∀ F' M' H' a, Le F M H F' M' H' → Sim S R F' M' H' → K F' M' H' a → K' F' M' H' a) : Post S R W σ F M H K' r := by
  cases r with
  | ok a M' => exact fun F' H' l s => k F' M' H' a l s (h F' H' l s)
  | exc c fs M' => exact h
  | bad => exact h
theorem RelE.mono {env : Ev} {F' : Ads} {M' : Mem} {H' : Hp} (h : RelE S R F M H env σ) (l : Le F M H F' M' H') : RelE S R F' M' H' env σ :=
  ⟨h.1, fun i d e => let ⟨v, a, b⟩ := h.2 i d e; ⟨v, a, b.mono l⟩⟩
end

def KE (S : Sur) (R : Addr → Prop) (Q : VK) : Ads → Mem → Hp → D → Prop := fun F M H d => ∀ v, RelD S R F M H d v → Q v H
def KT (Q : Bool → Hp → Prop) : Ads → Mem → Hp → Bool → Prop := fun _ _ H b => Q b H
def KA (S : Sur) (R : Addr → Prop) (Q : List V → Hp → Prop) : Ads → Mem → Hp → List D → Prop := fun F M H ds => ∀ vs, Rels S R F M H ds vs → Q vs H
/-- the readings that run f -/
def rdE (S : Sur) (R : Addr → Prop) (W : WX) (f : FE D) : TE := fun σ H Q => ∃ F M env, Sim S R F M H ∧ RelE S R F M H env σ ∧ Post S R W σ F M H (KE S R Q) (f env M)
def rdT (S : Sur) (R : Addr → Prop) (W : WX) (f : FE Bool) : TT := fun σ H Q => ∃ F M env, Sim S R F M H ∧ RelE S R F M H env σ ∧ Post S R W σ F M H (KT Q) (f env M)
def rdA (S : Sur) (R : Addr → Prop) (W : WX) (f : FE (List D)) : TA := fun σ H Q => ∃ F M env, Sim S R F M H ∧ RelE S R F M H env σ ∧ Post S R W σ F M H (KA S R Q) (f env M)
/-- the expression e does what f does -/
def GE (S : Sur) (X : Cx) (W : WX) (e : Expr) (f : FE D) : Prop := ∀ R, PE X e (rdE S R W f)
def GT (S : Sur) (X : Cx) (W : WX) (e : Expr) (f : FE Bool) : Prop := ∀ R, PT X e (rdT S R W f)
def GA (S : Sur) (X : Cx) (W : WX) (es : List Expr) (f : FE (List D)) : Prop := ∀ R, PA X es (rdA S R W f)

section
variable {X : Cx}
theorem PE_imp {e : Expr} {t t' : TE} (h : PE X e t) (k : ∀ σ H Q, t' σ H Q → t σ H Q) : PE X e t' := ⟨fun pins s σ H Q I q => h.run pins s σ H Q I (k σ H Q q)⟩
theorem PT_imp {e : Expr} {t t' : TT} (h : PT X e t) (k : ∀ σ H Q, t' σ H Q → t σ H Q) : PT X e t' := ⟨fun pins s σ H Q I q => h.run pins s σ H Q I (k σ H Q q)⟩
theorem PW_imp {e : Expr} {t t' : TT} (h : PW X e t) (k : ∀ σ H Q, t' σ H Q → t σ H Q) : PW X e t' := ⟨fun wh pins s σ H Q I q => h.run wh pins s σ H Q I (k σ H Q q)⟩
theorem PA_imp {es : List Expr} {t t' : TA} (h : PA X es t) (k : ∀ σ H Q, t' σ H Q → t σ H Q) : PA X es t' := ⟨fun pos pins s σ H Q I q => h.run pos pins s σ H Q I (k σ H Q q)⟩
end

/-- an operation on values, by its reading and by what it makes of D -/
def OpOk (S : Sur) (r : R2) (g : D → D → Mem → Res D) : Prop :=
  ∀ (R : Addr → Prop) (W : WX) (σ : L2.St) (F : Ads) (M : Mem) (H : Hp) (dx dy : D) (x y : V) (Q : VK), Sim S R F M H → RelD S R F M H dx x → RelD S R F M H dy y → Post S R W σ F M H (KE S R Q) (g dx dy M) → r x y H Q
def UnOk (S : Sur) (r : V → Hp → VK → Prop) (g : D → Mem → Res D) : Prop :=
  ∀ (R : Addr → Prop) (W : WX) (σ : L2.St) (F : Ads) (M : Mem) (H : Hp) (dx : D) (x : V) (Q : VK), Sim S R F M H → RelD S R F M H dx x → Post S R W σ F M H (KE S R Q) (g dx M) → r x H Q
def ClOk (S : Sur) (r : List V → Hp → VK → Prop) (g : List D → Mem → Res D) : Prop :=
  ∀ (R : Addr → Prop) (W : WX) (σ : L2.St) (F : Ads) (M : Mem) (H : Hp) (ds : List D) (vs : List V) (Q : VK), Sim S R F M H → Rels S R F M H ds vs → Post S R W σ F M H (KE S R Q) (g ds M) → r vs H Q

/-! ### the functions of constructs -/
def fVar (i : Nat) : FE D := fun env M => match env[i]? with | some (some d) => .ok d M | _ => .bad
def fC (d : D) : FE D := fun _ M => .ok d M
def fOp (g : D → D → Mem → Res D) (fa fb : FE D) : FE D := fun env M => (fa env M).bind fun x M1 => (fb env M1).bind fun y M2 => g x y M2
def fUn (g : D → Mem → Res D) (fa : FE D) : FE D := fun env M => (fa env M).bind g
def fNil : FE (List D) := fun _ M => .ok [] M
def fCons (fa : FE D) (fr : FE (List D)) : FE (List D) := fun env M => (fa env M).bind fun x M1 => (fr env M1).bind fun xs M2 => .ok (x :: xs) M2
def fCl (g : List D → Mem → Res D) (fa : FE (List D)) : FE D := fun env M => (fa env M).bind g
def fIf (fc : FE Bool) (fa fb : FE D) : FE D := fun env M => (fc env M).bind fun b M1 => if b = true then fa env M1 else fb env M1
def fAndT (fa fb : FE Bool) : FE Bool := fun env M => (fa env M).bind fun b M1 => if b = true then fb env M1 else .ok false M1
def fOrT (fa fb : FE Bool) : FE Bool := fun env M => (fa env M).bind fun b M1 => if b = true then .ok true M1 else fb env M1
def fNotT (fa : FE Bool) : FE Bool := fun env M => (fa env M).bind fun b M1 => .ok (!b) M1
/-- the truth of a value -/
def tru (d : D) (M : Mem) : Res Bool :=
  match d with
  | .non => .ok false M
  | .bl b => .ok b M
  | .int i => .ok (i != 0) M
  | .tup xs => .ok (!xs.isEmpty) M
  | .lst xs => .ok (!xs.isEmpty) M
  | .scr xs => .ok (!xs.isEmpty) M
  | .dct ks => .ok (!ks.isEmpty) M
  | .loc n => match M[n]? with | some (some (.lst xs)) => .ok (!xs.isEmpty) M | _ => .bad
  | _ => .bad
def fTru (fa : FE D) : FE Bool := fun env M => (fa env M).bind tru
/-- a new list: a list for good, or a cell -/
def fin (c : Bool) (ds : List D) (M : Mem) : Res D := if c = true then .ok (.loc M.length) (M ++ [some (.lst ds)]) else .ok (.lst ds) M
def small (ds : List D) : Bool := decide (ds.length ≤ 1000000)
theorem small_ok {n : Nat} (h : n ≤ 1000000) : n ≤ sizeLine := Nat.le_trans h (by decide)

section
variable {S : Sur} {R : Addr → Prop} {W : WX} {σ : L2.St} {F : Ads} {M : Mem} {H : Hp}
/-- a new object of any kind, tracked at a new address -/
theorem Le.new {p : Addr} {o : HO} (hp : H p = none) : Le F M H F M (upd H p o) := by
  refine ⟨fun _ _ h => h, fun _ h => .inl h, fun a u e _ => ?_, fun a ⟨u, e⟩ => ?_⟩
  · rw [upd_ne (ne_of_none e hp)]; exact e
  · exact ⟨u, by rw [upd_ne (ne_of_none e hp)]; exact e⟩
theorem Sim.keep {H' : Hp} (s : Sim S R F M H) (l : Le F M H F M H') (k : ∀ a o, H a = some o → H' a = some o) : Sim S R F M H' := by
  refine ⟨s.len, fun n c e => ?_, s.inj, fun a r => let ⟨o, e⟩ := s.res a r; ⟨o, k a o e⟩⟩
  obtain ⟨a, e1, nr, h⟩ := s.cell n c e
  exact ⟨a, e1, nr, h.mono l (k a) (fun dx q => k dx _ q)⟩
theorem Sim.new {p : Addr} {o : HO} (s : Sim S R F M H) (hp : H p = none) : Sim S R F M (upd H p o) :=
  s.keep (H' := upd H p o) (Le.new hp) fun a u e => by rw [upd_ne (ne_of_none e hp)]; exact e
theorem Sim.nonew {p : Addr} (s : Sim S R F M H) (hp : H p = none) : ¬ Liv F M p ∧ ¬ R p := by
  refine ⟨fun ⟨n, c, e1, e2⟩ => ?_, fun r => ?_⟩
  · obtain ⟨a, e3, _, h⟩ := s.cell n c e2
    rw [e1] at e3; cases e3
    cases c with
    | lst ds => obtain ⟨vs, h1, _⟩ := h; rw [hp] at h1; cases h1
    | ins c fs => obtain ⟨C, dx, gs, _, h1, _⟩ := h; rw [hp] at h1; cases h1
    | dic ks => obtain ⟨kvs, h1, _⟩ := h; rw [hp] at h1; cases h1
  · obtain ⟨o, e⟩ := s.res p r
    rw [hp] at e; cases e
theorem Fz.new {p : Addr} {o : HO} (s : Sim S R F M H) (hp : H p = none) : Fz S R F M (upd H p o) p := ⟨(s.nonew hp).1, (s.nonew hp).2, ⟨o, upd_same⟩⟩
/-- a new cell at a new address -/
theorem Le.cell {p : Addr} {o : HO} {c : Cell} (s : Sim S R F M H) (hp : H p = none) : Le F M H (F ++ [p]) (M ++ [some c]) (upd H p o) := by
  refine ⟨fun n a e => ?_, fun a ⟨n, d, e1, e2⟩ => ?_, fun a u e _ => ?_, fun a ⟨u, e⟩ => ?_⟩
  · rw [List.getElem?_append_left (List.getElem?_eq_some_iff.mp e).1]; exact e
  · by_cases hn : n < M.length
    · rw [List.getElem?_append_left hn] at e2
      rw [List.getElem?_append_left (s.len ▸ hn)] at e1
      exact .inl ⟨n, d, e1, e2⟩
    · have hF : F.length ≤ n := by rw [s.len]; omega
      rw [List.getElem?_append_right hF] at e1
      cases hk : n - F.length with
      | zero => rw [hk] at e1; simp at e1; rw [← e1]; exact .inr hp
      | succ j => rw [hk] at e1; simp at e1
  · rw [upd_ne (ne_of_none e hp)]; exact e
  · exact ⟨u, by rw [upd_ne (ne_of_none e hp)]; exact e⟩
theorem Sim.cellNew {p : Addr} {o : HO} {c : Cell} (s : Sim S R F M H) (hp : H p = none) (hc : CellAt S R (F ++ [p]) (M ++ [some c]) (upd H p o) p c) : Sim S R (F ++ [p]) (M ++ [some c]) (upd H p o) := by
  have l := Le.cell (o := o) (c := c) s hp
  have k : ∀ a u, H a = some u → upd H p o a = some u := fun a u e => by rw [upd_ne (ne_of_none e hp)]; exact e
  have old : ∀ (n : Nat) (d : Cell), (M ++ [some c])[n]? = some (some d) → (n < M.length ∧ M[n]? = some (some d)) ∨ (n = M.length ∧ d = c) := fun n d e => by
    by_cases hn : n < M.length
    · rw [List.getElem?_append_left hn] at e; exact .inl ⟨hn, e⟩
    · rw [List.getElem?_append_right (by omega)] at e
      cases hk : n - M.length with
      | zero => rw [hk] at e; simp at e; exact .inr ⟨by omega, e.symm⟩
      | succ j => rw [hk] at e; simp at e
  have at2 : ∀ (n : Nat) (a : Addr), n < M.length → (F ++ [p])[n]? = some a → F[n]? = some a := fun n a hn e => by
    rw [List.getElem?_append_left (s.len ▸ hn)] at e; exact e
  have atp : (F ++ [p])[M.length]? = some p := by rw [← s.len, List.getElem?_append_right (Nat.le_refl _)]; simp
  refine ⟨by simp [s.len], fun n d e => ?_, fun n m c1 d1 a e1 e2 f1 f2 => ?_, fun a r => let ⟨u, e⟩ := s.res a r; ⟨u, k a u e⟩⟩
  · rcases old n d e with ⟨hn, e⟩ | ⟨rfl, rfl⟩
    · obtain ⟨a, e1, nr, h⟩ := s.cell n d e
      exact ⟨a, by rw [List.getElem?_append_left (s.len ▸ hn)]; exact e1, nr, h.mono l (k a) (fun dx q => k dx _ q)⟩
    · exact ⟨p, atp, (s.nonew hp).2, hc⟩
  · have np : ∀ (n : Nat) (d : Cell), M[n]? = some (some d) → F[n]? = some p → False := fun n d e f => (s.nonew hp).1 ⟨n, d, f, e⟩
    rcases old n c1 e1 with ⟨hn, g1⟩ | ⟨hn, _⟩
    · have f1' := at2 n a hn f1
      rcases old m d1 e2 with ⟨hm, g2⟩ | ⟨hm, _⟩
      · exact s.inj n m c1 d1 a g1 g2 f1' (at2 m a hm f2)
      · rw [hm, atp] at f2; cases f2
        exact (np n c1 g1 f1').elim
    · rw [hn, atp] at f1; cases f1
      rcases old m d1 e2 with ⟨hm, g2⟩ | ⟨hm, _⟩
      · exact (np m d1 g2 (at2 m _ hm f2)).elim
      · rw [hn, hm]
/-- A NEW LIST comes out -/
theorem fin_ok {Q : VK} {c : Bool} {ds : List D} {vs : List V} (s : Sim S R F M H) (r : Rels S R F M H ds vs) (h : Post S R W σ F M H (KE S R Q) (fin c ds M)) {p : Addr} (hp : H p = none) : Q (.ref p) (upd H p (.lst vs)) := by
  unfold fin at h
  cases c with
  | false =>
    have h' : Post S R W σ F M H (KE S R Q) (.ok (.lst ds) M) := h
    have l : Le F M H F M (upd H p (.lst vs)) := Le.new hp
    exact h' _ _ l (s.new hp) _ (.lst p ds vs (Fz.new s hp) upd_same r.1 fun i d v a b => (r.2 i d v a b).mono l)
  | true =>
    have h' : Post S R W σ F M H (KE S R Q) (.ok (.loc M.length) (M ++ [some (.lst ds)])) := h
    have l : Le F M H (F ++ [p]) (M ++ [some (.lst ds)]) (upd H p (.lst vs)) := Le.cell s hp
    refine h' _ _ l (s.cellNew hp ⟨vs, upd_same, r.mono l⟩) _ (.loc _ _ ?_)
    rw [← s.len, List.getElem?_append_right (Nat.le_refl _)]; simp
theorem tup_ok {Q : VK} {ds : List D} {vs : List V} (s : Sim S R F M H) (r : Rels S R F M H ds vs) (h : Post S R W σ F M H (KE S R Q) (.ok (.tup ds) M)) {p : Addr} (hp : H p = none) : Q (.ref p) (upd H p (.tup vs)) := by
  have l : Le F M H F M (upd H p (.tup vs)) := Le.new hp
  exact h _ _ l (s.new hp) _ (.tup p ds vs (Fz.new s hp) upd_same r.1 fun i d v a b => (r.2 i d v a b).mono l)
/-- the value itself comes out, nothing has changed -/
theorem Post.val {Q : VK} {d : D} {v : V} (h : Post S R W σ F M H (KE S R Q) (.ok d M)) (s : Sim S R F M H) (r : RelD S R F M H d v) : Q v H := h F H .refl s v r
end

section
variable {S : Sur} {X : Cx} {W : WX} {a b : Expr} {fa fb : FE D} {pos : Pos}
theorem ge_var {i : Nat} {x : Str} (hN : X.N[i]? = some x) (hv : Vis X.env.scope x) (hd : (x == ("__debug__" : Str)) = false) (hcd : (x == ("__classdict__" : Str)) = false) : GE S X W (.Name x pos) (fVar i) := fun R => by
  refine PE_imp (pe_var hN hv hd hcd) fun σ H Q ⟨F, M, env, s, e, h⟩ => ?_
  unfold fVar at h
  cases hi : env[i]? with
  | none => rw [hi] at h; exact h.elim
  | some o =>
    cases o with
    | none => rw [hi] at h; exact h.elim
    | some d =>
      rw [hi] at h
      obtain ⟨v, e1, r⟩ := e.2 i d hi
      exact ⟨v, e1, h.val s r⟩
theorem ge_c {e : Expr} {v : V} {d : D} (hp : PE X e (tC v)) (hr : ∀ R F M H, RelD S R F M H d v) : GE S X W e (fC d) := fun R =>
  PE_imp hp fun σ H Q ⟨F, M, env, s, e, h⟩ => h.val s (hr R F M H)
theorem rd_bin {R : Addr → Prop} {σ : L2.St} {H : Hp} {Q : VK} {r : R2} {g : D → D → Mem → Res D} (hg : OpOk S r g) (h : rdE S R W (fOp g fa fb) σ H Q) : rdE S R W fa σ H fun x H1 => rdE S R W fb σ H1 fun y H2 => r x y H2 Q := by
  obtain ⟨F, M, env, s, e, h⟩ := h
  refine ⟨F, M, env, s, e, (Post.bind h).mono fun F1 M1 H1 dx l1 s1 h1 x rx => ?_⟩
  refine ⟨F1, M1, env, s1, e.mono l1, (Post.bind h1).mono fun F2 M2 H2 dy l2 s2 h2 y ry => ?_⟩
  exact hg R W σ F2 M2 H2 dx dy x y Q s2 (rx.mono l2) ry h2
theorem ge_op {o : Operator} {r : R2} {g : D → D → Mem → Res D} (ho : OpR X (binaryOp o) r) (hg : OpOk S r g) (ha : GE S X W a fa) (hb : GE S X W b fb) : GE S X W (.BinOp a o b pos) (fOp g fa fb) := fun R =>
  PE_imp (pe_op ho (ha R) (hb R)) fun σ H Q h => rd_bin hg h
theorem ge_cmp {o : CmpOp} {r : R2} {g : D → D → Mem → Res D} (ho : OpR X (compareOp o) r) (hm : behindInMarks o b = false) (hg : OpOk S r g) (ha : GE S X W a fa) (hb : GE S X W b fb) : GE S X W (.Compare a [o] [b] pos) (fOp g fa fb) := fun R =>
  PE_imp (pe_cmpR ho (ha R) (hb R) hm) fun σ H Q h => rd_bin hg h
theorem ge_ix {r : R2} {g : D → D → Mem → Res D} (ho : IxR X r) (hp : PlainIx b) (hg : OpOk S r g) (ha : GE S X W a fa) (hb : GE S X W b fb) : GE S X W (.Subscript a b pos) (fOp g fa fb) := fun R =>
  PE_imp (pe_ix ho (ha R) (hb R) hp) fun σ H Q h => rd_bin hg h
theorem ge_un {o : UnaryOp} {r : V → Hp → VK → Prop} {g : D → Mem → Res D} (ho : UnR X (unaryOp o) r) (hg : UnOk S r g) (ha : GE S X W a fa) : GE S X W (.UnaryOp o a pos) (fUn g fa) := fun R =>
  PE_imp (pe_un ho (ha R)) fun σ H Q ⟨F, M, env, s, e, h⟩ => ⟨F, M, env, s, e, (Post.bind h).mono fun F1 M1 H1 dx l1 s1 h1 x rx => hg R W σ F1 M1 H1 dx x Q s1 rx h1⟩
theorem ga_nil : GA S X W [] fNil := fun R => PA_imp pa_nil fun σ H Q ⟨F, M, env, s, e, h⟩ => h F H .refl s [] .nil
theorem ga_cons {es : List Expr} {fr : FE (List D)} (ha : GE S X W a fa) (hr : GA S X W es fr) (hs : starEach (a :: es) X.env = (false, eval a X.env) :: starEach es X.env) : GA S X W (a :: es) (fCons fa fr) := fun R => by
  refine PA_imp (pa_cons (ha R) (hr R) hs) fun σ H Q ⟨F, M, env, s, e, h⟩ => ⟨F, M, env, s, e, (Post.bind h).mono fun F1 M1 H1 dx l1 s1 h1 x rx => ?_⟩
  refine ⟨F1, M1, env, s1, e.mono l1, (Post.bind h1).mono fun F2 M2 H2 ds l2 s2 h2 xs rs => ?_⟩
  exact h2 F2 H2 .refl s2 (x :: xs) (.cons (rx.mono l2) rs)
theorem rd_args {R : Addr → Prop} {σ : L2.St} {H : Hp} {Q : VK} {fs : FE (List D)} {g : List D → Mem → Res D} (h : rdE S R W (fCl g fs) σ H Q) {t : List V → Hp → Prop}
    (k : ∀ F M H ds vs, Sim S R F M H → Rels S R F M H ds vs → Post S R W σ F M H (KE S R Q) (g ds M) → t vs H) : rdA S R W fs σ H t := by
  obtain ⟨F, M, env, s, e, h⟩ := h
  exact ⟨F, M, env, s, e, (Post.bind h).mono fun F1 M1 H1 ds l1 s1 h1 vs rs => k F1 M1 H1 ds vs s1 rs h1⟩
def gTup (ds : List D) (M : Mem) : Res D := if ds.length ≤ 1000000 then .ok (.tup ds) M else .bad
def gLst (c : Bool) (ds : List D) (M : Mem) : Res D := if ds.length ≤ 1000000 then fin c ds M else .bad
theorem ge_tup {es : List Expr} {k : Nat} {fs : FE (List D)} (ha : GA S X W es fs) : GE S X W (.Tuple es k pos) (fCl gTup fs) := fun R => by
  refine PE_imp (pe_tup (ha R)) fun σ H Q h => rd_args h fun F M H ds vs s r h => ?_
  unfold gTup at h
  split at h
  · rename_i hl
    exact ⟨small_ok (r.1 ▸ hl), fun p hp => tup_ok s r h hp⟩
  · exact h.elim
theorem ge_lst {es : List Expr} {c : Bool} {fs : FE (List D)} (ha : GA S X W es fs) : GE S X W (.List es pos) (fCl (gLst c) fs) := fun R => by
  refine PE_imp (pe_lst (ha R)) fun σ H Q h => rd_args h fun F M H ds vs s r h => ?_
  unfold gLst at h
  split at h
  · rename_i hl
    exact ⟨small_ok (r.1 ▸ hl), fun p hp => fin_ok s r h hp⟩
  · exact h.elim
/-! tests -/
theorem gt_and {e : Expr} {f g : FE Bool} {tA tB : TT} (h : ∀ R, PT X e (tAnd (rdT S R W f) (rdT S R W g))) : GT S X W e (fAndT f g) := fun R => by
  refine PT_imp (h R) fun σ H Q ⟨F, M, env, s, e, h⟩ => ⟨F, M, env, s, e, (Post.bind h).mono fun F1 M1 H1 b l1 s1 h1 => ?_⟩
  show if b = true then _ else _
  cases b with
  | true => exact iteT ⟨F1, M1, env, s1, e.mono l1, h1⟩
  | false => exact iteF (h1 F1 H1 .refl s1)
theorem rd_if {R : Addr → Prop} {σ : L2.St} {H : Hp} {Q : VK} {fc : FE Bool} (h : rdE S R W (fIf fc fa fb) σ H Q) : rdT S R W fc σ H fun c H1 => if c = true then rdE S R W fa σ H1 Q else rdE S R W fb σ H1 Q := by
  obtain ⟨F, M, env, s, e, h⟩ := h
  refine ⟨F, M, env, s, e, (Post.bind h).mono fun F1 M1 H1 b l1 s1 h1 => ?_⟩
  show if b = true then _ else _
  cases b with
  | true => exact iteT ⟨F1, M1, env, s1, e.mono l1, h1⟩
  | false => exact iteF ⟨F1, M1, env, s1, e.mono l1, h1⟩
theorem ge_if {c : Expr} {fc : FE Bool} (hc : GT S X W c fc) (ha : GE S X W a fa) (hb : GE S X W b fb) : GE S X W (.IfExp c a b pos) (fIf fc fa fb) := fun R =>
  PE_imp (pe_ifExp (hc R) (ha R) (hb R)) fun σ H Q h => rd_if h
end
end En

set_option Elab.async false
set_option linter.all false
set_option maxRecDepth 100000
/-! E3: operations on values. -/
namespace En
open PySem PySem.Spec L2

/-- the items of a list that may be put together with others, of a list that is read, of a list or tuple that is read -/
def lstAt (M : Mem) (n : Nat) : Option (List D) := match M[n]? with | some (some (.lst xs)) => some xs | _ => none
theorem lstAt_iff {M : Mem} {n : Nat} {xs : List D} : lstAt M n = some xs ↔ M[n]? = some (some (.lst xs)) := by
  unfold lstAt
  constructor
  · intro h
    split at h
    · rename_i ys q
      cases h; exact q
    · cases h
  · intro h; rw [h]
def lstOf (M : Mem) : D → Option (List D)
  | .lst xs => some xs
  | .loc n => lstAt M n
  | _ => none
def rdLst (M : Mem) : D → Option (List D)
  | .scr xs => some xs
  | d => lstOf M d
def rdSeq (M : Mem) : D → Option (List D)
  | .tup xs => some xs
  | d => rdLst M d

section
variable {S : Sur} {R : Addr → Prop} {F : Ads} {M : Mem} {H : Hp} {d : D} {v : V} {xs : List D}
theorem lst_at (s : Sim S R F M H) (r : RelD S R F M H d v) (e : lstOf M d = some xs) : ∃ a vs, v = .ref a ∧ H a = some (.lst vs) ∧ Rels S R F M H xs vs := by
  cases r with
  | lst a ds vs z h n k =>
    have e' : ds = xs := Option.some.inj e
    subst e'
    exact ⟨a, vs, rfl, h, n, k⟩
  | loc n a f =>
    have q := lstAt_iff.mp (show lstAt M n = some xs from e)
    obtain ⟨b, f', _, vs, h, rs⟩ := s.cell n _ q
    rw [f] at f'; cases f'
    exact ⟨a, vs, rfl, h, rs⟩
  | _ => cases e
theorem rdLst_at (s : Sim S R F M H) (r : RelD S R F M H d v) (e : rdLst M d = some xs) : ∃ a vs, v = .ref a ∧ SqL S.K H a vs ∧ Rels S R F M H xs vs := by
  have go : lstOf M d = some xs → ∃ a vs, v = .ref a ∧ SqL S.K H a vs ∧ Rels S R F M H xs vs := fun q => by
    obtain ⟨a, vs, e1, h, rs⟩ := lst_at s r q
    exact ⟨a, vs, e1, .of h, rs⟩
  cases r with
  | scr a ds vs z n k =>
    have e' : ds = xs := Option.some.inj e
    subst e'
    refine ⟨a, vs, rfl, ?_, n, k⟩
    rcases z with ⟨_, z⟩ | z
    · exact .inl z
    · exact z H
  | _ => exact go e
theorem rdSeq_at (s : Sim S R F M H) (r : RelD S R F M H d v) (e : rdSeq M d = some xs) : ∃ a vs, v = .ref a ∧ (SqL S.K H a vs ∨ SqT S.K H a vs) ∧ Rels S R F M H xs vs := by
  have go : rdLst M d = some xs → ∃ a vs, v = .ref a ∧ (SqL S.K H a vs ∨ SqT S.K H a vs) ∧ Rels S R F M H xs vs := fun q => by
    obtain ⟨a, vs, e1, h, rs⟩ := rdLst_at s r q
    exact ⟨a, vs, e1, .inl h, rs⟩
  cases r with
  | tup a ds vs z h n k =>
    have e' : ds = xs := Option.some.inj e
    subst e'
    exact ⟨a, vs, rfl, .inr (.of h), n, k⟩
  | _ => exact go e
theorem tup_at (r : RelD S R F M H (.tup xs) v) : ∃ a vs, v = .ref a ∧ H a = some (.tup vs) ∧ Rels S R F M H xs vs := by
  cases r with
  | tup a ds vs z h n k => exact ⟨a, vs, rfl, h, n, k⟩
theorem int_at {i : Int} (r : RelD S R F M H (.int i) v) : v = .int i := by cases r; rfl
theorem bl_at {b : Bool} (r : RelD S R F M H (.bl b) v) : v = .bl b := by cases r; rfl
theorem str_at {x : Str} (r : RelD S R F M H (.str x) v) : v = .str x := by cases r; rfl
theorem Rels.ints {ns : List Int} {vs : List V} (h : Rels S R F M H (ns.map .int) vs) : vs = ns.map V.int := by
  refine List.ext_getElem? fun i => ?_
  by_cases hi : i < ns.length
  · have e : (ns.map D.int)[i]? = some (.int ns[i]) := by simp [hi]
    obtain ⟨v, e1, r⟩ := h.get e
    rw [e1, int_at r]; simp [hi]
  · have hv : vs.length = ns.length := by have := h.1; simpa using this.symm
    rw [List.getElem?_eq_none (by omega), List.getElem?_eq_none (by simp; omega)]
theorem Rels.bls {ns : List Bool} {vs : List V} (h : Rels S R F M H (ns.map .bl) vs) : vs = ns.map V.bl := by
  refine List.ext_getElem? fun i => ?_
  by_cases hi : i < ns.length
  · have e : (ns.map D.bl)[i]? = some (.bl ns[i]) := by simp [hi]
    obtain ⟨v, e1, r⟩ := h.get e
    rw [e1, bl_at r]; simp [hi]
  · have hv : vs.length = ns.length := by have := h.1; simpa using this.symm
    rw [List.getElem?_eq_none (by omega), List.getElem?_eq_none (by simp; omega)]
theorem Rels.ofInts (ns : List Int) : Rels S R F M H (ns.map .int) (ns.map V.int) := by
  refine ⟨by simp, fun i d v h1 h2 => ?_⟩
  rw [List.getElem?_map] at h1 h2
  cases e : ns[i]? with
  | none => rw [e] at h1; cases h1
  | some n => rw [e] at h1 h2; cases h1; cases h2; exact .int n
end

/-! ### numbers -/
def asInts : List D → Option (List Int)
  | [] => some []
  | .int i :: r => (asInts r).map (i :: ·)
  | _ => none
theorem asInts_eq : ∀ {ds : List D} {ns : List Int}, asInts ds = some ns → ds = ns.map D.int
  | [], ns, h => by cases h; rfl
  | .int i :: r, ns, h => by
    unfold asInts at h
    cases q : asInts r with
    | none => rw [q] at h; cases h
    | some ms => rw [q] at h; cases h; rw [asInts_eq q]; rfl
  | .non :: r, _, h => by cases h
  | .bl _ :: r, _, h => by cases h
  | .str _ :: r, _, h => by cases h
  | .tup _ :: r, _, h => by cases h
  | .lst _ :: r, _, h => by cases h
  | .loc _ :: r, _, h => by cases h
  | .dct _ :: r, _, h => by cases h
  | .exc _ _ :: r, _, h => by cases h
  | .cls _ :: r, _, h => by cases h
  | .scr _ :: r, _, h => by cases h
  | .ty _ :: r, _, h => by cases h
@[simp] theorem asInts_map (ns : List Int) : asInts (ns.map D.int) = some ns := by
  induction ns with
  | nil => rfl
  | cons n r ih => show (asInts (r.map D.int)).map _ = _; rw [ih]; rfl
def asBls : List D → Option (List Bool)
  | [] => some []
  | .bl i :: r => (asBls r).map (i :: ·)
  | _ => none
theorem asBls_eq : ∀ {ds : List D} {ns : List Bool}, asBls ds = some ns → ds = ns.map D.bl
  | [], ns, h => by cases h; rfl
  | .bl i :: r, ns, h => by
    unfold asBls at h
    cases q : asBls r with
    | none => rw [q] at h; cases h
    | some ms => rw [q] at h; cases h; rw [asBls_eq q]; rfl
  | .non :: r, _, h => by cases h
  | .int _ :: r, _, h => by cases h
  | .str _ :: r, _, h => by cases h
  | .tup _ :: r, _, h => by cases h
  | .lst _ :: r, _, h => by cases h
  | .loc _ :: r, _, h => by cases h
  | .dct _ :: r, _, h => by cases h
  | .exc _ _ :: r, _, h => by cases h
  | .cls _ :: r, _, h => by cases h
  | .scr _ :: r, _, h => by cases h
  | .ty _ :: r, _, h => by cases h
@[simp] theorem asBls_map (ns : List Bool) : asBls (ns.map D.bl) = some ns := by
  induction ns with
  | nil => rfl
  | cons n r ih => show (asBls (r.map D.bl)).map _ = _; rw [ih]; rfl

def gAdd (c : Bool) (x y : D) (M : Mem) : Res D :=
  match x, y with
  | .int i, .int j => .ok (.int (i + j)) M
  | .tup xs, .tup ys => if xs.length + ys.length ≤ 1000000 then .ok (.tup (xs ++ ys)) M else .bad
  | .str a, .str b => if a.length + b.length ≤ 1000000 then .ok (.str (a ++ b)) M else .bad
  | _, _ => match lstOf M x, lstOf M y with
    | some xs, some ys => if xs.length + ys.length ≤ 1000000 then fin c (xs ++ ys) M else .bad
    | _, _ => .bad
def gSub (x y : D) (M : Mem) : Res D := match x, y with | .int i, .int j => .ok (.int (i - j)) M | _, _ => .bad
/-- a product is let if the bits of both are below a million -/
def gMul (c : Bool) (x y : D) (M : Mem) : Res D :=
  match x, y with
  | .int i, .int j => if i.natAbs.log2 + j.natAbs.log2 < 1000000 then .ok (.int (i * j)) M else .bad
  | .tup xs, .int k => if 1 ≤ xs.length ∧ xs.length ≤ 1000 ∧ 2 ≤ k ∧ k ≤ 1000 then .ok (.tup (List.replicate k.toNat xs).flatten) M else .bad
  | _, .int k => match lstOf M x with
    | some xs => if xs.length ≤ 1000 ∧ -1000 ≤ k ∧ k ≤ 1000 then fin c (List.replicate k.toNat xs).flatten M else .bad
    | none => .bad
  | _, _ => .bad
def gDiv (x y : D) (M : Mem) : Res D := match x, y with | .int i, .int j => if 0 < j ∧ j.natAbs.log2 < 9000 then .ok (.int (i / j)) M else .bad | _, _ => .bad
def gMod (x y : D) (M : Mem) : Res D := match x, y with | .int i, .int j => if 0 < j then .ok (.int (i % j)) M else .bad | _, _ => .bad
def gPow (x y : D) (M : Mem) : Res D := match x, y with | .int i, .int j => if 0 ≤ j ∧ j ≤ 1000 ∧ i.natAbs < 2 ^ 64 then .ok (.int (i ^ j.toNat)) M else .bad | _, _ => .bad
def gNeg (x : D) (M : Mem) : Res D := match x with | .int i => .ok (.int (-i)) M | _ => .bad
def gCmpI (p : Int → Int → Bool) (x y : D) (M : Mem) : Res D := match x, y with | .int i, .int j => .ok (.bl (p i j)) M | _, _ => .bad

section
variable {S : Sur} {X : Cx}
theorem ok_of {Q : VK} {R : Addr → Prop} {W : WX} {σ : L2.St} {F : Ads} {M : Mem} {H : Hp} {d : D} {v : V} (s : Sim S R F M H) (r : RelD S R F M H d v) (h : Post S R W σ F M H (KE S R Q) (.ok d M)) : Q v H := h.val s r
/-- + -/
def rAddA (K : PySem.W.Frag) : R2 := fun x y H Q => (rI0 fun i j => .int (i + j)) x y H Q ∨ rCatA K x y H Q ∨ rCat x y H Q ∨ (∃ i j, x = .str i ∧ y = .str j ∧ i.length + j.length ≤ sizeLine ∧ Q (.str (i ++ j)) H)
theorem op_addA : OpR X (binaryOp .Add) (rAddA X.K) := op_add.or (op_catA.or (op_cat.or op_add_str))
theorem addOk {c : Bool} : OpOk S (rAddA S.K) (gAdd c) := by
  intro R W σ F M H dx dy x y Q s rx ry h
  have lists : (match lstOf M dx, lstOf M dy with
    | some xs, some ys => if xs.length + ys.length ≤ 1000000 then fin c (xs ++ ys) M else .bad
    | _, _ => .bad) = gAdd c dx dy M → rAddA S.K x y H Q := fun q => by
    rw [← q] at h
    cases e1 : lstOf M dx with
    | none => rw [e1] at h; exact h.elim
    | some xs =>
      cases e2 : lstOf M dy with
      | none => rw [e1, e2] at h; exact h.elim
      | some ys =>
        rw [e1, e2] at h
        simp only at h
        split at h
        · rename_i hl
          obtain ⟨a, vs, rfl, ha, ra⟩ := lst_at s rx e1
          obtain ⟨b, us, rfl, hb, rb⟩ := lst_at s ry e2
          refine .inr (.inr (.inl ⟨a, b, vs, us, rfl, rfl, ha, hb, small_ok (by rw [← ra.1, ← rb.1]; exact hl), fun p hp => fin_ok s (ra.append rb) h hp⟩))
        · exact h.elim
  cases rx with
  | int i =>
    cases ry with
    | int j => exact .inl ⟨i, j, rfl, rfl, ok_of s (.int _) h⟩
    | _ => exact lists rfl
  | str i =>
    cases ry with
    | str j =>
      unfold gAdd at h
      simp only at h
      split at h
      · rename_i hl
        exact .inr (.inr (.inr ⟨i, j, rfl, rfl, small_ok hl, ok_of s (.str _) h⟩))
      · exact h.elim
    | _ => exact lists rfl
  | tup a xs vs z ha n k =>
    cases ry with
    | tup b ys us z2 hb n2 k2 =>
      have rx : RelD S R F M H (.tup xs) (.ref a) := .tup a xs vs z ha n k
      have ry : RelD S R F M H (.tup ys) (.ref b) := .tup b ys us z2 hb n2 k2
      have h' : Post S R W σ F M H (KE S R Q) (if xs.length + ys.length ≤ 1000000 then .ok (.tup (xs ++ ys)) M else .bad) := h
      split at h'
      · rename_i hl
        refine .inr (.inl ⟨a, b, vs, us, rfl, rfl, .of ha, .of hb, small_ok (by omega), fun e => ?_, fun _ e => ?_, fun _ _ p hp => ?_⟩)
        · have e0 : xs = [] := List.length_eq_zero_iff.mp (by rw [n, e]; rfl)
          rw [e0, List.nil_append] at h'
          exact ok_of s ry h'
        · have e0 : ys = [] := List.length_eq_zero_iff.mp (by rw [n2, e]; rfl)
          rw [e0, List.append_nil] at h'
          exact ok_of s rx h'
        · exact tup_ok s (Rels.append ⟨n, k⟩ ⟨n2, k2⟩) h' hp
      · exact h'.elim
    | _ => exact lists rfl
  | _ => exact lists rfl
theorem subOk : OpOk S (rI0 fun i j => .int (i - j)) gSub := by
  intro R W σ F M H dx dy x y Q s rx ry h
  cases rx <;> try exact h.elim
  cases ry <;> try exact h.elim
  exact ⟨_, _, rfl, rfl, ok_of s (.int _) h⟩
def rMulA (K : PySem.W.Frag) : R2 := fun x y H Q => (rI CMulW fun i j => .int (i * j)) x y H Q ∨ rRepT K x y H Q ∨ rRep x y H Q
theorem op_mulA : OpR X (binaryOp .Mult) (rMulA X.K) := op_mulW.or (op_repT.or op_rep)
theorem Rels.flat {R : Addr → Prop} {F : Ads} {M : Mem} {H : Hp} {xs : List D} {vs : List V} (r : Rels S R F M H xs vs) : ∀ n : Nat, Rels S R F M H (List.replicate n xs).flatten (List.replicate n vs).flatten
  | 0 => .nil
  | n + 1 => by
    rw [List.replicate_succ, List.replicate_succ, List.flatten_cons, List.flatten_cons]
    exact r.append (Rels.flat r n)
theorem mulOk {c : Bool} : OpOk S (rMulA S.K) (gMul c) := by
  intro R W σ F M H dx dy x y Q s rx ry h
  have lists : ∀ k : Int, dy = .int k → (match lstOf M dx with
    | some xs => if xs.length ≤ 1000 ∧ -1000 ≤ k ∧ k ≤ 1000 then fin c (List.replicate k.toNat xs).flatten M else .bad
    | none => .bad) = gMul c dx dy M → rMulA S.K x y H Q := fun k ek q => by
    rw [← q] at h
    subst ek
    cases int_at ry
    cases e1 : lstOf M dx with
    | none => rw [e1] at h; exact h.elim
    | some xs =>
      rw [e1] at h
      simp only at h
      split at h
      · rename_i hl
        obtain ⟨a, vs, rfl, ha, ra⟩ := lst_at s rx e1
        refine .inr (.inr ⟨a, k, vs, rfl, rfl, ha, by omega, by omega, small_ok ?_, fun p hp => fin_ok s (ra.flat _) h hp⟩)
        have h1 : vs.length ≤ 1000 := ra.1 ▸ hl.1
        have h2 : k.toNat ≤ 1000 := by omega
        exact Nat.le_trans (Nat.mul_le_mul h1 h2) (by decide)
      · exact h.elim
  cases rx with
  | int i =>
    cases ry with
    | int j =>
      unfold gMul at h
      simp only at h
      split at h
      · rename_i hl
        exact .inl ⟨i, j, rfl, rfl, hl, ok_of s (.int _) h⟩
      · exact h.elim
    | _ => exact h.elim
  | tup a xs vs z ha n k =>
    cases ry with
    | int j =>
      have h' : Post S R W σ F M H (KE S R Q) (if 1 ≤ xs.length ∧ xs.length ≤ 1000 ∧ 2 ≤ j ∧ j ≤ 1000 then .ok (.tup (List.replicate j.toNat xs).flatten) M else .bad) := h
      split at h'
      · rename_i hl
        refine .inr (.inl ⟨a, j, vs, rfl, rfl, .of ha, fun e => ?_, hl.2.2.1, hl.2.2.2, n ▸ hl.2.1, fun p hp => tup_ok s (Rels.flat ⟨n, k⟩ _) h' hp⟩)
        rw [e] at n
        have := hl.1
        rw [n] at this
        exact absurd this (by decide)
      · exact h'.elim
    | _ => exact h.elim
  | lst a ds vs z ha n k =>
    cases ry with
    | int j => exact lists j rfl rfl
    | _ => exact h.elim
  | loc m a e =>
    cases ry with
    | int j => exact lists j rfl rfl
    | _ => exact h.elim
  | _ => cases ry <;> exact h.elim
theorem divOk : OpOk S (rI CDivW fun i j => .int (i / j)) gDiv := by
  intro R W σ F M H dx dy x y Q s rx ry h
  cases rx <;> try exact h.elim
  cases ry <;> try exact h.elim
  unfold gDiv at h
  simp only at h
  split at h
  · rename_i hl; exact ⟨_, _, rfl, rfl, hl, ok_of s (.int _) h⟩
  · exact h.elim
theorem modOk : OpOk S (rI (fun _ j => 0 < j) fun i j => .int (i % j)) gMod := by
  intro R W σ F M H dx dy x y Q s rx ry h
  cases rx <;> try exact h.elim
  cases ry <;> try exact h.elim
  unfold gMod at h
  simp only at h
  split at h
  · rename_i hl; exact ⟨_, _, rfl, rfl, hl, ok_of s (.int _) h⟩
  · exact h.elim
theorem powOk : OpOk S (rI CPow fun i j => .int (i ^ j.toNat)) gPow := by
  intro R W σ F M H dx dy x y Q s rx ry h
  cases rx <;> try exact h.elim
  cases ry <;> try exact h.elim
  unfold gPow at h
  simp only at h
  split at h
  · rename_i hl; exact ⟨_, _, rfl, rfl, ⟨hl.1, Int.le_trans hl.2.1 (by decide), hl.2.2⟩, ok_of s (.int _) h⟩
  · exact h.elim
theorem negOk : UnOk S (rU fun i => .int (-i)) gNeg := by
  intro R W σ F M H dx x Q s rx h
  cases rx <;> try exact h.elim
  exact ⟨_, rfl, ok_of s (.int _) h⟩
theorem cmpOk (p : Int → Int → Bool) : OpOk S (rI0 fun i j => .bl (p i j)) (gCmpI p) := by
  intro R W σ F M H dx dy x y Q s rx ry h
  cases rx <;> try exact h.elim
  cases ry <;> try exact h.elim
  exact ⟨_, _, rfl, rfl, ok_of s (.bl _) h⟩

/-! ### == -/
def optAll {α : Type} : List (Option α) → Option (List α)
  | [] => some []
  | some a :: r => (optAll r).map (a :: ·)
  | none :: _ => none
theorem optAll_len {α : Type} : ∀ {l : List (Option α)} {ps : List α}, optAll l = some ps → l.length = ps.length ∧ ∀ (i : Nat) p, ps[i]? = some p → l[i]? = some (some p)
  | [], ps, h => by cases h; exact ⟨rfl, fun i p e => by simp at e⟩
  | some a :: r, ps, h => by
    unfold optAll at h
    cases q : optAll r with
    | none => rw [q] at h; cases h
    | some ms =>
      rw [q] at h; cases h
      obtain ⟨h1, h2⟩ := optAll_len q
      refine ⟨by simp [h1], fun i p e => ?_⟩
      cases i with
      | zero => simpa using e
      | succ i => simpa using h2 i p (by simpa using e)
  | none :: r, ps, h => by cases h
/-- the plain data of a value, of at most so many levels -/
def toP (M : Mem) : Nat → D → Option PyData
  | 0, _ => none
  | n + 1, d => match d with
    | .non => some .none
    | .bl b => some (.bool b)
    | .int i => some (.int i)
    | .str x => some (.str x)
    | .tup xs => (optAll (xs.map (toP M n))).map .tuple
    | d => match rdLst M d with
      | some xs => (optAll (xs.map (toP M n))).map .list
      | none => none
theorem dpAll_of {K : PySem.W.Frag} {H : Hp} : ∀ {vs : List V} {ps : List PyData}, vs.length = ps.length → (∀ (i : Nat) v p, vs[i]? = some v → ps[i]? = some p → Dp K H v p) → DpAll K H vs ps
  | [], [], _, _ => .nil
  | v :: vs, p :: ps, l, k => .cons (k 0 v p rfl rfl) (dpAll_of (by simpa using l) fun i v p a b => k (i + 1) v p (by simpa using a) (by simpa using b))
  | [], _ :: _, l, _ => by simp at l
  | _ :: _, [], l, _ => by simp at l
theorem toP_ok {R : Addr → Prop} {F : Ads} {M : Mem} {H : Hp} (s : Sim S R F M H) : ∀ {n : Nat} {d : D} {v : V} {p : PyData}, RelD S R F M H d v → toP M n d = some p → Dp S.K H v p := by
  intro n
  induction n with
  | zero => intro d v p r h; cases h
  | succ n ih =>
    intro d v p r h
    have items : ∀ {xs : List D} {vs : List V} {ps : List PyData}, Rels S R F M H xs vs → optAll (xs.map (toP M n)) = some ps → DpAll S.K H vs ps := fun {xs vs ps} rs q => by
      obtain ⟨h1, h2⟩ := optAll_len q
      refine dpAll_of (by rw [← h1, List.length_map]; exact rs.1.symm) fun i v p e1 e2 => ?_
      have e3 := h2 i p e2
      rw [List.getElem?_map] at e3
      obtain ⟨d, e4, r4⟩ := rs.get2 e1
      rw [e4] at e3
      exact ih r4 (Option.some.inj e3)
    have lists : ∀ {xs : List D}, rdLst M d = some xs → (optAll (xs.map (toP M n))).map PyData.list = some p → Dp S.K H v p := fun {xs} e q => by
      obtain ⟨a, vs, rfl, h1, rs⟩ := rdLst_at s r e
      cases e2 : optAll (xs.map (toP M n)) with
      | none => rw [e2] at q; cases q
      | some ps =>
        rw [e2] at q
        cases q
        exact .lst h1 (items rs e2)
    cases r with
    | non => cases h; exact .non
    | bl b => cases h; exact .bl b
    | int i => cases h; exact .int i
    | str x => cases h; exact .str x
    | tup a ds vs z ha l k =>
      have h' : (optAll (ds.map (toP M n))).map PyData.tuple = some p := h
      cases e2 : optAll (ds.map (toP M n)) with
      | none => rw [e2] at h'; cases h'
      | some ps =>
        rw [e2] at h'
        cases h'
        exact .tup (.of ha) (items ⟨l, k⟩ e2)
    | lst a ds vs z ha l k => exact lists (xs := ds) rfl h
    | loc m a e =>
      cases q : lstAt M m with
      | none =>
        have h' : (match lstAt M m with | some xs => (optAll (xs.map (toP M n))).map PyData.list | none => none) = some p := h
        rw [q] at h'; cases h'
      | some xs =>
        refine lists (xs := xs) q ?_
        have h' : (match lstAt M m with | some xs => (optAll (xs.map (toP M n))).map PyData.list | none => none) = some p := h
        rw [q] at h'; exact h'
    | scr a ds vs z l k => exact lists (xs := ds) rfl h
    | dct => cases h
    | exc => cases h
    | cls => cases h
    | ty => cases h
    | ktp => cases h
def gEq (x y : D) (M : Mem) : Res D :=
  match x, y with
  | .dct [], .dct [] => .ok (.bl true) M
  | .str a, .str b => .ok (.bl (decide (a = b))) M
  | x, y => match toP M 65 x, toP M 65 y with
    | some p, some q => if SeqAt.shaped p = true ∧ SeqAt.shaped q = true then .ok (.bl (PyData.eqv p q)) M else .bad
    | _, _ => .bad
def gNe (x y : D) (M : Mem) : Res D :=
  match x, y with
  | .str a, .str b => .ok (.bl (!decide (a = b))) M
  | x, y => match toP M 65 x, toP M 65 y with
    | some p, some q => if SeqAt.shaped p = true ∧ SeqAt.shaped q = true then .ok (.bl (!PyData.eqv p q)) M else .bad
    | _, _ => .bad
def rEqA (K : PySem.W.Frag) : R2 := fun x y H Q => rEqD K x y H Q ∨ (rEqV K x y H Q ∨ rEq x y H Q)
theorem op_eqA (hu : X.A.units + 64 < cLine) : OpR X (compareOp .Eq) (rEqA X.K) := (op_eqD hu).or ((op_eqV hu).or op_eq)
def rNeA (K : PySem.W.Frag) : R2 := fun x y H Q => rNeD K x y H Q ∨ rNe x y H Q
theorem op_neA (hu : X.A.units + 64 < cLine) : OpR X (compareOp .NotEq) (rNeA X.K) := (op_neD hu).or op_ne
theorem str_dec {a b : Str} : decide ((V.str a) = V.str b) = decide (a = b) := decide_eq_decide.mpr ⟨fun h => V.str.inj h, fun h => h ▸ rfl⟩
theorem eqOk : OpOk S (rEqA S.K) gEq := by
  intro R W σ F M H dx dy x y Q s rx ry h
  unfold gEq at h
  split at h
  · cases rx with
    | dct a ks kvs z ha e k =>
      cases ry with
      | dct b ls lvs z2 hb e2 k2 =>
        have e1 : kvs = [] := by
          have := congrArg List.length e; simpa using this.symm
        have e3 : lvs = [] := by
          have := congrArg List.length e2; simpa using this.symm
        subst e1 e3
        exact .inr (.inl ⟨1, by decide, .inr ⟨a, b, [], [], rfl, rfl, ha, hb, rfl, fun p hp => nomatch hp⟩, ok_of s (.bl _) h⟩)
  · cases rx
    cases ry
    exact .inr (.inr ⟨rfl, str_dec ▸ ok_of s (.bl _) h⟩)
  · split at h
    · rename_i p q e1 e2
      split at h
      · rename_i hs
        exact .inl ⟨p, q, toP_ok s rx e1, toP_ok s ry e2, hs.1, hs.2, ok_of s (.bl _) h⟩
      · exact h.elim
    · exact h.elim
theorem neOk : OpOk S (rNeA S.K) gNe := by
  intro R W σ F M H dx dy x y Q s rx ry h
  unfold gNe at h
  split at h
  · cases rx
    cases ry
    exact .inr ⟨rfl, str_dec ▸ ok_of s (.bl _) h⟩
  · split at h
    · rename_i p q e1 e2
      split at h
      · rename_i hs
        exact .inl ⟨p, q, toP_ok s rx e1, toP_ok s ry e2, hs.1, hs.2, ok_of s (.bl _) h⟩
      · exact h.elim
    · exact h.elim
/-- x in a list -/
def gIn (neg : Bool) (x y : D) (M : Mem) : Res D :=
  match toP M 65 x, toP M 65 y with
    | some p, some (.list qs) => if SeqAt.shaped p = true ∧ SeqAt.shaped (.list qs) = true then .ok (.bl (if neg = true then !(qs.any fun z => PyData.eqv z p) else qs.any fun z => PyData.eqv z p)) M else .bad
    | _, _ => .bad
theorem inOk : OpOk S (rInD S.K) (gIn false) := by
  intro R W σ F M H dx dy x y Q s rx ry h
  unfold gIn at h
  split at h
  · rename_i p q e1 e2
    split at h
    · rename_i hs
      exact ⟨p, q, toP_ok s rx e1, toP_ok s ry e2, hs.1, hs.2, ok_of s (.bl _) h⟩
    · exact h.elim
  · exact h.elim
theorem ninOk : OpOk S (rNotInD S.K) (gIn true) := by
  intro R W σ F M H dx dy x y Q s rx ry h
  unfold gIn at h
  split at h
  · rename_i p q e1 e2
    split at h
    · rename_i hs
      exact ⟨p, q, toP_ok s rx e1, toP_ok s ry e2, hs.1, hs.2, ok_of s (.bl _) h⟩
    · exact h.elim
  · exact h.elim
/-- is None, is True, is False -/
def gIs (neg : Bool) (x y : D) (M : Mem) : Res D :=
  match x, y with
  | .bl a, .bl b => .ok (.bl (if neg = true then !decide (a = b) else decide (a = b))) M
  | .non, .non => .ok (.bl (!neg)) M
  | _, .non => .ok (.bl neg) M
  | _, _ => .bad
def rIsA : R2 := fun x y H Q => (y = .non ∧ Q (.bl (decide (x = .non))) H) ∨ rIsB x y H Q
def rIsNA : R2 := fun x y H Q => (y = .non ∧ Q (.bl (!decide (x = .non))) H) ∨ rNotB x y H Q
theorem op_isA : OpR X (compareOp .Is) rIsA := op_isN.or op_isBl
theorem op_isNA : OpR X (compareOp .IsNot) rIsNA := op_notN.or op_notBl
theorem isOk : OpOk S rIsA (gIs false) := by
  intro R W σ F M H dx dy x y Q s rx ry h
  cases ry with
  | non => cases rx <;> first | exact h.elim | exact .inl ⟨rfl, ok_of s (.bl _) h⟩
  | bl b => cases rx <;> first | exact h.elim | exact .inr ⟨_, _, rfl, rfl, ok_of s (.bl _) h⟩
  | _ => cases rx <;> exact h.elim
theorem isNOk : OpOk S rIsNA (gIs true) := by
  intro R W σ F M H dx dy x y Q s rx ry h
  cases ry with
  | non => cases rx <;> first | exact h.elim | exact .inl ⟨rfl, ok_of s (.bl _) h⟩
  | bl b => cases rx <;> first | exact h.elim | exact .inr ⟨_, _, rfl, rfl, ok_of s (.bl _) h⟩
  | _ => cases rx <;> exact h.elim
end
end En

set_option Elab.async false
set_option linter.all false
set_option maxRecDepth 100000
/-! E4: truth, tests, and or not; places and cuts; built-in functions; what changes a list. -/
namespace En
open PySem PySem.Spec L2

/-! ### truth -/
section
variable {S : Sur} {X : Cx} {W : WX} {a b : Expr} {fa fb : FE D} {pos : Pos} {rest : List Expr}
theorem tru_at {R : Addr → Prop} {σ : L2.St} {F : Ads} {M : Mem} {H : Hp} {d : D} {v : V} {K : Ads → Mem → Hp → Bool → Prop} (s : Sim S R F M H) (r : RelD S R F M H d v) (h : Post S R W σ F M H K (tru d M)) :
    ∃ k, TruV S.K v H k ∧ Post S R W σ F M H K (.ok k M) := by
  have emp : ∀ {xs : List D} {vs : List V}, xs.length = vs.length → (!xs.isEmpty) = !vs.isEmpty := fun {xs vs} l => by
    cases xs <;> cases vs <;> first | rfl | (simp at l)
  cases r with
  | non => exact ⟨_, rfl, h⟩
  | bl b => exact ⟨_, rfl, h⟩
  | int i => exact ⟨_, rfl, h⟩
  | tup a ds vs z e n k => exact ⟨_, .inr (.inl ⟨vs, .of e, emp n⟩), h⟩
  | lst a ds vs z e n k => exact ⟨_, .inl ⟨vs, .of e, emp n⟩, h⟩
  | scr a ds vs z n k =>
    refine ⟨_, .inl ⟨vs, ?_, emp n⟩, h⟩
    rcases z with ⟨_, z⟩ | z
    · exact .inl z
    · exact z H
  | dct a ks kvs z e n k =>
    refine ⟨_, .inr (.inr ⟨kvs, e, ?_⟩), h⟩
    have l : ks.length = kvs.length := by simpa using congrArg List.length n
    cases ks <;> cases kvs <;> first | rfl | (simp at l)
  | loc n a e =>
    have h' : Post S R W σ F M H K (match M[n]? with | some (some (.lst xs)) => .ok (!xs.isEmpty) M | _ => .bad) := h
    split at h'
    · rename_i xs q
      obtain ⟨b, f', _, vs, h1, rs⟩ := s.cell n _ q
      rw [e] at f'; cases f'
      exact ⟨_, .inl ⟨vs, .of h1, emp rs.1⟩, h'⟩
    · exact h'.elim
  | _ => exact h.elim
theorem gt_tru (hK : S.K = X.K) (he : ∀ whole, isTrue a X.env whole = (do let v ← whole; standAt a.pos; holding [v] (truthy v))) (ha : GE S X W a fa) : GT S X W a (fTru fa) := fun R => by
  refine PT_imp (pt_truth (ha R) he) fun σ H Q ⟨F, M, env, s, e, h⟩ => ⟨F, M, env, s, e, (Post.bind h).mono fun F1 M1 H1 d l1 s1 h1 v rv => ?_⟩
  obtain ⟨k, t, h2⟩ := tru_at s1 rv h1
  exact ⟨k, hK ▸ t, h2 F1 H1 .refl s1⟩
/-- a comparison as a test -/
theorem gt_cmp {o : CmpOp} {r : R2} {g : D → D → Mem → Res D} (ho : OpR X (compareOp o) r) (hm : behindInMarks o b = false) (hg : OpOk S r g) (hb' : ∀ x y M d M', g x y M = .ok d M' → ∃ k, d = .bl k)
    (ha : GE S X W a fa) (hb : GE S X W b fb) : GT S X W (.Compare a [o] [b] pos) (fTru (fOp g fa fb)) := fun R => by
  refine PT_imp (pt_cmpR ho (ha R) (hb R) hm) fun σ H Q ⟨F, M, env, s, e, h⟩ => ?_
  refine rd_bin (Q := fun v H' => ∃ k, v = .bl k ∧ Q k H') hg ⟨F, M, env, s, e, ?_⟩
  have h' := Post.bind h
  have all : ∀ d M', fOp g fa fb env M = .ok d M' → ∃ k, d = .bl k := fun d M' q => by
    unfold fOp at q
    cases e1 : fa env M with
    | ok x M1 =>
      rw [e1, Res.bind_ok] at q
      cases e2 : fb env M1 with
      | ok y M2 => rw [e2, Res.bind_ok] at q; exact hb' _ _ _ _ _ q
      | exc => rw [e2] at q; cases q
      | bad => rw [e2] at q; cases q
    | exc => rw [e1] at q; cases q
    | bad => rw [e1] at q; cases q
  cases e1 : fOp g fa fb env M with
  | ok d M' =>
    obtain ⟨k, ek⟩ := all d M' e1
    rw [e1] at h'
    subst ek
    intro F' H' l s' v rv
    cases bl_at rv
    exact ⟨k, rfl, h' F' H' l s' F' H' .refl s'⟩
  | exc c fs M' => rw [e1] at h'; exact h'
  | bad => rw [e1] at h'; exact h'
def GW (S : Sur) (X : Cx) (W : WX) (e : Expr) (f : FE Bool) : Prop := ∀ R, PW X e (rdT S R W f)
theorem gw_pt {e : Expr} {f : FE Bool} (h : GW S X W e f) : GT S X W e f := fun R => (h R).pt
theorem gw_and1 {f : FE Bool} (ha : GT S X W a f) : GW S X W (.BoolOp .And [a] pos) f := fun R => pw_and1 (ha R)
theorem gw_or1 {f : FE Bool} (ha : GT S X W a f) : GW S X W (.BoolOp .Or [a] pos) f := fun R => pw_or1 (ha R)
theorem gw_and {f g : FE Bool} (ha : GT S X W a f) (hb : GW S X W (.BoolOp .And (b :: rest) pos) g) : GW S X W (.BoolOp .And (a :: b :: rest) pos) (fAndT f g) := fun R => by
  refine PW_imp (pw_and (ha R) (hb R)) fun σ H Q ⟨F, M, env, s, e, h⟩ => ⟨F, M, env, s, e, (Post.bind h).mono fun F1 M1 H1 c l1 s1 h1 => ?_⟩
  cases c with
  | true => exact (⟨F1, M1, env, s1, e.mono l1, h1⟩ : rdT S R W g σ H1 Q)
  | false => exact (show Q false H1 from h1 F1 H1 .refl s1)
theorem gw_or {f g : FE Bool} (ha : GT S X W a f) (hb : GW S X W (.BoolOp .Or (b :: rest) pos) g) : GW S X W (.BoolOp .Or (a :: b :: rest) pos) (fOrT f g) := fun R => by
  refine PW_imp (pw_or (ha R) (hb R)) fun σ H Q ⟨F, M, env, s, e, h⟩ => ⟨F, M, env, s, e, (Post.bind h).mono fun F1 M1 H1 c l1 s1 h1 => ?_⟩
  cases c with
  | true => exact (show Q true H1 from h1 F1 H1 .refl s1)
  | false => exact (⟨F1, M1, env, s1, e.mono l1, h1⟩ : rdT S R W g σ H1 Q)
theorem gt_not {f : FE Bool} (ha : GT S X W a f) : GT S X W (.UnaryOp .Not a pos) (fNotT f) := fun R => by
  refine PT_imp (pt_not (ha R)) fun σ H Q ⟨F, M, env, s, e, h⟩ => ⟨F, M, env, s, e, (Post.bind h).mono fun F1 M1 H1 c l1 s1 h1 => ?_⟩
  exact h1 F1 H1 .refl s1
/-- and, or, not as values -/
def fAnd (fa fb : FE D) : FE D := fun env M => (fa env M).bind fun x M1 => (tru x M1).bind fun b M2 => if b = true then fb env M2 else .ok x M2
def fOr (fa fb : FE D) : FE D := fun env M => (fa env M).bind fun x M1 => (tru x M1).bind fun b M2 => if b = true then .ok x M2 else fb env M2
def fNot (fa : FE D) : FE D := fun env M => (fa env M).bind fun x M1 => (tru x M1).bind fun b M2 => .ok (.bl (!b)) M2
theorem Post.bind1 {R : Addr → Prop} {σ : L2.St} {F : Ads} {M : Mem} {H : Hp} {α β : Type} {K : Ads → Mem → Hp → β → Prop} {a : α} {f : α → Mem → Res β} (h : Post S R W σ F M H (fun F' M' H' a => Post S R W σ F' M' H' K (f a M')) (.ok a M)) (s : Sim S R F M H) :
    Post S R W σ F M H K (f a M) := h F H .refl s
theorem ge_and (hK : S.K = X.K) (ha : GE S X W a fa) (hb : GE S X W (.BoolOp .And (b :: rest) pos) fb) : GE S X W (.BoolOp .And (a :: b :: rest) pos) (fAnd fa fb) := fun R => by
  refine PE_imp (pe_andT (ha R) (hb R)) fun σ H Q ⟨F, M, env, s, e, h⟩ => ⟨F, M, env, s, e, (Post.bind h).mono fun F1 M1 H1 d l1 s1 h1 v rv => ?_⟩
  obtain ⟨k, t, h2⟩ := tru_at s1 rv (Post.bind h1)
  refine ⟨k, hK ▸ t, ?_⟩
  have h3 := Post.bind1 h2 s1
  cases k with
  | true => exact iteT ⟨F1, M1, env, s1, e.mono l1, h3⟩
  | false => exact iteF (ok_of s1 rv h3)
theorem ge_or (hK : S.K = X.K) (ha : GE S X W a fa) (hb : GE S X W (.BoolOp .Or (b :: rest) pos) fb) : GE S X W (.BoolOp .Or (a :: b :: rest) pos) (fOr fa fb) := fun R => by
  refine PE_imp (pe_orT (ha R) (hb R)) fun σ H Q ⟨F, M, env, s, e, h⟩ => ⟨F, M, env, s, e, (Post.bind h).mono fun F1 M1 H1 d l1 s1 h1 v rv => ?_⟩
  obtain ⟨k, t, h2⟩ := tru_at s1 rv (Post.bind h1)
  refine ⟨k, hK ▸ t, ?_⟩
  have h3 := Post.bind1 h2 s1
  cases k with
  | true => exact iteT (ok_of s1 rv h3)
  | false => exact iteF ⟨F1, M1, env, s1, e.mono l1, h3⟩
theorem ge_not (hK : S.K = X.K) (ha : GE S X W a fa) : GE S X W (.UnaryOp .Not a pos) (fNot fa) := fun R => by
  refine PE_imp (pe_notT (ha R)) fun σ H Q ⟨F, M, env, s, e, h⟩ => ⟨F, M, env, s, e, (Post.bind h).mono fun F1 M1 H1 d l1 s1 h1 v rv => ?_⟩
  obtain ⟨k, t, h2⟩ := tru_at s1 rv (Post.bind h1)
  exact ⟨k, hK ▸ t, ok_of s1 (.bl _) (Post.bind1 h2 s1)⟩
theorem ge_bool1 {o : BoolOp} (h : ∀ t, PE X a t → PE X (.BoolOp o [a] pos) t) (ha : GE S X W a fa) : GE S X W (.BoolOp o [a] pos) fa := fun R => h _ (ha R)
end

/-! ### places, cuts -/
/-- what may be read at a place -/
def rdIx (M : Mem) : D → Option (List D)
  | .ktp xs => some xs
  | d => rdSeq M d
theorem rdIx_of {M : Mem} {x : D} {xs : List D} (h : rdSeq M x = some xs) : rdIx M x = some xs := by
  cases x <;> first | exact h | cases h
/-- the dict in a cell -/
def dicAt (M : Mem) (n : Nat) : Option (List (Str × D)) := match M[n]? with | some (some (.dic ks)) => some ks | _ => none
theorem dicAt_iff {M : Mem} {n : Nat} {ks : List (Str × D)} : dicAt M n = some ks ↔ M[n]? = some (some (.dic ks)) := by
  unfold dicAt
  constructor
  · intro h
    split at h
    · rename_i ys q
      cases h; exact q
    · cases h
  · intro h; rw [h]
def gIxK (x : D) (s : Str) (M : Mem) : Res D := match x with
  | .loc n => match dicAt M n with
    | some ks => match ks.lookup s with | some d => .ok d M | none => .bad
    | none => .bad
  | _ => .bad
def gIx (x y : D) (M : Mem) : Res D :=
  match y with
  | .int i => match rdIx M x with
    | some xs => match atI xs i with | some d => .ok d M | none => .bad
    | none => .bad
  | .str s => gIxK x s M
  | _ => .bad
/-- the items of a cut -/
def cutD (xs : List D) (lo hi : Option Int) : List D := (xs.drop (HT.sIx xs.length 0 lo)).take (HT.sIx xs.length xs.length hi - HT.sIx xs.length 0 lo)
def gSl (c : Bool) (x : D) (lo hi : Option Int) (M : Mem) : Res D :=
  match x with
  | .tup xs => .ok (.tup (cutD xs lo hi)) M
  | x => match rdLst M x with
    | some xs => fin c (cutD xs lo hi) M
    | none => .bad
def fSl (c : Bool) (fx : FE D) (fl fh : FE (Option Int)) : FE D := fun env M => (fx env M).bind fun x M1 => (fl env M1).bind fun lo M2 => (fh env M2).bind fun hi M3 => gSl c x lo hi M3
def fNo : FE (Option Int) := fun _ M => .ok none M
def fPart (f : FE D) : FE (Option Int) := fun env M => (f env M).bind fun d M1 => match d with | .int i => .ok (some i) M1 | _ => .bad
def rdO (S : Sur) (R : Addr → Prop) (W : WX) (f : FE (Option Int)) : TO := fun σ H Q => ∃ F M env, Sim S R F M H ∧ RelE S R F M H env σ ∧ Post S R W σ F M H (fun _ _ H' o => Q o H') (f env M)
def GO (S : Sur) (X : Cx) (W : WX) (e : Option Expr) (f : FE (Option Int)) : Prop := ∀ R, PO X e (rdO S R W f)
section
variable {S : Sur} {X : Cx} {W : WX} {a b : Expr} {fa fb : FE D} {pos p2 : Pos} {lo hi : Option Expr}
theorem atI_rel {R : Addr → Prop} {F : Ads} {M : Mem} {H : Hp} {xs : List D} {vs : List V} {i : Int} {d : D} (r : Rels S R F M H xs vs) (e : atI xs i = some d) : ∃ v, atI vs i = some v ∧ RelD S R F M H d v := by
  unfold atI at e ⊢
  rw [← r.1]
  cases q : ixN xs.length i with
  | none => rw [q] at e; cases e
  | some j =>
    rw [q] at e
    exact r.get e
theorem rdIx_at {R : Addr → Prop} {F : Ads} {M : Mem} {H : Hp} {d : D} {v : V} {xs : List D} (s : Sim S R F M H) (r : RelD S R F M H d v) (e : rdIx M d = some xs) : ∃ a vs, v = .ref a ∧ (SqL S.K H a vs ∨ SqT S.K H a vs) ∧ Rels S R F M H xs vs := by
  cases r with
  | ktp a ds vs z n k =>
    cases (show some ds = some xs from e)
    exact ⟨a, vs, rfl, .inr (z H), n, k⟩
  | tup a ds vs z e2 n k => exact rdSeq_at s (.tup a ds vs z e2 n k) e
  | lst a ds vs z e2 n k => exact rdSeq_at s (.lst a ds vs z e2 n k) e
  | scr a ds vs z n k => exact rdSeq_at s (.scr a ds vs z n k) e
  | loc n a f => exact rdSeq_at s (.loc n a f) e
  | _ => cases e
/-- a dict's value at a key -/
theorem dic_get {R : Addr → Prop} {F : Ads} {M : Mem} {H : Hp} {s : Str} {d : D} : ∀ {ks : List (Str × D)} {kvs : List (Key × V)}, kvs.map (·.1) = ks.map (fun p => Sum.inr p.1) → Rels S R F M H (ks.map (·.2)) (kvs.map (·.2)) → ks.lookup s = some d → ∃ v, valV kvs (Sum.inr s : Key) = some v ∧ RelD S R F M H d v
  | [], [], _, _, h => by cases h
  | [], _ :: _, e, _, _ => by cases e
  | _ :: _, [], e, _, _ => by cases e
  | (a, x) :: ks, (b, y) :: kvs, e, r, h => by
    injection e with e1 e2
    have e1 : b = Sum.inr a := e1
    subst e1
    rw [List.lookup_cons] at h
    cases q : s == a with
    | true =>
      rw [q] at h
      cases h
      have : s = a := by simpa using q
      subst this
      exact ⟨y, valV_pos rfl, r.2 0 _ y rfl rfl⟩
    | false =>
      rw [q] at h
      have ne : ¬ (Sum.inr a : Key) = Sum.inr s := fun z => by
        have : a = s := Sum.inr.inj z
        rw [this] at q; simp at q
      obtain ⟨v, h1, h2⟩ := dic_get (ks := ks) (kvs := kvs) e2 ⟨by have := r.1; simpa using this, fun i d v p1 p2 => r.2 (i + 1) d v p1 p2⟩ h
      exact ⟨v, (valV_neg (p := (Sum.inr a, y)) ne).trans h1, h2⟩
/-- the value at a key becomes another one -/
def putM (s : Str) (v : D) (ks : List (Str × D)) : List (Str × D) := ks.map fun p => if p.1 = s then (p.1, v) else p
theorem dic_put {R : Addr → Prop} {F : Ads} {M : Mem} {H : Hp} {s : Str} {d : D} {u : V} (ru : RelD S R F M H d u) : ∀ {ks : List (Str × D)} {kvs : List (Key × V)}, kvs.map (·.1) = ks.map (fun p => Sum.inr p.1) → Rels S R F M H (ks.map (·.2)) (kvs.map (·.2)) →
    (kvs.map fun kv => if kv.1 = (Sum.inr s : Key) then (kv.1, u) else kv).map (·.1) = (putM s d ks).map (fun p => Sum.inr p.1) ∧ Rels S R F M H ((putM s d ks).map (·.2)) ((kvs.map fun kv => if kv.1 = (Sum.inr s : Key) then (kv.1, u) else kv).map (·.2))
  | [], [], _, r => ⟨rfl, r⟩
  | [], _ :: _, e, _ => by cases e
  | _ :: _, [], e, _ => by cases e
  | (a, x) :: ks, (b, y) :: kvs, e, r => by
    injection e with e1 e2
    have e1 : b = Sum.inr a := e1
    subst e1
    obtain ⟨k1, k2⟩ := dic_put (s := s) ru (ks := ks) (kvs := kvs) e2 ⟨by have := r.1; simpa using this, fun i d v p1 p2 => r.2 (i + 1) d v p1 p2⟩
    have r0 : RelD S R F M H x y := r.2 0 x y rfl rfl
    have z1 : putM s d ((a, x) :: ks) = (if a = s then (a, d) else (a, x)) :: putM s d ks := rfl
    have z2 : (((Sum.inr a, y) :: kvs : List (Key × V)).map fun kv => if kv.1 = (Sum.inr s : Key) then (kv.1, u) else kv) = (if (Sum.inr a : Key) = Sum.inr s then ((Sum.inr a : Key), u) else (Sum.inr a, y)) :: (kvs.map fun kv => if kv.1 = (Sum.inr s : Key) then (kv.1, u) else kv) := rfl
    rw [z1, z2]
    by_cases q : a = s
    · rw [if_pos q, if_pos (congrArg Sum.inr q)]
      exact ⟨by rw [List.map_cons, List.map_cons, k1], .cons ru k2⟩
    · rw [if_neg q, if_neg (fun z => q (Sum.inr.inj z))]
      exact ⟨by rw [List.map_cons, List.map_cons, k1], .cons r0 k2⟩
theorem dic_at {R : Addr → Prop} {F : Ads} {M : Mem} {H : Hp} {n : Nat} {v : V} {ks : List (Str × D)} (s : Sim S R F M H) (r : RelD S R F M H (.loc n) v) (e : dicAt M n = some ks) : ∃ a kvs, v = .ref a ∧ F[n]? = some a ∧ H a = some (.dK kvs) ∧ kvs.map (·.1) = ks.map (fun p => Sum.inr p.1) ∧ Rels S R F M H (ks.map (·.2)) (kvs.map (·.2)) := by
  cases r with
  | loc n a f =>
    obtain ⟨b, f', _, kvs, h1, h2, h3⟩ := s.cell n _ (dicAt_iff.mp e)
    rw [f] at f'; cases f'
    exact ⟨a, kvs, rfl, f, h1, h2, h3⟩
def rIxG : R2 := fun x y H Q => ∃ (a : Addr) (kvs : List (Key × V)) (k : Key) (v : V), x = .ref a ∧ H a = some (.dK kvs) ∧ y = kV k ∧ valV kvs k = some v ∧ Q v H
theorem ix_dget : IxR X rIxG := by
  intro value slice pins s σ H x y v u Q I rx ry h hs
  obtain ⟨a, kvs, k, r, rfl, e, rfl, l, q⟩ := h
  obtain rfl : v = Value.ref a := rx
  obtain ⟨z, hd, vs, rel, dd⟩ := dk_rd I.hok (.inl e)
  obtain ⟨w', hw, rw'⟩ := RelO.some_of (v := r) (o := valueAt vs k) (by rw [← l]; exact rel.val k)
  exact PyProof.Rows.tail_any dd.mapOf.typeIs slot_dict_getitem.lookup (wpAny_getItem_of (kV_is ry) dd.mapOf hw ⟨r, H, I.tok _, rw', q⟩) hs
def rIx2 (K : PySem.W.Frag) : R2 := fun x y H Q => rIx K x y H Q ∨ rIxG x y H Q
theorem ix_seq2 : IxR X (rIx2 X.K) := ix_seq.or ix_dget
theorem ixOk : OpOk S (rIx2 S.K) gIx := by
  intro R W σ F M H dx dy x y Q s rx ry h
  cases ry with
  | str t =>
    have h' : Post S R W σ F M H (KE S R Q) (gIxK dx t M) := h
    unfold gIxK at h'
    cases dx with
    | loc n =>
      simp only at h'
      cases e1 : dicAt M n with
      | none => rw [e1] at h'; exact h'.elim
      | some ks =>
        rw [e1] at h'
        simp only at h'
        cases e2 : ks.lookup t with
        | none => rw [e2] at h'; exact h'.elim
        | some d =>
          rw [e2] at h'
          obtain ⟨a, kvs, rfl, _, hH, k1, k2⟩ := dic_at s rx e1
          obtain ⟨v, e3, rv⟩ := dic_get k1 k2 e2
          exact .inr ⟨a, kvs, Sum.inr t, v, rfl, hH, rfl, e3, ok_of s rv h'⟩
    | _ => exact h'.elim
  | int i =>
    have h' : Post S R W σ F M H (KE S R Q) (match rdIx M dx with
      | some xs => match atI xs i with | some d => .ok d M | none => .bad
      | none => .bad) := h
    cases e1 : rdIx M dx with
    | none => rw [e1] at h'; exact h'.elim
    | some xs =>
      rw [e1] at h'
      simp only at h'
      cases e2 : atI xs i with
      | none => rw [e2] at h'; exact h'.elim
      | some d =>
        rw [e2] at h'
        obtain ⟨p, vs, rfl, hq, rs⟩ := rdIx_at s rx e1
        obtain ⟨v, e3, rv⟩ := atI_rel rs e2
        rcases hq with hq | hq
        · exact .inl (.inl ⟨p, vs, i, v, rfl, rfl, hq, e3, ok_of s rv h'⟩)
        · exact .inl (.inr (.inl ⟨p, vs, i, v, rfl, rfl, hq, e3, ok_of s rv h'⟩))
  | _ => exact h.elim
theorem PO_imp {t t' : TO} (h : PO X lo t) (k : ∀ σ H Q, t' σ H Q → t σ H Q) : PO X lo t' := ⟨fun pins s σ H Q I q => h.run pins s σ H Q I (k σ H Q q)⟩
theorem go_no : GO S X W none fNo := fun R => PO_imp po_none fun σ H Q ⟨F, M, env, s, e, h⟩ => h F H .refl s
theorem go_part (ha : GE S X W a fa) : GO S X W (some a) (fPart fa) := fun R => by
  refine PO_imp (po_some (ha R)) fun σ H Q ⟨F, M, env, s, e, h⟩ => ⟨F, M, env, s, e, (Post.bind h).mono fun F1 M1 H1 d l1 s1 h1 v rv => ?_⟩
  cases rv <;> try exact h1.elim
  exact ⟨_, rfl, h1 F1 H1 .refl s1⟩
def rSlB (K : PySem.W.Frag) : V → Option Int → Option Int → Hp → VK → Prop := fun x lo hi H Q => rSlL K x lo hi H Q ∨ rSlA K x lo hi H Q
theorem sl_b : SlR X (rSlB X.K) := sl_list.or sl_tupA
theorem cut_rel {R : Addr → Prop} {F : Ads} {M : Mem} {H : Hp} {xs : List D} {vs : List V} (r : Rels S R F M H xs vs) (lo hi : Option Int) : Rels S R F M H (cutD xs lo hi) (cutV vs lo hi) := by
  unfold cutD cutV
  rw [r.1]
  exact (r.drop _).take _
theorem slOk {R : Addr → Prop} {σ : L2.St} {F : Ads} {M : Mem} {H : Hp} {c : Bool} {d : D} {v : V} {lo hi : Option Int} {Q : VK} (s : Sim S R F M H) (r : RelD S R F M H d v) (h : Post S R W σ F M H (KE S R Q) (gSl c d lo hi M)) : rSlB S.K v lo hi H Q := by
  have lists : (match rdLst M d with
    | some xs => fin c (cutD xs lo hi) M
    | none => .bad) = gSl c d lo hi M → rSlB S.K v lo hi H Q := fun q => by
    rw [← q] at h
    cases e1 : rdLst M d with
    | none => rw [e1] at h; exact h.elim
    | some xs =>
      rw [e1] at h
      obtain ⟨a, vs, rfl, hq, rs⟩ := rdLst_at s r e1
      exact .inl ⟨a, vs, rfl, hq, fun p hp => fin_ok s (cut_rel rs lo hi) h hp⟩
  cases r with
  | tup a xs vs z e n k =>
    have rs : Rels S R F M H xs vs := ⟨n, k⟩
    refine .inr ⟨a, vs, rfl, .of e, fun ⟨h1, h2⟩ => ?_, fun _ p hp => tup_ok s (cut_rel rs lo hi) h hp⟩
    have ec : cutD xs lo hi = xs := by
      unfold cutD
      rw [n, h1, h2, List.drop_zero, Nat.sub_zero, ← n, List.take_length]
    have h' : Post S R W σ F M H (KE S R Q) (.ok (.tup (cutD xs lo hi)) M) := h
    rw [ec] at h'
    exact ok_of s (.tup a xs vs z e n k) h'
  | _ => exact lists rfl
theorem ge_sl (hK : S.K = X.K) {c : Bool} {fl fh : FE (Option Int)} (ha : GE S X W a fa) (hl : GO S X W lo fl) (hh : GO S X W hi fh) : GE S X W (.Subscript a (.Slice lo hi none p2) pos) (fSl c fa fl fh) := fun R => by
  refine PE_imp (pe_slice sl_b (ha R) (hl R) (hh R)) fun σ H Q ⟨F, M, env, s, e, h⟩ => ⟨F, M, env, s, e, (Post.bind h).mono fun F1 M1 H1 d l1 s1 h1 v rv => ?_⟩
  refine ⟨F1, M1, env, s1, e.mono l1, (Post.bind h1).mono fun F2 M2 H2 o l2 s2 h2 => ?_⟩
  refine ⟨F2, M2, env, s2, (e.mono l1).mono l2, (Post.bind h2).mono fun F3 M3 H3 o3 l3 s3 h3 => ?_⟩
  rw [← hK]
  exact slOk s3 ((rv.mono l2).mono l3) h3
end

/-! ### built-in functions of values -/
def gLen (ds : List D) (M : Mem) : Res D :=
  match ds with
  | [.str x] => if x.length ≤ 1000000 then .ok (.int x.length) M else .bad
  | [d] => match rdSeq M d with | some xs => .ok (.int xs.length) M | none => .bad
  | _ => .bad
def gAbs (ds : List D) (M : Mem) : Res D := match ds with | [.int i] => .ok (.int (if i < 0 then -i else i)) M | _ => .bad
def gInt (ds : List D) (M : Mem) : Res D := match ds with | [.int i] => .ok (.int i) M | [.bl b] => .ok (.int (if b = true then 1 else 0)) M | _ => .bad
def gMax2 (ds : List D) (M : Mem) : Res D := match ds with | [.int i, .int j] => .ok (.int (if j > i then j else i)) M | _ => .bad
def gMin2 (ds : List D) (M : Mem) : Res D := match ds with | [.int i, .int j] => .ok (.int (if j < i then j else i)) M | _ => .bad
def gSum (ds : List D) (M : Mem) : Res D :=
  match ds with
  | [d] => match (rdLst M d).bind asInts with | some ns => .ok (.int ns.sum) M | none => .bad
  | _ => .bad
def gAll (ds : List D) (M : Mem) : Res D :=
  match ds with
  | [d] => match (rdLst M d).bind asBls with | some bs => .ok (.bl (bs.all id)) M | none => .bad
  | _ => .bad
def gAny (ds : List D) (M : Mem) : Res D :=
  match ds with
  | [d] => match (rdLst M d).bind asBls with | some bs => .ok (.bl (bs.any id)) M | none => .bad
  | _ => .bad
def gList (c : Bool) (ds : List D) (M : Mem) : Res D :=
  match ds with
  | [d] => match rdSeq M d with | some xs => fin c xs M | none => .bad
  | _ => .bad
def gTuple (ds : List D) (M : Mem) : Res D :=
  match ds with
  | [.tup xs] => .ok (.tup xs) M
  | [d] => match rdLst M d with | some xs => .ok (.tup xs) M | none => .bad
  | _ => .bad
/-- the name of a value's type -/
def tyName (M : Mem) : D → Option String
  | .non => some "NoneType"
  | .bl _ => some "bool"
  | .int _ => some "int"
  | .str _ => some "str"
  | .tup _ => some "tuple"
  | .lst _ => some "list"
  | .scr _ => some "list"
  | .dct _ => some "dict"
  | .loc n => (lstAt M n).map fun _ => "list"
  | _ => none
def isTy (t c : String) : Option Bool :=
  if t = "NoneType" ∨ t = "bool" ∨ t = "int" ∨ t = "str" ∨ t = "tuple" ∨ t = "list" ∨ t = "dict" then
    if c = "int" then some (decide (t = "int" ∨ t = "bool")) else if c = "bool" ∨ c = "str" ∨ c = "tuple" ∨ c = "list" ∨ c = "dict" then some (decide (t = c)) else none
  else none
def asTys : List D → Option (List String)
  | [] => some []
  | .ty c :: r => (asTys r).map (c :: ·)
  | _ => none
def isTys (t : String) : List String → Option Bool
  | [] => some false
  | c :: r => match isTy t c with
    | some true => some true
    | some false => isTys t r
    | none => none
def gIsi (ds : List D) (M : Mem) : Res D :=
  match ds with
  | [d, .ty c] => match (tyName M d).bind fun t => isTy t c with | some b => .ok (.bl b) M | none => .bad
  | [d, .tup cs] => match (asTys cs).bind fun cs => (tyName M d).bind fun t => isTys t cs with | some b => .ok (.bl b) M | none => .bad
  | _ => .bad
section
variable {S : Sur} {X : Cx} {W : WX} {a : Expr} {es : List Expr} {fs : FE (List D)} {pos p : Pos}
theorem rels1 {R : Addr → Prop} {F : Ads} {M : Mem} {H : Hp} {d : D} {vs : List V} (r : Rels S R F M H [d] vs) : ∃ v, vs = [v] ∧ RelD S R F M H d v := by
  obtain ⟨l, k⟩ := r
  match vs, l with
  | [v], _ => exact ⟨v, rfl, k 0 d v rfl rfl⟩
theorem rels2 {R : Addr → Prop} {F : Ads} {M : Mem} {H : Hp} {d e : D} {vs : List V} (r : Rels S R F M H [d, e] vs) : ∃ v u, vs = [v, u] ∧ RelD S R F M H d v ∧ RelD S R F M H e u := by
  obtain ⟨l, k⟩ := r
  match vs, l with
  | [v, u], _ => exact ⟨v, u, rfl, k 0 d v rfl rfl, k 1 e u rfl rfl⟩
/-- a call of a built-in function, of a built-in type -/
theorem ge_blt {id : String} {r : List V → Hp → VK → Prop} {g : List D → Mem → Res D} {x : Str} (hc : CallR X (.builtin id) r) (hg : ClOk S r g) (gl : Gl X x) (hm : X.mg x = none) (hv : bootBuiltins x = some (.builtin id)) (hn : x ≠ "__name__") (hd : (x == ("__debug__" : Str)) = false)
    (ha : GA S X W (a :: es) fs) (he : starEach (a :: es) X.env = (false, eval a X.env) :: starEach es X.env) (hpl : (backTo pos (starEach es X.env)).any (·.1) = false) : GE S X W (.Call (.Name x p) (a :: es) [] pos) (fCl g fs) := fun R =>
  PE_imp (pe_callB hc gl hm hv (ha R) hn hd he hpl) fun σ H Q h => rd_args h fun F M H ds vs s r h => hg R W σ F M H ds vs Q s r h
theorem ge_blty {id : String} {r : List V → Hp → VK → Prop} {g : List D → Mem → Res D} {x : Str} (hc : CallR X (.type id) r) (hg : ClOk S r g) (gl : Gl X x) (hm : X.mg x = none) (hv : bootBuiltins x = some (.type id)) (hn : x ≠ "__name__") (hd : (x == ("__debug__" : Str)) = false)
    (ha : GA S X W (a :: es) fs) (he : starEach (a :: es) X.env = (false, eval a X.env) :: starEach es X.env) (hpl : (backTo pos (starEach es X.env)).any (·.1) = false) : GE S X W (.Call (.Name x p) (a :: es) [] pos) (fCl g fs) := fun R =>
  PE_imp (pe_callTy hc gl hm hv (ha R) hn hd he hpl) fun σ H Q h => rd_args h fun F M H ds vs s r h => hg R W σ F M H ds vs Q s r h
def rLen (K : PySem.W.Frag) : List V → Hp → VK → Prop := fun xs H Q => ∃ x n, xs = [x] ∧ LenV K x H n ∧ Q (.int n) H
theorem lenOk : ClOk S (rLen S.K) gLen := by
  intro R W σ F M H ds vs Q s r h
  unfold gLen at h
  split at h
  · rename_i x
    split at h
    · rename_i hl
      obtain ⟨v, rfl, rv⟩ := rels1 r
      cases str_at rv
      exact ⟨_, _, rfl, ⟨small_ok hl, rfl⟩, ok_of s (.int _) h⟩
    · exact h.elim
  · rename_i d _
    split at h
    · rename_i xs e
      obtain ⟨v, rfl, rv⟩ := rels1 r
      obtain ⟨a, vs, rfl, hq, rs⟩ := rdSeq_at s rv e
      refine ⟨_, xs.length, rfl, ?_, ok_of s (.int _) h⟩
      rcases hq with hq | hq
      · exact .inl ⟨vs, hq, rs.1⟩
      · exact .inr ⟨vs, hq, rs.1⟩
    · exact h.elim
  · exact h.elim
theorem absOk : ClOk S (fun xs H Q => ∃ i, xs = [V.int i] ∧ Q (.int (if i < 0 then -i else i)) H) gAbs := by
  intro R W σ F M H ds vs Q s r h
  unfold gAbs at h
  split at h
  · obtain ⟨v, rfl, rv⟩ := rels1 r
    cases int_at rv
    exact ⟨_, rfl, ok_of s (.int _) h⟩
  · exact h.elim
theorem intOk : ClOk S (fun xs H Q => (∃ i, xs = [V.int i] ∧ Q (.int i) H) ∨ ∃ k, xs = [V.bl k] ∧ Q (.int (if k then 1 else 0)) H) gInt := by
  intro R W σ F M H ds vs Q s r h
  unfold gInt at h
  split at h
  · obtain ⟨v, rfl, rv⟩ := rels1 r
    cases int_at rv
    exact .inl ⟨_, rfl, ok_of s (.int _) h⟩
  · obtain ⟨v, rfl, rv⟩ := rels1 r
    cases bl_at rv
    exact .inr ⟨_, rfl, ok_of s (.int _) h⟩
  · exact h.elim
theorem max2Ok : ClOk S (fun xs H Q => ∃ i j, xs = [V.int i, V.int j] ∧ Q (.int (if j > i then j else i)) H) gMax2 := by
  intro R W σ F M H ds vs Q s r h
  unfold gMax2 at h
  split at h
  · obtain ⟨v, u, rfl, rv, ru⟩ := rels2 r
    cases int_at rv
    cases int_at ru
    exact ⟨_, _, rfl, ok_of s (.int _) h⟩
  · exact h.elim
theorem min2Ok : ClOk S (fun xs H Q => ∃ i j, xs = [V.int i, V.int j] ∧ Q (.int (if j < i then j else i)) H) gMin2 := by
  intro R W σ F M H ds vs Q s r h
  unfold gMin2 at h
  split at h
  · obtain ⟨v, u, rfl, rv, ru⟩ := rels2 r
    cases int_at rv
    cases int_at ru
    exact ⟨_, _, rfl, ok_of s (.int _) h⟩
  · exact h.elim
theorem sumOk : ClOk S (rSum S.K) gSum := by
  intro R W σ F M H ds vs Q s r h
  unfold gSum at h
  split at h
  · rename_i d
    obtain ⟨v, rfl, rv⟩ := rels1 r
    cases e1 : rdLst M d with
    | none => rw [e1] at h; exact h.elim
    | some xs =>
      rw [e1] at h
      cases e2 : asInts xs with
      | none => simp only [Option.bind_some, e2] at h; exact h.elim
      | some ns =>
        simp only [Option.bind_some, e2] at h
        obtain ⟨a, vs, rfl, hq, rs⟩ := rdLst_at s rv e1
        rw [asInts_eq e2] at rs
        exact ⟨a, ns, rfl, rs.ints ▸ hq, ok_of s (.int _) h⟩
  · exact h.elim
theorem allOk : ClOk S (rAll S.K) gAll := by
  intro R W σ F M H ds vs Q s r h
  unfold gAll at h
  split at h
  · rename_i d
    obtain ⟨v, rfl, rv⟩ := rels1 r
    cases e1 : rdLst M d with
    | none => rw [e1] at h; exact h.elim
    | some xs =>
      rw [e1] at h
      cases e2 : asBls xs with
      | none => simp only [Option.bind_some, e2] at h; exact h.elim
      | some ns =>
        simp only [Option.bind_some, e2] at h
        obtain ⟨a, vs, rfl, hq, rs⟩ := rdLst_at s rv e1
        rw [asBls_eq e2] at rs
        exact ⟨a, ns, rfl, rs.bls ▸ hq, ok_of s (.bl _) h⟩
  · exact h.elim
theorem anyOk : ClOk S (rAny S.K) gAny := by
  intro R W σ F M H ds vs Q s r h
  unfold gAny at h
  split at h
  · rename_i d
    obtain ⟨v, rfl, rv⟩ := rels1 r
    cases e1 : rdLst M d with
    | none => rw [e1] at h; exact h.elim
    | some xs =>
      rw [e1] at h
      cases e2 : asBls xs with
      | none => simp only [Option.bind_some, e2] at h; exact h.elim
      | some ns =>
        simp only [Option.bind_some, e2] at h
        obtain ⟨a, vs, rfl, hq, rs⟩ := rdLst_at s rv e1
        rw [asBls_eq e2] at rs
        exact ⟨a, ns, rfl, rs.bls ▸ hq, ok_of s (.bl _) h⟩
  · exact h.elim
def rListOf (K : PySem.W.Frag) : List V → Hp → VK → Prop := fun xs H Q => ∃ p ys, xs = [V.ref p] ∧ (SqL K H p ys ∨ SqT K H p ys) ∧ ∀ l, H l = none → Q (.ref l) (upd H l (.lst ys))
theorem listOk {c : Bool} : ClOk S (rListOf S.K) (gList c) := by
  intro R W σ F M H ds vs Q s r h
  unfold gList at h
  split at h
  · rename_i d
    split at h
    · rename_i xs e
      obtain ⟨v, rfl, rv⟩ := rels1 r
      obtain ⟨a, vs, rfl, hq, rs⟩ := rdSeq_at s rv e
      exact ⟨a, vs, rfl, hq, fun l hl => fin_ok s rs h hl⟩
    · exact h.elim
  · exact h.elim
def rTupOf (K : PySem.W.Frag) : List V → Hp → VK → Prop := fun xs H Q => ∃ p ys, xs = [V.ref p] ∧ ((SqL K H p ys ∧ ∀ l, H l = none → Q (.ref l) (upd H l (.tup ys))) ∨ (SqT K H p ys ∧ Q (.ref p) H))
theorem tupleOk : ClOk S (rTupOf S.K) gTuple := by
  intro R W σ F M H ds vs Q s r h
  unfold gTuple at h
  split at h
  · obtain ⟨v, rfl, rv⟩ := rels1 r
    have rv' := rv
    cases rv with
    | tup a ds vs z e n k => exact ⟨a, vs, rfl, .inr ⟨.of e, ok_of s rv' h⟩⟩
  · split at h
    · rename_i xs e
      obtain ⟨v, rfl, rv⟩ := rels1 r
      obtain ⟨a, vs, rfl, hq, rs⟩ := rdLst_at s rv e
      exact ⟨a, vs, rfl, .inl ⟨hq, fun l hl => tup_ok s rs h hl⟩⟩
    · exact h.elim
  · exact h.elim
theorem kit_isTy {K : PySem.W.Frag} {t c : String} {b : Bool} (h : isTy t c = some b) : PySem.W.kitOne K (.type t) (.type c) = some b := by
  unfold isTy at h
  split at h
  · rename_i ht
    split at h
    · rename_i hc
      subst hc
      rcases ht with rfl | rfl | rfl | rfl | rfl | rfl | rfl <;> (cases h; rfl)
    · split at h
      · rename_i hc
        rcases hc with rfl | rfl | rfl | rfl | rfl <;> (rcases ht with rfl | rfl | rfl | rfl | rfl | rfl | rfl <;> (cases h; rfl))
      · cases h
  · cases h
theorem kit_isTys {K : PySem.W.Frag} {t : String} : ∀ {ts : List String} {b : Bool}, isTys t ts = some b → PySem.W.kitAny K (.type t) (ts.map Value.type) = some b
  | [], b, h => by cases h; rfl
  | c :: r, b, h => by
    unfold isTys at h
    show (match PySem.W.kitOne K (.type t) (.type c) with | some true => some true | some false => PySem.W.kitAny K (.type t) (r.map Value.type) | none => none) = some b
    cases e : isTy t c with
    | none => rw [e] at h; cases h
    | some k =>
      rw [e] at h
      rw [kit_isTy e]
      cases k with
      | true => exact h
      | false => exact kit_isTys (ts := r) h
theorem asTys_ok {R : Addr → Prop} {F : Ads} {M : Mem} {H : Hp} : ∀ {cs : List D} {ts : List String} {us : List V}, asTys cs = some ts → Rels S R F M H cs us → Paired ClsV us (ts.map Value.type)
  | [], ts, us, h, r => by
    cases h
    have : us = [] := List.length_eq_zero_iff.mp r.1.symm
    subst this
    exact .nil
  | .ty c :: cs, ts, us, h, r => by
    unfold asTys at h
    cases e : asTys cs with
    | none => rw [e] at h; cases h
    | some ts' =>
      rw [e] at h
      cases h
      match us, r with
      | [], r => exact absurd r.1 (by simp)
      | u :: us, r =>
        have r0 := r.2 0 _ u rfl rfl
        cases r0
        exact .cons (.ty c) (asTys_ok e ⟨by simpa using r.1, fun i d v a b => r.2 (i + 1) d v (by simpa using a) (by simpa using b)⟩)
  | .non :: _, _, _, h, _ => by cases h
  | .bl _ :: _, _, _, h, _ => by cases h
  | .int _ :: _, _, _, h, _ => by cases h
  | .str _ :: _, _, _, h, _ => by cases h
  | .tup _ :: _, _, _, h, _ => by cases h
  | .lst _ :: _, _, _, h, _ => by cases h
  | .loc _ :: _, _, _, h, _ => by cases h
  | .dct _ :: _, _, _, h, _ => by cases h
  | .exc _ _ :: _, _, _, h, _ => by cases h
  | .cls _ :: _, _, _, h, _ => by cases h
  | .scr _ :: _, _, _, h, _ => by cases h
theorem ty_at {R : Addr → Prop} {F : Ads} {M : Mem} {H : Hp} {d : D} {v : V} {t : String} (s : Sim S R F M H) (r : RelD S R F M H d v) (e : tyName M d = some t) : TyX S.K H v (.type t) := by
  cases r with
  | non => cases e; exact .base .non
  | bl b => cases e; exact .base (.bl b)
  | int i => cases e; exact .base (.int i)
  | str x => cases e; exact .base (.str x)
  | tup a ds vs z h n k => cases e; exact .base (.tup h)
  | lst a ds vs z h n k => cases e; exact .base (.lst h)
  | dct a ks kvs z h n k => cases e; exact .base (.dK h)
  | scr a ds vs z n k =>
    cases e
    rcases z with ⟨_, z | ⟨o, z⟩⟩ | z
    · exact .base (.lst z)
    · exact .base (.frz z)
    · rcases z fun _ => none with (q | ⟨o, q⟩) | ⟨o, its, m, h1, h2, _⟩
      · cases q
      · cases q
      · exact .kList h1 h2
  | loc n a f =>
    cases q : lstAt M n with
    | none =>
      have e' : (lstAt M n).map (fun _ => "list") = some t := e
      rw [q] at e'; cases e'
    | some xs =>
      have e' : (lstAt M n).map (fun _ => "list") = some t := e
      rw [q] at e'
      cases e'
      obtain ⟨b, f', _, vs, h, rs⟩ := s.cell n _ (lstAt_iff.mp q)
      rw [f] at f'; cases f'
      exact .base (.lst h)
  | _ => cases e
def rIsiA (K : PySem.W.Frag) : List V → Hp → VK → Prop := fun xs H Q => rIsi K xs H Q ∨ rIsiT K xs H Q
theorem CallR.or {f : Value} {r r' : List V → Hp → VK → Prop} (h : CallR X f r) (h' : CallR X f r') : CallR X f (fun xs H Q => r xs H Q ∨ r' xs H Q) := by
  intro pins s σ H xs us Q I rs q
  rcases q with q | q
  · exact h pins s σ H xs us Q I rs q
  · exact h' pins s σ H xs us Q I rs q
theorem call_isiA : CallR X (.builtin "isinstance") (rIsiA X.K) := CallR.or call_isi call_isiT
theorem isiOk : ClOk S (rIsiA S.K) gIsi := by
  intro R W σ F M H ds vs Q s r h
  unfold gIsi at h
  split at h
  · rename_i d c
    obtain ⟨v, u, rfl, rv, ru⟩ := rels2 r
    cases ru
    cases e : tyName M d with
    | none => rw [e] at h; exact h.elim
    | some t =>
      rw [e, Option.bind_some] at h
      cases e2 : isTy t c with
      | none => rw [e2] at h; exact h.elim
      | some b =>
        rw [e2] at h
        exact .inl ⟨v, _, _, _, b, rfl, .ty c, ty_at s rv e, kit_isTy e2, ok_of s (.bl _) h⟩
  · rename_i d cs
    obtain ⟨v, u, rfl, rv, ru⟩ := rels2 r
    cases e0 : asTys cs with
    | none => rw [e0] at h; exact h.elim
    | some ts =>
      rw [e0, Option.bind_some] at h
      cases e : tyName M d with
      | none => rw [e] at h; exact h.elim
      | some t =>
        rw [e, Option.bind_some] at h
        cases e2 : isTys t ts with
        | none => rw [e2] at h; exact h.elim
        | some b =>
          rw [e2] at h
          obtain ⟨a, us, rfl, ha, rs⟩ := tup_at ru
          have p : Paired ClsV us (ts.map Value.type) := asTys_ok e0 rs
          exact .inr ⟨v, a, us, _, _, b, rfl, ha, p, ty_at s rv e, kit_isTys e2, ok_of s (.bl _) h⟩
  · exact h.elim
end
end En

set_option Elab.async false
set_option linter.all false
set_option maxRecDepth 100000
/-! E5: statements. -/
namespace En
open PySem PySem.Spec L2

inductive SR where
  | nx (e : Ev) (M : Mem)
  | rt (d : D) (M : Mem)
  | bk (e : Ev) (M : Mem)
  | ct (e : Ev) (M : Mem)
  | exc (e : Ev) (c : Str) (fs : List (Str × D)) (M : Mem)
  | bad
abbrev FS := Ev → Mem → SR
abbrev FG := D → Ev → Mem → SR
def toS {α : Type} (r : Res α) (e : Ev) (k : α → Mem → SR) : SR :=
  match r with
  | .ok a M => k a M
  | .exc c fs M => .exc e c fs M
  | .bad => .bad
@[simp] theorem toS_ok {α : Type} (a : α) (M : Mem) (e : Ev) (k : α → Mem → SR) : toS (.ok a M) e k = k a M := rfl
@[simp] theorem toS_exc {α : Type} (c : Str) (fs : List (Str × D)) (M : Mem) (e : Ev) (k : α → Mem → SR) : toS (.exc c fs M) e k = .exc e c fs M := rfl
@[simp] theorem toS_bad {α : Type} (e : Ev) (k : α → Mem → SR) : toS .bad e k = .bad := rfl
def SR.andThen (r : SR) (k : Ev → Mem → SR) : SR := match r with | .nx e M => k e M | r => r
@[simp] theorem SR.then_nx (e : Ev) (M : Mem) (k : Ev → Mem → SR) : (SR.nx e M).andThen k = k e M := rfl
@[simp] theorem SR.then_rt (d : D) (M : Mem) (k : Ev → Mem → SR) : (SR.rt d M).andThen k = .rt d M := rfl
@[simp] theorem SR.then_bk (e : Ev) (M : Mem) (k : Ev → Mem → SR) : (SR.bk e M).andThen k = .bk e M := rfl
@[simp] theorem SR.then_ct (e : Ev) (M : Mem) (k : Ev → Mem → SR) : (SR.ct e M).andThen k = .ct e M := rfl
@[simp] theorem SR.then_exc (e : Ev) (c : Str) (fs : List (Str × D)) (M : Mem) (k : Ev → Mem → SR) : (SR.exc e c fs M).andThen k = .exc e c fs M := rfl
@[simp] theorem SR.then_bad (k : Ev → Mem → SR) : SR.bad.andThen k = .bad := rfl

/-- a target stores or raises, nothing else -/
def SR.only (r : SR) : SR := match r with | .nx e M => .nx e M | .exc e c fs M => .exc e c fs M | _ => .bad
@[simp] theorem SR.only_nx (e : Ev) (M : Mem) : (SR.nx e M).only = .nx e M := rfl
@[simp] theorem SR.only_exc (e : Ev) (c : Str) (fs : List (Str × D)) (M : Mem) : (SR.exc e c fs M).only = .exc e c fs M := rfl
@[simp] theorem SR.only_bad : SR.bad.only = .bad := rfl
def PostS (S : Sur) (R : Addr → Prop) (W : WX) (F : Ads) (M : Mem) (H : Hp) (T : Ends) : SR → Prop
  | .nx e M' => ∀ F' H' σ', Le F M H F' M' H' → Sim S R F' M' H' → RelE S R F' M' H' e σ' → T.nx σ' H'
  | .rt d M' => ∀ F' H' v, Le F M H F' M' H' → Sim S R F' M' H' → RelD S R F' M' H' d v → T.rt v H'
  | .bk e M' => ∀ F' H' σ', Le F M H F' M' H' → Sim S R F' M' H' → RelE S R F' M' H' e σ' → T.bk σ' H'
  | .ct e M' => ∀ F' H' σ', Le F M H F' M' H' → Sim S R F' M' H' → RelE S R F' M' H' e σ' → T.ct σ' H'
  | .exc e c fs M' => ∀ F' H' C d σ', Le F M H F' M' H' → Sim S R F' M' H' → RelE S R F' M' H' e σ' → S.cls c = some C → ExcD S R F' M' H' d fs → W (.ref C) d σ' H'
  | .bad => False
def rdS (S : Sur) (R : Addr → Prop) (W : WX) (f : FS) : TS := fun T σ H => ∃ F M env, Sim S R F M H ∧ RelE S R F M H env σ ∧ PostS S R W F M H T (f env M)
def GS (S : Sur) (X : Cx) (W : WX) (st : Stmt) (f : FS) : Prop := ∀ R, PS X st (rdS S R W f)
def GSs (S : Sur) (X : Cx) (W : WX) (st : List Stmt) (f : FS) : Prop := ∀ R, PSs X st (rdS S R W f)
def rdG (S : Sur) (R : Addr → Prop) (W : WX) (g : FG) : TG := fun v σ H Q => ∃ F M env d, Sim S R F M H ∧ RelE S R F M H env σ ∧ RelD S R F M H d v ∧ PostS S R W F M H { nx := Q, rt := fun _ _ => False } (g d env M)
def GG (S : Sur) (X : Cx) (W : WX) (tg : Expr) (g : FG) : Prop := ∀ R, PG X tg (rdG S R W g)

section
variable {S : Sur} {R : Addr → Prop} {W : WX} {F F1 : Ads} {M M1 : Mem} {H H1 : Hp} {T T' : Ends}
theorem PostS.from {r : SR} (h : PostS S R W F M H T r) (l : Le F M H F1 M1 H1) : PostS S R W F1 M1 H1 T r := by
  cases r with
  | nx e M' => exact fun F' H' σ' l' s r => h F' H' σ' (l.trans l') s r
  | rt d M' => exact fun F' H' v l' s r => h F' H' v (l.trans l') s r
  | bk e M' => exact fun F' H' σ' l' s r => h F' H' σ' (l.trans l') s r
  | ct e M' => exact fun F' H' σ' l' s r => h F' H' σ' (l.trans l') s r
  | exc e c fs M' => exact fun F' H' C d σ' l' s r => h F' H' C d σ' (l.trans l') s r
  | bad => exact h
/-- a statement's part: what comes out of r, at the slots of env -/
theorem PostS.part {α : Type} {r : Res α} {env : Ev} {σ : L2.St} {k : α → Mem → SR} (h : PostS S R W F M H T (toS r env k)) (e : RelE S R F M H env σ) :
    Post S R W σ F M H (fun F' M' H' a => PostS S R W F' M' H' T (k a M')) r := by
  cases r with
  | ok a M' => exact fun F' H' l s => PostS.from h l
  | exc c fs M' => exact fun F' H' C d l s q x => h F' H' C d σ l s (e.mono l) q x
  | bad => exact h
theorem PostS.seq {r : SR} {k : FS} (h : PostS S R W F M H T (r.andThen k)) : PostS S R W F M H { T with nx := rdS S R W k T } r := by
  cases r with
  | nx e M' => exact fun F' H' σ' l s r => ⟨F', M', e, s, r, PostS.from h l⟩
  | rt d M' => exact h
  | bk e M' => exact h
  | ct e M' => exact h
  | exc e c fs M' => exact h
  | bad => exact h
theorem RelE.set {env : Ev} {σ : L2.St} {d : D} {v : V} (i : Nat) (h : RelE S R F M H env σ) (r : RelD S R F M H d v) : RelE S R F M H (env.set i (some d)) (σ.set i (some v)) := by
  refine ⟨by simp [h.1], fun j d' e => ?_⟩
  by_cases hj : i = j
  · subst hj
    rw [List.getElem?_set] at e
    split at e
    · rename_i z
      split at e
      · rename_i hl
        cases e
        refine ⟨v, ?_, r⟩
        rw [List.getElem?_set_self (h.1 ▸ hl)]
      · cases e
    · rename_i z; exact absurd rfl z
  · rw [List.getElem?_set_ne hj] at e
    rw [List.getElem?_set_ne hj]
    exact h.2 j d' e
theorem RelE.drop1 {env : Ev} {σ : L2.St} (i : Nat) (h : RelE S R F M H env σ) : RelE S R F M H (env.set i none) (σ.set i none) := by
  refine ⟨by simp [h.1], fun j d' e => ?_⟩
  by_cases hj : i = j
  · subst hj
    rw [List.getElem?_set] at e
    split at e
    · split at e <;> cases e
    · rename_i z; exact absurd rfl z
  · rw [List.getElem?_set_ne hj] at e
    rw [List.getElem?_set_ne hj]
    exact h.2 j d' e
end
theorem PostS.only {S : Sur} {R : Addr → Prop} {W : WX} {F : Ads} {M : Mem} {H : Hp} {T : Ends} {r : SR} (h : PostS S R W F M H T r.only) : PostS S R W F M H { nx := T.nx, rt := fun _ _ => False } r := by
  cases r with
  | nx e M' => exact h
  | exc e c fs M' => exact h
  | _ => exact h.elim
section
variable {X : Cx}
theorem PS_imp {st : Stmt} {t t' : TS} (h : PS X st t) (k : ∀ T σ H, t' T σ H → t T σ H) : PS X st t' := ⟨fun pins s σ H T I q => h.run pins s σ H T I (k T σ H q)⟩
theorem PSs_imp {st : List Stmt} {t t' : TS} (h : PSs X st t) (k : ∀ T σ H, t' T σ H → t T σ H) : PSs X st t' := ⟨fun pins s σ H T I q => h.run pins s σ H T I (k T σ H q)⟩
theorem PG_imp {e : Expr} {t t' : TG} (h : PG X e t) (k : ∀ v σ H Q, t' v σ H Q → t v σ H Q) : PG X e t' := ⟨fun pins s σ H v u Q I r q => h.run pins s σ H v u Q I r (k v σ H Q q)⟩
theorem PGs_imp {e : List Expr} {t t' : TGs} (h : PGs X e t) (k : ∀ v σ H Q, t' v σ H Q → t v σ H Q) : PGs X e t' := ⟨fun pins s σ H v u Q I r q => h.run pins s σ H v u Q I r (k v σ H Q q)⟩
theorem PI_imp {tg e : Expr} {t t' : TI} (h : PI X tg e t) (k : ∀ σ H Q, t' σ H Q → t σ H Q) : PI X tg e t' := ⟨fun pins s σ H Q I q => h.run pins s σ H Q I (k σ H Q q)⟩
end

/-! ### functions of statements -/
def sSeq (f g : FS) : FS := fun e M => (f e M).andThen g
def sNext : FS := fun e M => .nx e M
def sAsg (f : FE D) (g : FG) : FS := fun e M => toS (f e M) e fun d M1 => (g d e M1).only
def sExpr (f : FE D) : FS := fun e M => toS (f e M) e fun _ M1 => .nx e M1
def sRet (f : FE D) : FS := fun e M => toS (f e M) e fun d M1 => .rt d M1
def sRetN : FS := fun _ M => .rt .non M
def sIf (c : FE Bool) (f g : FS) : FS := fun e M => toS (c e M) e fun b M1 => if b = true then f e M1 else g e M1
def sBreak : FS := fun e M => .bk e M
def sCont : FS := fun e M => .ct e M
def gName (i : Nat) : FG := fun d e M => .nx (e.set i (some d)) M
def gNil : List D → Ev → Mem → SR := fun ds e M => match ds with | [] => .nx e M | _ => .bad
def gCons (g : FG) (r : List D → Ev → Mem → SR) : List D → Ev → Mem → SR := fun ds e M => match ds with | d :: ds => (g d e M).andThen fun e1 M1 => r ds e1 M1 | [] => .bad
def gTupT (n : Nat) (r : List D → Ev → Mem → SR) : FG := fun d e M => match d with | .tup ds => if ds.length = n then r ds e M else .bad | .lst ds => if ds.length = n then r ds e M else .bad | .loc m => (match lstAt M m with | some ds => if ds.length = n then r ds e M else .bad | none => .bad) | _ => .bad
def putAt (M : Mem) (o i v : D) : Option Mem :=
  match o, i with
  | .loc n, .int k => match lstAt M n with
    | some xs => (ixN xs.length k).map fun j => M.set n (some (.lst (xs.set j v)))
    | none => none
  | .loc n, .str s => match dicAt M n with
    | some ks => if (ks.lookup s).isSome = true ∧ ks.length < 1000 then some (M.set n (some (.dic (putM s v ks)))) else none
    | none => none
  | _, _ => none
def gSubT (fo fi : FE D) : FG := fun d e M => toS (fo e M) e fun o M1 => toS (fi e M1) e fun i M2 => match putAt M2 o i d with | some M3 => .nx e M3 | none => .bad
def sPar (i j : Nat) (f : FE (List D)) : FS := fun e M => toS (f e M) e fun ds M1 => match ds with | [a, b] => .nx ((e.set i (some a)).set j (some b)) M1 | _ => .bad
def sPar3 (i j k : Nat) (f : FE (List D)) : FS := fun e M => toS (f e M) e fun ds M1 => match ds with | [a, b, c] => .nx (((e.set i (some a)).set j (some b)).set k (some c)) M1 | _ => .bad
def sAug (g : D → D → Mem → Res D) (i : Nat) (f : FE D) : FS := fun e M => match e[i]? with
  | some (some x) => toS (f e M) e fun y M1 => toS (g x y M1) e fun z M2 => .nx (e.set i (some z)) M2
  | _ => .bad
def whileN (c : FE Bool) (f : FS) : Nat → Ev → Mem → Option SR
  | 0, _, _ => none
  | n + 1, e, M => match c e M with
    | .ok true M1 => match f e M1 with
      | .nx e2 M2 => whileN c f n e2 M2
      | .ct e2 M2 => whileN c f n e2 M2
      | .bk e2 M2 => some (.nx e2 M2)
      | r => some r
    | .ok false M1 => some (.nx e M1)
    | .exc k fs M1 => some (.exc e k fs M1)
    | .bad => some .bad
open Classical in
noncomputable def sWhile (c : FE Bool) (f : FS) : FS := fun e M => if h : ∃ r n, whileN c f n e M = some r then h.choose else .bad

theorem whileN_mono {c : FE Bool} {f : FS} : ∀ {n : Nat} {e : Ev} {M : Mem} {r : SR} (k : Nat), whileN c f n e M = some r → whileN c f (n + k) e M = some r
  | 0, _, _, _, _, h => by cases h
  | n + 1, e, M, r, k, h => by
    have en : n + 1 + k = (n + k) + 1 := by omega
    rw [en]
    unfold whileN at h ⊢
    cases q : c e M with
    | ok b M1 =>
      rw [q] at h
      cases b with
      | true =>
        simp only at h ⊢
        cases q2 : f e M1 with
        | nx e2 M2 => rw [q2] at h; simp only at h ⊢; exact whileN_mono k h
        | ct e2 M2 => rw [q2] at h; simp only at h ⊢; exact whileN_mono k h
        | _ => rw [q2] at h; exact h
      | false => exact h
    | exc => rw [q] at h; exact h
    | bad => rw [q] at h; exact h
theorem sWhile_eq {c : FE Bool} {f : FS} {n : Nat} {e : Ev} {M : Mem} {r : SR} (h : whileN c f n e M = some r) : sWhile c f e M = r := by
  unfold sWhile
  have ex : ∃ r n, whileN c f n e M = some r := ⟨r, n, h⟩
  rw [dif_pos ex]
  obtain ⟨m, hm⟩ := ex.choose_spec
  have h1 := whileN_mono m h
  have h2 := whileN_mono n hm
  rw [Nat.add_comm m n, h1] at h2
  exact (Option.some.inj h2).symm
theorem sWhile_no {c : FE Bool} {f : FS} {e : Ev} {M : Mem} (h : ¬ ∃ r n, whileN c f n e M = some r) : sWhile c f e M = .bad := by
  unfold sWhile
  rw [dif_neg h]
/-- one turn -/
theorem sWhile_unfold {c : FE Bool} {f : FS} {e : Ev} {M : Mem} : sWhile c f e M = match c e M with
    | .ok true M1 => (match f e M1 with
      | .nx e2 M2 => sWhile c f e2 M2
      | .ct e2 M2 => sWhile c f e2 M2
      | .bk e2 M2 => .nx e2 M2
      | r => r)
    | .ok false M1 => .nx e M1
    | .exc k fs M1 => .exc e k fs M1
    | .bad => .bad := by
  have go : ∀ (e2 : Ev) (M2 : Mem), (∀ n, whileN c f (n + 1) e M = whileN c f n e2 M2) → sWhile c f e M = sWhile c f e2 M2 := fun e2 M2 k => by
    by_cases h : ∃ r n, whileN c f n e2 M2 = some r
    · obtain ⟨r, n, h⟩ := h
      rw [sWhile_eq h, sWhile_eq ((k n).trans h)]
    · rw [sWhile_no h, sWhile_no]
      rintro ⟨r, n, h'⟩
      refine h ⟨r, n, ?_⟩
      rw [← k n]
      exact whileN_mono 1 h'
  cases q : c e M with
  | ok b M1 =>
    cases b with
    | true =>
      simp only
      cases q2 : f e M1 with
      | nx e2 M2 => exact go e2 M2 fun n => by rw [whileN, q]; simp only [q2]
      | ct e2 M2 => exact go e2 M2 fun n => by rw [whileN, q]; simp only [q2]
      | bk e2 M2 => exact sWhile_eq (n := 1) (by rw [whileN, q]; simp only [q2])
      | rt d M2 => exact sWhile_eq (n := 1) (by rw [whileN, q]; simp only [q2])
      | exc e2 k fs M2 => exact sWhile_eq (n := 1) (by rw [whileN, q]; simp only [q2])
      | bad => exact sWhile_eq (n := 1) (by rw [whileN, q]; simp only [q2])
    | false => exact sWhile_eq (n := 1) (by rw [whileN, q])
  | exc k fs M1 => exact sWhile_eq (n := 1) (by rw [whileN, q])
  | bad => exact sWhile_eq (n := 1) (by rw [whileN, q])

section
variable {S : Sur} {X : Cx} {W : WX} {st : Stmt} {rest : List Stmt} {f g : FS} {e : Expr} {fe : FE D} {pos : Pos}
theorem gs_cons (h1 : GS S X W st f) (h2 : GSs S X W rest g) : GSs S X W (st :: rest) (sSeq f g) := fun R => by
  refine PSs_imp (pss_cons (h1 R) (h2 R)) fun T σ H ⟨F, M, env, s, r, h⟩ => ?_
  exact ⟨F, M, env, s, r, PostS.seq h⟩
theorem gs_one (h1 : GS S X W st f) : GSs S X W [st] f := fun R => pss_one (h1 R)
theorem gs_nil : GSs S X W [] sNext := fun R => PSs_imp pss_nil fun T σ H ⟨F, M, env, s, r, h⟩ => h F H σ .refl s r
theorem gs_pass : GS S X W (.Pass pos) sNext := fun R => PS_imp ps_pass fun T σ H ⟨F, M, env, s, r, h⟩ => h F H σ .refl s r
theorem gs_break : GS S X W (.Break pos) sBreak := fun R => PS_imp ps_break fun T σ H ⟨F, M, env, s, r, h⟩ => h F H σ .refl s r
theorem gs_cont : GS S X W (.Continue pos) sCont := fun R => PS_imp ps_continue fun T σ H ⟨F, M, env, s, r, h⟩ => h F H σ .refl s r
theorem gs_doc {x : Str} {j : Nat} {p2 : Pos} : GS S X W (.Expr (.Constant (.str x) j pos) p2) sNext := fun R => PS_imp ps_doc fun T σ H ⟨F, M, env, s, r, h⟩ => h F H σ .refl s r
theorem gs_ret (he : GE S X W e fe) : GS S X W (.Return (some e) pos) (sRet fe) := fun R => by
  refine PS_imp (ps_ret (he R)) fun T σ H ⟨F, M, env, s, r, h⟩ => ⟨F, M, env, s, r, (PostS.part h r).mono fun F1 M1 H1 d l1 s1 h1 v rv => ?_⟩
  exact h1 F1 H1 v .refl s1 rv
theorem gs_retN : GS S X W (.Return none pos) sRetN := fun R => PS_imp ps_retN fun T σ H ⟨F, M, env, s, r, h⟩ => h F H .non .refl s .non
theorem gs_expr (he : GE S X W e fe) (hs : swapsWith e none pos.line X.env = pure false) : GS S X W (.Expr e pos) (sExpr fe) := fun R => by
  refine PS_imp (ps_expr (he R) hs) fun T σ H ⟨F, M, env, s, r, h⟩ => ⟨F, M, env, s, r, (PostS.part h r).mono fun F1 M1 H1 d l1 s1 h1 v rv => ?_⟩
  exact h1 F1 H1 σ .refl s1 (r.mono l1)
theorem gs_if {c : Expr} {a b : List Stmt} {fc : FE Bool} (hc : GT S X W c fc) (ha : GSs S X W a f) (hb : GSs S X W b g) : GS S X W (.If c a b pos) (sIf fc f g) := fun R => by
  refine PS_imp (ps_if (hc R) (ha R) (hb R)) fun T σ H ⟨F, M, env, s, r, h⟩ => ⟨F, M, env, s, r, (PostS.part h r).mono fun F1 M1 H1 b l1 s1 h1 => ?_⟩
  cases b with
  | true => exact (show rdS S R W f T σ H1 from ⟨F1, M1, env, s1, r.mono l1, h1⟩)
  | false => exact (show rdS S R W g T σ H1 from ⟨F1, M1, env, s1, r.mono l1, h1⟩)
/-! targets -/
theorem gg_name {i : Nat} {x : Str} (hN : X.N.Nodup) (hi : X.N[i]? = some x) (hx : Loc X.env.scope x) (hf : X.fn x = true ∨ X.env.scope.names.lookup x = some .local) : GG S X W (.Name x pos) (gName i) := fun R =>
  PG_imp (pg_name hN hi hx hf) fun v σ H Q ⟨F, M, env, d, s, r, rv, h⟩ => h F H _ .refl s (r.set i rv)
def rdGs (S : Sur) (R : Addr → Prop) (W : WX) (g : List D → Ev → Mem → SR) : TGs := fun vs σ H Q => ∃ F M env ds, Sim S R F M H ∧ RelE S R F M H env σ ∧ Rels S R F M H ds vs ∧ PostS S R W F M H { nx := Q, rt := fun _ _ => False } (g ds env M)
def GGs (S : Sur) (X : Cx) (W : WX) (ts : List Expr) (g : List D → Ev → Mem → SR) : Prop := ∀ R, PGs X ts (rdGs S R W g)
theorem ggs_nil : GGs S X W [] gNil := fun R => PGs_imp pgs_nil fun vs σ H Q ⟨F, M, env, ds, s, r, rv, h⟩ => by
  cases ds with
  | nil => exact ⟨List.length_eq_zero_iff.mp rv.1.symm, h F H σ .refl s r⟩
  | cons => exact h.elim
theorem ggs_cons {es : List Expr} {t : FG} {u : List D → Ev → Mem → SR} (h1 : GG S X W e t) (h2 : GGs S X W es u) (hs : (assignEach (e :: es) X.env).map (·.2) = assign e X.env :: (assignEach es X.env).map (·.2)) : GGs S X W (e :: es) (gCons t u) := fun R => by
  refine PGs_imp (pgs_cons (h1 R) (h2 R) hs) fun vs σ H Q ⟨F, M, env, ds, s, r, rv, h⟩ => ?_
  cases ds with
  | nil => exact h.elim
  | cons d ds =>
    match vs, rv with
    | [], rv => exact absurd rv.1 (by simp)
    | v :: vs, rv =>
      have rt : Rels S R F M H ds vs := ⟨by simpa using rv.1, fun i d v a b => rv.2 (i + 1) d v (by simpa using a) (by simpa using b)⟩
      refine ⟨v, vs, rfl, F, M, env, d, s, r, rv.2 0 d v rfl rfl, ?_⟩
      have h' : PostS S R W F M H { nx := Q, rt := fun _ _ => False } ((t d env M).andThen fun e1 M1 => u ds e1 M1) := h
      cases q : t d env M with
      | nx e1 M1 =>
        rw [q] at h'
        exact fun F' H' σ' l' s' r' => ⟨F', M1, e1, ds, s', r', rt.mono l', PostS.from h' l'⟩
      | rt => rw [q] at h'; exact h'
      | bk => rw [q] at h'; exact h'
      | ct => rw [q] at h'; exact h'
      | exc => rw [q] at h'; exact h'
      | bad => rw [q] at h'; exact h'
theorem PG_or {X : Cx} {e : Expr} {t u : TG} (h : PG X e t) (g : PG X e u) : PG X e (fun v σ H Q => t v σ H Q ∨ u v σ H Q) := ⟨fun pins s σ H v w Q I r q => q.elim (h.run pins s σ H v w Q I r) (g.run pins s σ H v w Q I r)⟩
theorem gg_tup {es : List Expr} {k n : Nat} {u : List D → Ev → Mem → SR} (hK : S.K = X.K) (hc : X.calm = true) (h : GGs S X W es u) (hn : (assignEach es X.env).length = n) (hst : (assignEach es X.env).findIdx? (·.1) = none) : GG S X W (.Tuple es k pos) (gTupT n u) := fun R => by
  refine PG_imp (PG_or (pg_tup hc (h R) hn hst) (pg_unl hc (h R) hn hst)) fun v σ H Q ⟨F, M, env, d, s, r, rv, h⟩ => ?_
  cases rv with
  | tup a ds vs z q l k =>
    have h' : PostS S R W F M H { nx := Q, rt := fun _ _ => False } (if ds.length = n then u ds env M else .bad) := h
    split at h'
    · rename_i hl
      exact .inl ⟨a, vs, rfl, .of q, l ▸ hl, F, M, env, ds, s, r, ⟨l, k⟩, h'⟩
    · exact h'.elim
  | lst a ds vs z q l k =>
    have h' : PostS S R W F M H { nx := Q, rt := fun _ _ => False } (if ds.length = n then u ds env M else .bad) := h
    split at h'
    · rename_i hl
      exact .inr ⟨a, vs, rfl, .of (z.at .refl q), l ▸ hl, F, M, env, ds, s, r, ⟨l, k⟩, h'⟩
    · exact h'.elim
  | loc m a f =>
    have h' : PostS S R W F M H { nx := Q, rt := fun _ _ => False } (match lstAt M m with | some ds => if ds.length = n then u ds env M else .bad | none => .bad) := h
    cases q : lstAt M m with
    | none => rw [q] at h'; exact h'.elim
    | some ds =>
      rw [q] at h'
      simp only at h'
      split at h'
      · rename_i hl
        obtain ⟨b, f', _, vs, hb, rs⟩ := s.cell m _ (lstAt_iff.mp q)
        rw [f] at f'; cases f'
        exact .inr ⟨a, vs, rfl, .of hb, rs.1 ▸ hl, F, M, env, ds, s, r, rs, h'⟩
      · exact h'.elim
  | _ => exact h.elim
/-- the cell n is changed -/
theorem Sim.put {R : Addr → Prop} {F : Ads} {M : Mem} {H : Hp} {n : Nat} {a : Addr} {c c' : Cell} {o : HO} (s : Sim S R F M H) (hn : M[n]? = some (some c)) (hF : F[n]? = some a)
    (hc : Le F M H F (M.set n (some c')) (upd H a o) → CellAt S R F (M.set n (some c')) (upd H a o) a c') : Sim S R F (M.set n (some c')) (upd H a o) ∧ Le F M H F (M.set n (some c')) (upd H a o) := by
  have hl : n < M.length := (List.getElem?_eq_some_iff.mp hn).1
  have old : ∀ (m : Nat) (d : Cell), (M.set n (some c'))[m]? = some (some d) → (m = n ∧ d = c') ∨ (m ≠ n ∧ M[m]? = some (some d)) := fun m d e => by
    by_cases hm : n = m
    · subst hm
      rw [List.getElem?_set_self hl] at e
      cases e; exact .inl ⟨rfl, rfl⟩
    · rw [List.getElem?_set_ne hm] at e
      exact .inr ⟨fun z => hm z.symm, e⟩
  have la : Liv F M a := ⟨n, c, hF, hn⟩
  have le : Le F M H F (M.set n (some c')) (upd H a o) := by
    refine ⟨fun _ _ e => e, fun x ⟨m, d, e1, e2⟩ => ?_, fun x u e nl => ?_, fun x ⟨u, e⟩ => ?_⟩
    · rcases old m d e2 with ⟨rfl, _⟩ | ⟨_, e3⟩
      · rw [hF] at e1; cases e1; exact .inl la
      · exact .inl ⟨m, d, e1, e3⟩
    · rw [upd_ne (fun z : x = a => nl (by rw [z]; exact la))]; exact e
    · by_cases hx : x = a
      · exact ⟨o, by rw [hx]; exact upd_same⟩
      · exact ⟨u, by rw [upd_ne hx]; exact e⟩
  refine ⟨⟨by simp [s.len], fun m d e => ?_, fun m1 m2 c1 c2 x e1 e2 f1 f2 => ?_, fun x r => le.there x (s.res x r)⟩, le⟩
  · rcases old m d e with ⟨rfl, rfl⟩ | ⟨hm, e3⟩
    · obtain ⟨b, e1, nr, _⟩ := s.cell m c hn
      rw [hF] at e1; cases e1
      exact ⟨a, hF, nr, hc le⟩
    · obtain ⟨b, e1, nr, h⟩ := s.cell m d e3
      have hba : b ≠ a := fun z => hm (s.inj m n d c a e3 hn (z ▸ e1) hF)
      refine ⟨b, e1, nr, h.mono le (fun u q => by rw [upd_ne hba]; exact q) fun dx q => ?_⟩
      rw [upd_ne fun z => ?_]
      · exact q
      · obtain ⟨a', f', _, ha⟩ := s.cell n c hn
        rw [hF] at f'; cases f'
        rw [z] at q
        cases c with
        | lst ds => obtain ⟨vs, h1, _⟩ := ha; rw [h1] at q; cases q
        | ins c fs => obtain ⟨C, dx, gs, _, h1, _⟩ := ha; rw [h1] at q; cases q
        | dic ks => obtain ⟨kvs, h1, _⟩ := ha; rw [h1] at q; cases q
  · have w : ∀ (m : Nat) (d : Cell), (M.set n (some c'))[m]? = some (some d) → ∃ d', M[m]? = some (some d') := fun m d e => by
      rcases old m d e with ⟨rfl, _⟩ | ⟨_, e3⟩
      · exact ⟨c, hn⟩
      · exact ⟨d, e3⟩
    obtain ⟨c1', g1⟩ := w m1 c1 e1
    obtain ⟨c2', g2⟩ := w m2 c2 e2
    exact s.inj m1 m2 c1' c2' x g1 g2 f1 f2
/-- a list in a cell becomes another one -/
theorem Sim.putL {R : Addr → Prop} {F : Ads} {M : Mem} {H : Hp} {n : Nat} {a : Addr} {xs ys : List D} {us : List V} (s : Sim S R F M H) (hn : M[n]? = some (some (.lst xs))) (hF : F[n]? = some a) (r : Rels S R F M H ys us) :
    Sim S R F (M.set n (some (.lst ys))) (upd H a (.lst us)) ∧ Le F M H F (M.set n (some (.lst ys))) (upd H a (.lst us)) :=
  s.put hn hF fun le => ⟨us, upd_same, r.mono le⟩
theorem loc_at {R : Addr → Prop} {F : Ads} {M : Mem} {H : Hp} {n : Nat} {v : V} {xs : List D} (s : Sim S R F M H) (r : RelD S R F M H (.loc n) v) (e : lstAt M n = some xs) : ∃ a vs, v = .ref a ∧ F[n]? = some a ∧ H a = some (.lst vs) ∧ Rels S R F M H xs vs := by
  cases r with
  | loc n a f =>
    obtain ⟨b, f', _, vs, h, rs⟩ := s.cell n _ (lstAt_iff.mp e)
    rw [f] at f'; cases f'
    exact ⟨a, vs, rfl, f, h, rs⟩
theorem pset_or {X : Cx} {t u : TSet} (h : PSet X t) (g : PSet X u) : PSet X (fun o i v H Q => t o i v H Q ∨ u o i v H Q) := fun pins s σ H o i v ov iv w Q I r1 r2 r3 q => q.elim (h pins s σ H o i v ov iv w Q I r1 r2 r3) (g pins s σ H o i v ov iv w Q I r1 r2 r3)
theorem gg_sub (hu : X.A.units + 1 < cLine) {o i : Expr} {fo fi : FE D} (ho : GE S X W o fo) (hi : GE S X W i fi) (ha : ∀ v, assign (.Subscript o i pos) X.env v = (do
      let ov ← holding [v] (eval o X.env)
      let iv ← holding [v, ov] (eval i X.env)
      standAt pos
      holding [v, ov, iv] (setItem ov iv v)
      release [v, ov, iv] [])) : GG S X W (.Subscript o i pos) (gSubT fo fi) := fun R => by
  refine PG_imp (pg_sub (ho R) (hi R) (pset_or set_list (set_dict hu)) ha) fun v σ H Q ⟨F, M, env, d, s, r, rv, h⟩ => ?_
  refine ⟨F, M, env, s, r, (PostS.part h r).mono fun F1 M1 H1 od l1 s1 h1 ov ro => ?_⟩
  refine ⟨F1, M1, env, s1, r.mono l1, (PostS.part h1 (r.mono l1)).mono fun F2 M2 H2 id l2 s2 h2 iv ri => ?_⟩
  cases q : putAt M2 od id d with
  | none => rw [q] at h2; exact h2.elim
  | some M3 =>
    rw [q] at h2
    have ro2 := ro.mono l2
    have rv2 := (rv.mono l1).mono l2
    have rE := (r.mono l1).mono l2
    unfold putAt at q
    split at q
    · rename_i n k
      cases e1 : lstAt M2 n with
      | none => rw [e1] at q; cases q
      | some xs =>
        rw [e1] at q
        simp only at q
        cases e2 : ixN xs.length k with
        | none => rw [e2] at q; cases q
        | some j =>
          rw [e2] at q
          cases q
          obtain ⟨a, vs, rfl, hF, hH, rs⟩ := loc_at s2 ro2 e1
          cases int_at ri
          obtain ⟨s3, l3⟩ := s2.putL (lstAt_iff.mp e1) hF (rs.set j rv2)
          exact .inl ⟨a, vs, k, j, rfl, rfl, hH, by rw [← rs.1]; exact e2, h2 F2 _ σ l3 s3 (rE.mono l3)⟩
    · rename_i n t
      cases e1 : dicAt M2 n with
      | none => rw [e1] at q; cases q
      | some ks =>
        rw [e1] at q
        simp only at q
        split at q
        · rename_i hk
          cases q
          obtain ⟨a, kvs, rfl, hF, hH, k1, k2⟩ := dic_at s2 ro2 e1
          cases str_at ri
          obtain ⟨w, hw⟩ := Option.isSome_iff_exists.mp hk.1
          obtain ⟨z, hz, _⟩ := dic_get k1 k2 hw
          have hl : kvs.length < 1000 := by
            have : kvs.length = ks.length := by simpa using congrArg List.length k1
            rw [this]; exact hk.2
          have pk : putK kvs (Sum.inr t : Key) v = kvs.map fun kv => if kv.1 = (Sum.inr t : Key) then (kv.1, v) else kv := by
            unfold putK
            rw [valV_any, hz]; rfl
          obtain ⟨s3, l3⟩ := s2.put (c' := .dic (putM t d ks)) (o := .dK (kvs.map fun kv => if kv.1 = (Sum.inr t : Key) then (kv.1, v) else kv)) (dicAt_iff.mp e1) hF fun le => by
            obtain ⟨p1, p2⟩ := dic_put (s := t) (rv2.mono le) k1 (k2.mono le)
            exact ⟨_, upd_same, p1, p2⟩
          have dp := DPut.k (k := Sum.inr t) (v := v) hH (Nat.lt_trans hl (by decide))
          rw [pk] at dp
          exact .inr ⟨a, _, rfl, dp, h2 F2 _ σ l3 s3 (rE.mono l3)⟩
        · cases q
    · cases q
theorem gs_asg {tg : Expr} {t : FG} (he : GE S X W e fe) (hg : GG S X W tg t) (hs : swapsWithSole [tg] e pos.line X.env = pure false) (hw : swappedStores [tg] e X.env = pure none) (h1 : (assignEach [tg] X.env).map (·.2) = [assign tg X.env]) : GS S X W (.Assign [tg] e pos) (sAsg fe t) := fun R => by
  refine PS_imp (ps_asg (he R) (hg R) hs hw h1) fun T σ H ⟨F, M, env, s, r, h⟩ => ⟨F, M, env, s, r, (PostS.part h r).mono fun F1 M1 H1 d l1 s1 h1 v rv => ?_⟩
  exact ⟨F1, M1, env, d, s1, r.mono l1, rv, PostS.only h1⟩
theorem vals_par {R : Addr → Prop} {F : Ads} {M : Mem} {H : Hp} {ds : List D} {vs : List V} {a b : D} (r : Rels S R F M H ds vs) (e : ds = [a, b]) : ∃ v u, vs = [v, u] ∧ RelD S R F M H a v ∧ RelD S R F M H b u := by
  subst e; exact rels2 r
theorem gs_par {i j : Nat} {x y : Str} {a b : Expr} {fa : FE (List D)} {px py pt : Pos} {kt k2 : Nat} {pt2 : Pos} (hc : X.calm = true) (hN : X.N.Nodup) (hi : X.N[i]? = some x) (hj : X.N[j]? = some y) (hij : i ≠ j)
    (hx : X.env.scope.names.lookup x = some .local) (hy : X.env.scope.names.lookup y = some .local) (ha : GA S X W [a, b] fa)
    (hw : swappedStores [.Tuple [.Name x px, .Name y py] kt pt] (.Tuple [a, b] k2 pt2) X.env = pure (some [x, y]))
    (hs : swapsWithSole [.Tuple [.Name x px, .Name y py] kt pt] (.Tuple [a, b] k2 pt2) pos.line X.env = pure false) :
    GS S X W (.Assign [.Tuple [.Name x px, .Name y py] kt pt] (.Tuple [a, b] k2 pt2) pos) (sPar i j fa) := fun R => by
  refine PS_imp (ps_par hc hN hi hj hij hx hy (ha R) hw hs) fun T σ H ⟨F, M, env, s, r, h⟩ => ⟨F, M, env, s, r, (PostS.part h r).mono fun F1 M1 H1 ds l1 s1 h1 vs rs => ?_⟩
  match ds, h1, rs with
  | [a, b], h1, rs =>
    obtain ⟨v, u, rfl, rv, ru⟩ := rels2 rs
    exact ⟨v, u, rfl, h1 F1 H1 _ .refl s1 (((r.mono l1).set i rv).set j ru)⟩
  | [], h1, _ => exact h1.elim
  | [_], h1, _ => exact h1.elim
  | _ :: _ :: _ :: _, h1, _ => exact h1.elim
/-- an operation in place on a local -/
def IpOk (S : Sur) (t : TIp) (g : D → D → Mem → Res D) : Prop := OpOk S t g
theorem gs_aug {i : Nat} {x : Str} {op : Operator} {t : TIp} {g : D → D → Mem → Res D} {p2 : Pos} (hN : X.N.Nodup) (hi : X.N[i]? = some x) (hx : Loc X.env.scope x) (he : GE S X W e fe) (ho : PIp X op t) (hg : OpOk S t g) (hf : X.fn x = true ∨ X.env.scope.names.lookup x = some .local) :
    GS S X W (.AugAssign (.Name x p2) op e pos) (sAug g i fe) := fun R => by
  refine PS_imp (ps_aug hN hi hx (he R) ho hf) fun T σ H ⟨F, M, env, s, r, h⟩ => ?_
  unfold sAug at h
  cases q : env[i]? with
  | none => rw [q] at h; exact h.elim
  | some o =>
    cases o with
    | none => rw [q] at h; exact h.elim
    | some d =>
      rw [q] at h
      obtain ⟨v, e1, rv⟩ := r.2 i d q
      refine ⟨v, e1, F, M, env, s, r, (PostS.part h r).mono fun F1 M1 H1 y l1 s1 h1 u ru => ?_⟩
      refine hg R W σ F1 M1 H1 d y v u _ s1 (rv.mono l1) ru ((PostS.part h1 (r.mono l1)).mono fun F2 M2 H2 z l2 s2 h2 w rw => ?_)
      exact h2 F2 H2 _ .refl s2 (((r.mono l1).mono l2).set i rw)
theorem gs_while {c : Expr} {body : List Stmt} {fc : FE Bool} (hp : PassesOwn (model X.prog X.w) X.A X.env X.xe) (hc : GT S X W c fc) (hb : GSs S X W body f) : GS S X W (.While c body [] pos) (sWhile fc f) := fun R => by
  refine PS_imp (ps_while hp (hc R) (hb R)) fun T σ H ⟨F, M, env, s, r, h⟩ => ?_
  by_cases ex : ∃ r n, whileN fc f n env M = some r
  · obtain ⟨res, n, hn⟩ := ex
    rw [sWhile_eq hn] at h
    refine ⟨fun m σ H => ∃ F M env res, Sim S R F M H ∧ RelE S R F M H env σ ∧ whileN fc f m env M = some res ∧ PostS S R W F M H T res, ⟨n, F, M, env, res, s, r, hn, h⟩, ?_⟩
    rintro m σ H ⟨F, M, env, res, s, r, hm, h⟩
    cases m with
    | zero => cases hm
    | succ m =>
      unfold whileN at hm
      refine ⟨F, M, env, s, r, ?_⟩
      cases q : fc env M with
      | bad =>
        rw [q] at hm
        cases hm
        exact h
      | exc k fs M1 =>
        rw [q] at hm
        cases hm
        exact fun F' H' C d l s q x => h F' H' C d σ l s (r.mono l) q x
      | ok b M1 =>
        rw [q] at hm
        intro F1 H1 l1 s1
        cases b with
        | false =>
          simp only at hm
          cases hm
          exact (show T.nx σ H1 from h F1 H1 σ l1 s1 (r.mono l1))
        | true =>
          simp only at hm
          refine ⟨fun σ' H' => ∃ F M env res, Sim S R F M H' ∧ RelE S R F M H' env σ' ∧ whileN fc f m env M = some res ∧ PostS S R W F M H' T res, fun σ' H' z => ⟨m, Nat.lt_succ_self m, z⟩, ?_⟩
          have h1 := PostS.from h l1
          refine ⟨F1, M1, env, s1, r.mono l1, ?_⟩
          cases q2 : f env M1 with
          | nx e2 M2 =>
            rw [q2] at hm
            exact fun F' H' σ' l' s' r' => ⟨F', M2, e2, res, s', r', hm, PostS.from h1 l'⟩
          | ct e2 M2 =>
            rw [q2] at hm
            exact fun F' H' σ' l' s' r' => ⟨F', M2, e2, res, s', r', hm, PostS.from h1 l'⟩
          | bk e2 M2 => rw [q2] at hm; cases hm; exact h1
          | rt d M2 => rw [q2] at hm; cases hm; exact h1
          | exc e2 k fs M2 => rw [q2] at hm; cases hm; exact h1
          | bad => rw [q2] at hm; cases hm; exact h1
  · rw [sWhile_no ex] at h
    exact h.elim
end
end En

set_option Elab.async false
set_option linter.all false
set_option maxRecDepth 100000
/-! E6: what a loop or a comprehension goes over; for; comprehensions. -/
namespace En
open PySem PySem.Spec L2

/-- what is gone over: its items; the cell that holds them, if one does (it must stay as it is) -/
structure Wd where
  src : Option Nat
  ds : List D
def Gd (w : Wd) (M : Mem) : Prop := match w.src with | none => True | some n => lstAt M n = some w.ds
@[simp] theorem Gd_none (ds : List D) (M : Mem) : Gd ⟨none, ds⟩ M = True := rfl
@[simp] theorem Gd_some (n : Nat) (ds : List D) (M : Mem) : Gd ⟨some n, ds⟩ M = (lstAt M n = some ds) := rfl
/-- J goes over w, from the world F M H on -/
def Wk (S : Sur) (R : Addr → Prop) (w : Wd) (J : It) (F : Ads) (M : Mem) (H : Hp) : Prop :=
  ∀ (R' : Addr → Prop) F' M' H', (∀ a, R a → R' a) → (∀ a, R' a → R a ∨ H a = none) → Le F M H F' M' H' → Sim S R' F' M' H' → Gd w M' →
    (∀ i, i < w.ds.length → J.go i H' ∧ ∀ x H'', J.yld i H' x H'' → Le F' M' H' F' M' H'' ∧ Sim S R' F' M' H'' ∧ ∃ d, w.ds[i]? = some d ∧ RelD S R' F' M' H'' d x) ∧ (∀ i, w.ds.length ≤ i → J.stop i H')
def rdI (S : Sur) (R : Addr → Prop) (W : WX) (f : FE Wd) : TI := fun σ H Q => ∃ F M env, Sim S R F M H ∧ RelE S R F M H env σ ∧ Post S R W σ F M H (fun F' M' H' w => ∀ J, Wk S R w J F' M' H' → Q J H') (f env M)
def GI (S : Sur) (X : Cx) (W : WX) (tg e : Expr) (f : FE Wd) : Prop := ∀ R, PI X tg e (rdI S R W f)

/-- a value gone over -/
def gWd (d : D) (M : Mem) : Res Wd :=
  match d with
  | .tup xs => .ok ⟨none, xs⟩ M
  | .lst xs => .ok ⟨none, xs⟩ M
  | .scr xs => .ok ⟨none, xs⟩ M
  | .loc n => match lstAt M n with | some xs => .ok ⟨some n, xs⟩ M | none => .bad
  | _ => .bad
def fWd (f : FE D) : FE Wd := fun env M => (f env M).bind gWd
def rngD (lo : Int) (n : Nat) : List D := (List.range n).map fun i => .int (lo + (i : Nat))
def gRng1 (ds : List D) (M : Mem) : Res Wd :=
  match ds with
  | [.int j] => if -1000000 ≤ j ∧ j ≤ 1000000 then .ok ⟨none, rngD 0 j.toNat⟩ M else .bad
  | _ => .bad
def gRng2 (ds : List D) (M : Mem) : Res Wd :=
  match ds with
  | [.int i, .int j] => if -1000000 ≤ i ∧ i ≤ 1000000 ∧ -1000000 ≤ j ∧ j ≤ 1000000 then .ok ⟨none, rngD i (j - i).toNat⟩ M else .bad
  | _ => .bad
def fWds (g : List D → Mem → Res Wd) (f : FE (List D)) : FE Wd := fun env M => (f env M).bind g
/-- reversed(x) -/
def gRev (d : D) (M : Mem) : Res Wd :=
  match d with
  | .loc n => .bad
  | d => match rdSeq M d with | some xs => .ok ⟨none, xs.reverse⟩ M | none => .bad
def fRev (f : FE D) : FE Wd := fun env M => (f env M).bind gRev
/-- enumerate(x), zip(x, y), of lists that nobody changes -/
def frzL : D → Option (List D)
  | .lst xs => some xs
  | .scr xs => some xs
  | _ => none
def enumD (n : Nat) : List D → List D
  | [] => []
  | d :: r => .tup [.int (n : Nat), d] :: enumD (n + 1) r
def gEnum (ds : List D) (M : Mem) : Res Wd :=
  match ds with
  | [.tup xs] => .ok ⟨none, enumD 0 xs⟩ M
  | [d] => match frzL d with | some xs => .ok ⟨none, enumD 0 xs⟩ M | none => .bad
  | _ => .bad
def fEnum (f : FE (List D)) : FE Wd := fun env M => (f env M).bind gEnum
def zipD : List D → List D → List D
  | x :: xs, y :: ys => .tup [x, y] :: zipD xs ys
  | _, _ => []
def gZip (ds : List D) (M : Mem) : Res Wd :=
  match ds with
  | [.tup xs, .tup ys] => .ok ⟨none, zipD xs ys⟩ M
  | [x, y] => match frzL x, frzL y with | some xs, some ys => .ok ⟨none, zipD xs ys⟩ M | _, _ => .bad
  | _ => .bad
def fZip (f : FE (List D)) : FE Wd := fun env M => (f env M).bind gZip

section
variable {S : Sur} {X : Cx} {W : WX} {tg e : Expr} {fe : FE D} {pos p : Pos}
theorem Le.nothing {F : Ads} {M : Mem} {H H' : Hp} (e : H' = H) : Le F M H F M H' := e ▸ .refl
/-- a list, or a tuple -/
def iSeq (K : PySem.W.Frag) (t : TE) : TI := fun σ H Q => t σ H fun v H1 => ∃ a xs, v = .ref a ∧ ((SqL K H1 a xs ∧ Q (Itl K a) H1) ∨ (SqT K H1 a xs ∧ Q (Itt K a) H1))
theorem pi_seq {t : TE} (h : PE X e t) : PI X tg e (iSeq X.K t) := by
  constructor
  intro pins s σ H Q I hw
  refine thn (h.run pins s σ H _ I hw) ?_
  rintro u s1 ⟨v, H1, I1, rv, a, xs, rfl, q⟩
  cases rv
  have lay : ∀ (ob : Obj), Inv X pins σ H1 { s1 with heap := s1.heap.push ob } := fun ob => I1.kept (t' := s1.toks) fun b o z => Heap.get?_push_of_some _ z
  have fp : ∀ b ∈ [s1.heap.objs.size], FpOk X pins H1 b := fun b hb => by
    rw [List.mem_singleton] at hb
    rw [hb]
    exact I1.fpOk (Nat.le_refl _) (I1.hok.fresh (Nat.le_refl _))
  rcases q with ⟨hq, q⟩ | ⟨hq, q⟩
  · obtain ⟨its, rs, pl, _⟩ := I1.list hq
    exact wpAny_pyIter_list pl.isList ⟨_, _, _, _, H1, rfl, lay _, turn_list a _, ⟨_, Heap.get?_push_size _ rfl, rfl, rfl⟩, fp, q⟩
  · obtain ⟨its, rs, pl, _⟩ := I1.tuple hq
    exact wpAny_pyIter_tuple (show s1.heap.IsTuple a its.toArray from pl) ⟨_, _, _, _, H1, rfl, lay _, turn_tuple a _, ⟨_, Heap.get?_push_size _ rfl, rfl, rfl⟩, fp, q⟩
theorem Rels.more {R R' : Addr → Prop} {F : Ads} {M : Mem} {H : Hp} {xs : List D} {vs : List V} (h : Rels S R F M H xs vs) (k : ∀ a, (∃ o, H a = some o) → R' a → R a) : Rels S R' F M H xs vs := by
  have go : ∀ {d : D} {v : V}, RelD S R F M H d v → RelD S R' F M H d v := fun {d v} r => by
    have kf : ∀ {a}, Fz S R F M H a → Fz S R' F M H a := fun z => ⟨z.nl, fun q => z.nr (k _ z.th q), z.th⟩
    induction r with
    | non => exact .non
    | bl b => exact .bl b
    | int i => exact .int i
    | str s => exact .str s
    | ty n => exact .ty n
    | tup a ds vs z e n _ ih => exact .tup a ds vs (kf z) e n ih
    | lst a ds vs z e n _ ih => exact .lst a ds vs (kf z) e n ih
    | loc n a e => exact .loc n a e
    | dct a ks kvs z e n _ ih => exact .dct a ks kvs (kf z) e n ih
    | exc a dx C c fs gs z z2 kc e e2 n _ ih => exact .exc a dx C c fs gs (kf z) (kf z2) kc e e2 n ih
    | cls c C e => exact .cls c C e
    | scr a ds vs z n _ ih => exact .scr a ds vs (z.imp (fun ⟨z, e⟩ => ⟨kf z, e⟩) id) n ih
    | ktp a ds vs z n _ ih => exact .ktp a ds vs z n ih
  exact ⟨h.1, fun i d v a b => go (h.2 i d v a b)⟩
/-- a known world's list items at a later world -/
theorem Rels.later {R R' : Addr → Prop} {F F' : Ads} {M M' : Mem} {H H' : Hp} {xs : List D} {vs : List V} (h : Rels S R F M H xs vs) (n : ∀ a, R' a → R a ∨ H a = none) (l : Le F M H F' M' H') : Rels S R' F' M' H' xs vs := by
  refine Rels.mono (Rels.more h fun a ⟨o, e⟩ r => ?_) l
  rcases n a r with z | z
  · exact z
  · rw [e] at z; cases z
theorem gi_seq (hK : S.K = X.K) (he : GE S X W e fe) : GI S X W tg e (fWd fe) := fun R => by
  refine PI_imp (pi_seq (he R)) fun σ H Q ⟨F, M, env, s, r, h⟩ => ⟨F, M, env, s, r, (Post.bind h).mono fun F1 M1 H1 d l1 s1 h1 v rv => ?_⟩
  rw [← hK]
  -- a list that stays
  have frz : ∀ {a : Addr} {xs : List D} {vs : List V}, (∀ F' M' H', Le F1 M1 H1 F' M' H' → SqL S.K H' a vs) → Rels S R F1 M1 H1 xs vs → (∀ H (ys : List V), SqL S.K H a vs → SqL S.K H a ys → ys = vs) → Wk S R ⟨none, xs⟩ (Itl S.K a) F1 M1 H1 := fun {a xs vs} hs rs un R' F' M' H' k1 k2 l' s' _ => by
    have q := hs F' M' H' l'
    have rs' := Rels.later rs k2 l'
    refine ⟨fun i hi => ?_, fun i hi => ⟨vs, q, rs'.1 ▸ hi⟩⟩
    have hi2 : i < vs.length := rs'.1 ▸ hi
    refine ⟨⟨vs, vs[i], q, by simp [hi2]⟩, fun x H'' ⟨e1, e2⟩ => ?_⟩
    subst e1
    have e3 := e2 vs q
    obtain ⟨d, e4, r4⟩ := rs'.get2 e3
    exact ⟨.refl, s', d, e4, r4⟩
  have un : ∀ {a : Addr} {vs ys : List V} {H : Hp}, H a = some (.lst vs) → True := fun _ => trivial
  cases rv with
  | tup a ds vs z ha n k =>
    refine ⟨a, vs, rfl, .inr ⟨.of ha, h1 F1 H1 .refl s1 _ fun R' F' M' H' k1 k2 l' s' _ => ?_⟩⟩
    have q : SqT S.K H' a vs := .of (z.at l' ha)
    have rs' := Rels.later ⟨n, k⟩ k2 l'
    refine ⟨fun i hi => ?_, fun i hi => ⟨vs, q, rs'.1 ▸ hi⟩⟩
    have hi2 : i < vs.length := rs'.1 ▸ hi
    refine ⟨⟨vs, vs[i], q, by simp [hi2]⟩, fun x H'' ⟨e1, e2⟩ => ?_⟩
    subst e1
    obtain ⟨d, e4, r4⟩ := rs'.get2 (e2 vs q)
    exact ⟨.refl, s', d, e4, r4⟩
  | lst a ds vs z ha n k =>
    refine ⟨a, vs, rfl, .inl ⟨.of ha, h1 F1 H1 .refl s1 _ fun R' F' M' H' k1 k2 l' s' _ => ?_⟩⟩
    have q : SqL S.K H' a vs := .of (z.at l' ha)
    have rs' := Rels.later ⟨n, k⟩ k2 l'
    refine ⟨fun i hi => ?_, fun i hi => ⟨vs, q, rs'.1 ▸ hi⟩⟩
    have hi2 : i < vs.length := rs'.1 ▸ hi
    refine ⟨⟨vs, vs[i], q, by simp [hi2]⟩, fun x H'' ⟨e1, e2⟩ => ?_⟩
    subst e1
    obtain ⟨d, e4, r4⟩ := rs'.get2 (e2 vs q)
    exact ⟨.refl, s', d, e4, r4⟩
  | scr a ds vs z n k =>
    have q1 : ∀ F' M' H', Le F1 M1 H1 F' M' H' → SqL S.K H' a vs := fun F' M' H' l' => by
      rcases z with ⟨z, e⟩ | z
      · exact .inl (z.rd l' e)
      · exact z H'
    refine ⟨a, vs, rfl, .inl ⟨q1 _ _ _ .refl, h1 F1 H1 .refl s1 _ fun R' F' M' H' k1 k2 l' s' _ => ?_⟩⟩
    have q := q1 F' M' H' l'
    have rs' := Rels.later ⟨n, k⟩ k2 l'
    refine ⟨fun i hi => ?_, fun i hi => ⟨vs, q, rs'.1 ▸ hi⟩⟩
    have hi2 : i < vs.length := rs'.1 ▸ hi
    refine ⟨⟨vs, vs[i], q, by simp [hi2]⟩, fun x H'' ⟨e1, e2⟩ => ?_⟩
    subst e1
    obtain ⟨d, e4, r4⟩ := rs'.get2 (e2 vs q)
    exact ⟨.refl, s', d, e4, r4⟩
  | loc n a f =>
    have h1' : Post S R W σ F1 M1 H1 (fun F' M' H' w => ∀ J, Wk S R w J F' M' H' → Q J H') (match lstAt M1 n with | some xs => .ok ⟨some n, xs⟩ M1 | none => .bad) := h1
    cases q0 : lstAt M1 n with
    | none => rw [q0] at h1'; exact h1'.elim
    | some xs =>
      rw [q0] at h1'
      obtain ⟨b, vs, eb, hF, hH, rs⟩ := loc_at s1 (.loc n a f) q0
      cases eb
      refine ⟨a, vs, rfl, .inl ⟨.of hH, h1' F1 H1 .refl s1 _ fun R' F' M' H' k1 k2 l' s' g => ?_⟩⟩
      obtain ⟨b, vs', eb, _, hH', rs'⟩ := loc_at s' (.loc n a (l'.pre n a hF)) (show lstAt M' n = some xs from g)
      cases eb
      have q : SqL S.K H' a vs' := .of hH'
      refine ⟨fun i hi => ?_, fun i hi => ⟨vs', q, rs'.1 ▸ hi⟩⟩
      have hi2 : i < vs'.length := rs'.1 ▸ hi
      refine ⟨⟨vs', vs'[i], q, by simp [hi2]⟩, fun x H'' ⟨e1, e2⟩ => ?_⟩
      subst e1
      obtain ⟨d, e4, r4⟩ := rs'.get2 (e2 vs' q)
      exact ⟨.refl, s', d, e4, r4⟩
  | _ => exact h1.elim
theorem rngD_len (lo : Int) (n : Nat) : (rngD lo n).length = n := by unfold rngD; simp
theorem rngD_at {lo : Int} {n i : Nat} (h : i < n) : (rngD lo n)[i]? = some (.int (lo + (i : Nat))) := by unfold rngD; simp [h]
theorem wk_rng {R : Addr → Prop} {F : Ads} {M : Mem} {H : Hp} (lo : Int) (n : Nat) : Wk S R ⟨none, rngD lo n⟩ (Itr lo n) F M H := fun R' F' M' H' k1 k2 l' s' _ => by
  refine ⟨fun i hi => ?_, fun i hi => by rw [rngD_len] at hi; exact hi⟩
  rw [rngD_len] at hi
  refine ⟨hi, fun x H'' ⟨e1, e2⟩ => ?_⟩
  subst e1 e2
  exact ⟨.refl, s', _, rngD_at hi, .int _⟩
theorem gi_rng1 {a : Expr} {fa : FE (List D)} (hg : Gl X "range") (hm : X.mg "range" = none) (ha : GA S X W [a] fa) (hs : starEach [a] X.env = [(false, eval a X.env)]) : GI S X W tg (.Call (.Name "range" p) [a] [] pos) (fWds gRng1 fa) := fun R => by
  refine PI_imp (pi_range1 hg hm (ha R) hs) fun σ H Q ⟨F, M, env, s, r, h⟩ => ⟨F, M, env, s, r, (Post.bind h).mono fun F1 M1 H1 ds l1 s1 h1 vs rs => ?_⟩
  unfold gRng1 at h1
  split at h1
  · rename_i j
    split at h1
    · obtain ⟨v, rfl, rv⟩ := rels1 rs
      cases int_at rv
      exact ⟨j, rfl, by omega, by omega, h1 F1 H1 .refl s1 _ (wk_rng 0 _)⟩
    · exact h1.elim
  · exact h1.elim
theorem gi_rng2 {a b : Expr} {fa : FE (List D)} (hg : Gl X "range") (hm : X.mg "range" = none) (ha : GA S X W [a, b] fa) (hs : starEach [a, b] X.env = [(false, eval a X.env), (false, eval b X.env)]) (hs2 : starEach [b] X.env = [(false, eval b X.env)]) : GI S X W tg (.Call (.Name "range" p) [a, b] [] pos) (fWds gRng2 fa) := fun R => by
  refine PI_imp (pi_range2 hg hm (ha R) hs hs2) fun σ H Q ⟨F, M, env, s, r, h⟩ => ⟨F, M, env, s, r, (Post.bind h).mono fun F1 M1 H1 ds l1 s1 h1 vs rs => ?_⟩
  unfold gRng2 at h1
  split at h1
  · rename_i i j
    split at h1
    · obtain ⟨v, u, rfl, rv, ru⟩ := rels2 rs
      cases int_at rv
      cases int_at ru
      exact ⟨i, j, rfl, ⟨by omega, by omega, by omega, by omega⟩, h1 F1 H1 .refl s1 _ (wk_rng i _)⟩
    · exact h1.elim
  · exact h1.elim

/-! ### for -/
open Classical in
noncomputable def loopF (w : Wd) (g : FG) (f : FS) : List D → Ev → Mem → SR
  | [], e, M => if Gd w M then .nx e M else .bad
  | d :: r, e, M => if Gd w M then
      match (g d e M).only with
      | .nx e1 M1 => match f e1 M1 with
        | .nx e2 M2 => loopF w g f r e2 M2
        | .ct e2 M2 => loopF w g f r e2 M2
        | .bk e2 M2 => .nx e2 M2
        | z => z
      | z => z
    else .bad
noncomputable def sFor (fi : FE Wd) (g : FG) (f : FS) : FS := fun e M => toS (fi e M) e fun w M1 => loopF w g f w.ds e M1
theorem gs_for {iter : Expr} {body : List Stmt} {fi : FE Wd} {g : FG} {f : FS} (hp : PassesOwn (model X.prog X.w) X.A X.env X.xe) (hc : X.calm = true) (hi : GI S X W tg iter fi) (hg : GG S X W tg g) (hb : GSs S X W body f)
    (hs : ∀ x, foldedSetIterable iter X.env x = pure x) : GS S X W (.For tg iter body [] pos) (sFor fi g f) := fun R => by
  refine PS_imp (ps_for hp hc (hi R) (hg R) (hb R) hs) fun T σ H ⟨F, M, env, s, r, h⟩ => ⟨F, M, env, s, r, (PostS.part h r).mono fun F1 M1 H1 w l1 s1 h1 J wk => ?_⟩
  refine ⟨fun i m σ H => m = w.ds.length - i ∧ i ≤ w.ds.length ∧ ∃ F M env, Le F1 M1 H1 F M H ∧ Sim S R F M H ∧ RelE S R F M H env σ ∧ PostS S R W F M H T (loopF w g f (w.ds.drop i) env M), ⟨w.ds.length, by simp, Nat.zero_le _, F1, M1, env, .refl, s1, r.mono l1, by rw [List.drop_zero]; exact h1⟩, ?_⟩
  rintro i m σ H ⟨rfl, hi, F, M, env, l, s, r, h⟩
  by_cases hlt : i < w.ds.length
  · rw [List.drop_eq_getElem_cons hlt] at h
    unfold loopF at h
    by_cases hG : Gd w M
    · rw [if_pos hG] at h
      obtain ⟨k1, k2⟩ := wk R F M H (fun _ z => z) (fun _ z => .inl z) l s hG
      obtain ⟨go, yl⟩ := k1 i hlt
      refine .inr ⟨go, fun σ' H' => ∃ F M env, Le F1 M1 H1 F M H' ∧ Sim S R F M H' ∧ RelE S R F M H' env σ' ∧ PostS S R W F M H' T (loopF w g f (w.ds.drop (i + 1)) env M), fun σ' H' z => ⟨w.ds.length - (i + 1), by omega, rfl, hlt, z⟩, fun x H' y => ?_⟩
      obtain ⟨l', s', d, ed, rd⟩ := yl x H' y
      have ed2 : w.ds[i] = d := by rw [List.getElem?_eq_getElem hlt] at ed; exact Option.some.inj ed
      rw [ed2] at h
      refine ⟨F, M, env, d, s', r.mono l', rd, ?_⟩
      have h' := PostS.from h l'
      cases q : g d env M with
      | nx e1 M2 =>
        rw [q] at h'
        refine fun F2 H2 σ2 l2 s2 r2 => ⟨F2, M2, e1, s2, r2, ?_⟩
        have h2 := PostS.from h' l2
        simp only [SR.only_nx] at h2
        have ll := (l.trans l').trans l2
        cases q2 : f e1 M2 with
        | nx e2 M3 =>
          rw [q2] at h2
          exact fun F3 H3 σ3 l3 s3 r3 => ⟨F3, M3, e2, ll.trans l3, s3, r3, PostS.from h2 l3⟩
        | ct e2 M3 =>
          rw [q2] at h2
          exact fun F3 H3 σ3 l3 s3 r3 => ⟨F3, M3, e2, ll.trans l3, s3, r3, PostS.from h2 l3⟩
        | bk e2 M3 => rw [q2] at h2; exact h2
        | rt d2 M3 => rw [q2] at h2; exact h2
        | exc e2 c fs M3 => rw [q2] at h2; exact h2
        | bad => rw [q2] at h2; exact h2
      | exc e1 c fs M2 => rw [q] at h'; exact h'
      | _ => rw [q] at h'; exact h'.elim
    · rw [if_neg hG] at h
      exact h.elim
  · have hi' : i = w.ds.length := by omega
    subst hi'
    rw [List.drop_length] at h
    unfold loopF at h
    by_cases hG : Gd w M
    · rw [if_pos hG] at h
      obtain ⟨k1, k2⟩ := wk R F M H (fun _ z => z) (fun _ z => .inl z) l s hG
      exact .inl ⟨k2 _ (Nat.le_refl _), h F H σ .refl s r⟩
    · rw [if_neg hG] at h
      exact h.elim

/-! ### comprehensions -/
/-- the targets of a comprehension: a name, a tuple of names -/
inductive Tn where
  | nm (i : Nat)
  | tup (is : List Nat)
def Tn.slots : Tn → List Nat
  | .nm i => [i]
  | .tup is => is
def tnGs : List Nat → TGs
  | [] => L2.gNil
  | i :: is => L2.gCons (L2.gName i) (tnGs is)
def tnG (K : PySem.W.Frag) : Tn → TG
  | .nm i => L2.gName i
  | .tup is => L2.gTup K is.length (tnGs is)
def setAll : List Nat → List D → Ev → Option Ev
  | [], [], e => some e
  | i :: is, d :: ds, e => setAll is ds (e.set i (some d))
  | _, _, _ => none
def tnSet (t : Tn) (d : D) (e : Ev) : Option Ev :=
  match t with
  | .nm i => some (e.set i (some d))
  | .tup is => match d with | .tup ds => setAll is ds e | _ => none
open Classical in
/-- the items made, in the block's own slots -/
noncomputable def loopC (w : Wd) (t : Tn) (ft : FE Bool) (fe : FE D) (e : Ev) : List D → Mem → Res (List D)
  | [], M => if Gd w M then .ok [] M else .bad
  | d :: r, M => if Gd w M then
      match tnSet t d e with
      | some e1 => match ft e1 M with
        | .ok true M2 => match fe e1 M2 with
          | .ok z M3 => match loopC w t ft fe e r M3 with
            | .ok zs M4 => .ok (z :: zs) M4
            | _ => .bad
          | _ => .bad
        | .ok false M2 => loopC w t ft fe e r M2
        | _ => .bad
      | none => .bad
    else .bad
def wipeE (e : Ev) : List Nat → Ev
  | [] => e
  | v :: vs => (wipeE e vs).set v none
noncomputable def fLc (c : Bool) (fi : FE Wd) (t : Tn) (ft : FE Bool) (fe : FE D) (own : List Nat) : FE D := fun e M => (fi e M).bind fun w M1 =>
  if w.ds.length ≤ 1000000 then (loopC w t ft fe (wipeE e own) w.ds M1).bind fun ds M2 => fin c ds M2 else .bad
abbrev W0 : WX := fun _ _ _ _ => False

theorem wipe_at {σ : L2.St} {j : Nat} : ∀ {vs : List Nat}, (wipe σ vs)[j]? = if j ∈ vs ∧ j < σ.length then some none else σ[j]?
  | [] => by simp [wipe]
  | v :: vs => by
    unfold wipe
    have hl : (wipe σ vs).length = σ.length := wipe_length σ vs
    rw [List.getElem?_set, hl, wipe_at (vs := vs)]
    by_cases h1 : v = j
    · subst h1
      by_cases h2 : v < σ.length
      · simp [h2]
      · have : σ[v]? = none := List.getElem?_eq_none (by omega)
        simp [h2, this]
    · have h1' : ¬ j = v := fun z => h1 z.symm
      simp [h1, h1']
theorem wipe_set {σ : L2.St} {i : Nat} {x : Option V} {vs : List Nat} (h : i ∈ vs) : wipe (σ.set i x) vs = wipe σ vs := by
  refine List.ext_getElem? fun j => ?_
  rw [wipe_at, wipe_at, List.length_set]
  by_cases hj : i = j
  · subst hj
    by_cases hl : i < σ.length
    · simp [h, hl]
    · have h1 : σ[i]? = none := List.getElem?_eq_none (by omega)
      have h2 : (σ.set i x)[i]? = none := List.getElem?_eq_none (by rw [List.length_set]; omega)
      simp [hl, h1, h2]
  · rw [List.getElem?_set_ne hj]
theorem wipe_wipe {σ : L2.St} {vs : List Nat} : wipe (wipe σ vs) vs = wipe σ vs := by
  refine List.ext_getElem? fun j => ?_
  rw [wipe_at, wipe_at, wipe_length]
  split <;> simp_all
theorem RelE.wipe {R : Addr → Prop} {F : Ads} {M : Mem} {H : Hp} {env : Ev} {σ : L2.St} (h : RelE S R F M H env σ) : ∀ vs : List Nat, RelE S R F M H (wipeE env vs) (L2.wipe σ vs)
  | [] => h
  | v :: vs => (RelE.wipe h vs).drop1 v
theorem Sim.less {R R' : Addr → Prop} {F : Ads} {M : Mem} {H : Hp} (s : Sim S R' F M H) (l : ∀ a, R a → R' a) : Sim S R F M H := by
  refine ⟨s.len, fun n c e => ?_, s.inj, fun a r => s.res a (l a r)⟩
  obtain ⟨a, e1, nr, h⟩ := s.cell n c e
  refine ⟨a, e1, fun z => nr (l a z), ?_⟩
  cases c with
  | lst ds => obtain ⟨vs, h1, h2⟩ := h; exact ⟨vs, h1, h2.less l⟩
  | ins c fs => obtain ⟨C, dx, gs, h1, h2, h3, h4, h5⟩ := h; exact ⟨C, dx, gs, h1, h2, h3, h4, h5.less l⟩
  | dic ks => obtain ⟨kvs, h1, h2, h3⟩ := h; exact ⟨kvs, h1, h2, h3.less l⟩
/-- a new address is reserved -/
theorem Sim.reserve {R : Addr → Prop} {F : Ads} {M : Mem} {H : Hp} {p : Addr} {o : HO} (s : Sim S R F M H) (hp : H p = none) : Sim S (fun a => R a ∨ a = p) F M (upd H p o) := by
  have s' := s.new (o := o) hp
  have nr : ∀ a, (∃ u, H a = some u) → (R a ∨ a = p) → R a := fun a ⟨u, e⟩ z => z.elim id fun z => by rw [z, hp] at e; cases e
  refine ⟨s.len, fun n c e => ?_, s.inj, fun a z => ?_⟩
  · obtain ⟨a, e1, nr1, h⟩ := s.cell n c e
    have ha : ∃ u, H a = some u := by
      cases c with
      | lst ds => obtain ⟨vs, h1, _⟩ := h; exact ⟨_, h1⟩
      | ins c fs => obtain ⟨C, dx, gs, _, h1, _⟩ := h; exact ⟨_, h1⟩
      | dic ks => obtain ⟨kvs, h1, _⟩ := h; exact ⟨_, h1⟩
    have l : Le F M H F M (upd H p o) := Le.new hp
    have k : ∀ b u, H b = some u → upd H p o b = some u := fun b u e => by rw [upd_ne (ne_of_none e hp)]; exact e
    refine ⟨a, e1, fun z => nr1 (nr a ha z), ?_⟩
    cases c with
    | lst ds =>
      obtain ⟨vs, h1, h2⟩ := h
      exact ⟨vs, k _ _ h1, (h2.more nr).mono l⟩
    | ins c fs =>
      obtain ⟨C, dx, gs, h1, h2, h3, h4, h5⟩ := h
      exact ⟨C, dx, gs, h1, k _ _ h2, k _ _ h3, h4, (h5.more nr).mono l⟩
    | dic ks =>
      obtain ⟨kvs, h1, h2, h3⟩ := h
      exact ⟨kvs, k _ _ h1, h2, (h3.more nr).mono l⟩
  · rcases z with z | z
    · exact s'.res a z
    · exact ⟨o, by rw [z]; exact upd_same⟩
theorem set_names {R : Addr → Prop} {F : Ads} {M : Mem} {H : Hp} {vs : List Nat} {Q : L2.St → Hp → Prop} : ∀ {is : List Nat} {ds : List D} {xs : List V} {e e1 : Ev} {σ : L2.St}, (∀ i ∈ is, i ∈ vs) → setAll is ds e = some e1 → Rels S R F M H ds xs → RelE S R F M H e σ →
    (∀ σ1, L2.wipe σ1 vs = L2.wipe σ vs → RelE S R F M H e1 σ1 → Q σ1 H) → tnGs is xs σ H Q
  | [], [], xs, e, e1, σ, _, h, r, re, q => by
    cases h
    exact ⟨List.length_eq_zero_iff.mp r.1.symm, q σ rfl re⟩
  | i :: is, d :: ds, [], e, e1, σ, _, h, r, re, q => absurd r.1 (by simp)
  | i :: is, d :: ds, x :: xs, e, e1, σ, hv, h, r, re, q => by
    refine ⟨x, xs, rfl, ?_⟩
    have rt : Rels S R F M H ds xs := ⟨by simpa using r.1, fun i d v a b => r.2 (i + 1) d v (by simpa using a) (by simpa using b)⟩
    refine set_names (fun j hj => hv j (List.mem_cons_of_mem _ hj)) h rt (re.set i (r.2 0 d x rfl rfl)) fun σ1 w r1 => q σ1 ?_ r1
    rw [w, wipe_set (hv i List.mem_cons_self)]
  | [], _ :: _, _, _, _, _, _, h, _, _, _ => by cases h
  | _ :: _, [], _, _, _, _, _, h, _, _, _ => by cases h
theorem tn_ok {R : Addr → Prop} {F : Ads} {M : Mem} {H : Hp} {vs : List Nat} {Q : L2.St → Hp → Prop} {t : Tn} {d : D} {x : V} {e e1 : Ev} {σ : L2.St} (hK : S.K = X.K) (hv : ∀ i ∈ t.slots, i ∈ vs) (h : tnSet t d e = some e1) (r : RelD S R F M H d x) (re : RelE S R F M H e σ)
    (q : ∀ σ1, L2.wipe σ1 vs = L2.wipe σ vs → RelE S R F M H e1 σ1 → Q σ1 H) : tnG X.K t x σ H Q := by
  cases t with
  | nm i =>
    cases h
    exact q _ (wipe_set (hv i List.mem_cons_self)) (re.set i r)
  | tup is =>
    cases r with
    | tup a ds xs z ha n k =>
      have h' : setAll is ds e = some e1 := h
      have hl : ∀ {is : List Nat} {ds : List D} {e e1 : Ev}, setAll is ds e = some e1 → ds.length = is.length := by
        intro is
        induction is with
        | nil => intro ds e e1 h; cases ds with | nil => rfl | cons => cases h
        | cons i is ih => intro ds e e1 h; cases ds with | nil => cases h | cons d ds => simp [ih h]
      exact ⟨a, xs, rfl, .of ha, by rw [← n]; exact hl h', set_names hv h' ⟨n, k⟩ re q⟩
    | _ => cases h
theorem RelD.off {R : Addr → Prop} {F : Ads} {M : Mem} {H : Hp} {p : Addr} {o : HO} {d : D} {v : V} (h : RelD S R F M H d v) (hp : R p) : RelD S R F M (upd H p o) d v := by
  have ne : ∀ {a}, Fz S R F M H a → a ≠ p := fun z e => z.nr (e ▸ hp)
  have kf : ∀ {a}, Fz S R F M H a → Fz S R F M (upd H p o) a := fun z => ⟨z.nl, z.nr, let ⟨u, e⟩ := z.th; ⟨u, by rw [upd_ne (ne z)]; exact e⟩⟩
  have kk : ∀ {a u}, Fz S R F M H a → H a = some u → upd H p o a = some u := fun z e => by rw [upd_ne (ne z)]; exact e
  induction h with
  | non => exact .non
  | bl b => exact .bl b
  | int i => exact .int i
  | str s => exact .str s
  | ty n => exact .ty n
  | tup a ds vs z e n _ ih => exact .tup a ds vs (kf z) (kk z e) n ih
  | lst a ds vs z e n _ ih => exact .lst a ds vs (kf z) (kk z e) n ih
  | loc n a e => exact .loc n a e
  | dct a ks kvs z e n _ ih => exact .dct a ks kvs (kf z) (kk z e) n ih
  | exc a dx C c fs gs z z2 kc e e2 n _ ih => exact .exc a dx C c fs gs (kf z) (kf z2) kc (kk z e) (kk z2 e2) n ih
  | cls c C e => exact .cls c C e
  | scr a ds vs z n _ ih => exact .scr a ds vs (z.imp (fun ⟨z, e⟩ => ⟨kf z, e.imp (fun q => kk z q) fun ⟨u, q⟩ => ⟨u, kk z q⟩⟩) id) n ih
  | ktp a ds vs z n _ ih => exact .ktp a ds vs z n ih
theorem Rels.off {R : Addr → Prop} {F : Ads} {M : Mem} {H : Hp} {p : Addr} {o : HO} {ds : List D} {vs : List V} (h : Rels S R F M H ds vs) (hp : R p) : Rels S R F M (upd H p o) ds vs := ⟨h.1, fun i d v a b => (h.2 i d v a b).off hp⟩
theorem Sim.off {R : Addr → Prop} {F : Ads} {M : Mem} {H : Hp} {p : Addr} {o : HO} (s : Sim S R F M H) (hp : R p) (hl : ∃ xs, H p = some (.lst xs) := by exact ⟨_, by assumption⟩) : Sim S R F M (upd H p o) := by
  refine ⟨s.len, fun n c e => ?_, s.inj, fun a r => ?_⟩
  · obtain ⟨a, e1, nr, h⟩ := s.cell n c e
    have hap : a ≠ p := fun z => nr (z ▸ hp)
    refine ⟨a, e1, nr, ?_⟩
    cases c with
    | lst ds =>
      obtain ⟨vs, h1, h2⟩ := h
      exact ⟨vs, by rw [upd_ne hap]; exact h1, h2.off hp⟩
    | ins c fs =>
      obtain ⟨C, dx, gs, h1, h2, h3, h4, h5⟩ := h
      refine ⟨C, dx, gs, h1, by rw [upd_ne hap]; exact h2, ?_, h4, h5.off hp⟩
      rw [upd_ne fun z => ?_]
      · exact h3
      · obtain ⟨xs, q⟩ := hl
        rw [z, q] at h3; cases h3
    | dic ks =>
      obtain ⟨kvs, h1, h2, h3⟩ := h
      exact ⟨kvs, by rw [upd_ne hap]; exact h1, h2, h3.off hp⟩
  · by_cases ha : a = p
    · exact ⟨o, by rw [ha]; exact upd_same⟩
    · rw [upd_ne ha]; exact s.res a r
/-- a reserved list becomes a cell -/
theorem Sim.adoptC {R : Addr → Prop} {F : Ads} {M : Mem} {H : Hp} {p : Addr} {cc : Cell} (s : Sim S (fun a => R a ∨ a = p) F M H) (nl : ¬ Liv F M p) (nr : ¬ R p) (hC : (∀ {ds vs}, Rels S (fun a => R a ∨ a = p) F M H ds vs → Rels S R (F ++ [p]) (M ++ [some cc]) H ds vs) → CellAt S R (F ++ [p]) (M ++ [some cc]) H p cc) :
    Sim S R (F ++ [p]) (M ++ [some cc]) H := by
  have k1 : ∀ a, R a → R a ∨ a = p := fun _ z => .inl z
  have old : ∀ (n : Nat) (d : Cell), (M ++ [some cc])[n]? = some (some d) → (n < M.length ∧ M[n]? = some (some d)) ∨ (n = M.length ∧ d = cc) := fun n d e => by
    by_cases hn : n < M.length
    · rw [List.getElem?_append_left hn] at e; exact .inl ⟨hn, e⟩
    · rw [List.getElem?_append_right (by omega)] at e
      cases hk : n - M.length with
      | zero => rw [hk] at e; simp at e; exact .inr ⟨by omega, e.symm⟩
      | succ j => rw [hk] at e; simp at e
  have at2 : ∀ (n : Nat) (a : Addr), n < M.length → (F ++ [p])[n]? = some a → F[n]? = some a := fun n a hn e => by
    rw [List.getElem?_append_left (s.len ▸ hn)] at e; exact e
  have atp : (F ++ [p])[M.length]? = some p := by rw [← s.len, List.getElem?_append_right (Nat.le_refl _)]; simp
  have lv : ∀ a, Liv (F ++ [p]) (M ++ [some cc]) a → Liv F M a ∨ a = p := fun a ⟨n, d, e1, e2⟩ => by
    rcases old n d e2 with ⟨hn, e3⟩ | ⟨hn, _⟩
    · exact .inl ⟨n, d, at2 n a hn e1, e3⟩
    · rw [hn, atp] at e1; exact .inr (Option.some.inj e1).symm
  have up : ∀ {ds vs}, Rels S (fun a => R a ∨ a = p) F M H ds vs → Rels S R (F ++ [p]) (M ++ [some cc]) H ds vs := fun {ds vs} h => by
    refine ⟨h.1, fun i d v a b => ?_⟩
    have r := h.2 i d v a b
    have kf : ∀ {a}, Fz S (fun a => R a ∨ a = p) F M H a → Fz S R (F ++ [p]) (M ++ [some cc]) H a := fun z => ⟨fun q => (lv _ q).elim z.nl fun e => z.nr (.inr e), fun q => z.nr (.inl q), z.th⟩
    clear a b
    induction r with
    | non => exact .non
    | bl b => exact .bl b
    | int i => exact .int i
    | str s => exact .str s
    | ty n => exact .ty n
    | tup a ds vs z e n _ ih => exact .tup a ds vs (kf z) e n ih
    | lst a ds vs z e n _ ih => exact .lst a ds vs (kf z) e n ih
    | loc n a e => exact .loc n a (by rw [List.getElem?_append_left (List.getElem?_eq_some_iff.mp e).1]; exact e)
    | dct a ks kvs z e n _ ih => exact .dct a ks kvs (kf z) e n ih
    | exc a dx C c fs gs z z2 kc e e2 n _ ih => exact .exc a dx C c fs gs (kf z) (kf z2) kc e e2 n ih
    | cls c C e => exact .cls c C e
    | scr a ds vs z n _ ih => exact .scr a ds vs (z.imp (fun ⟨z, e⟩ => ⟨kf z, e⟩) id) n ih
    | ktp a ds vs z n _ ih => exact .ktp a ds vs z n ih
  refine ⟨by simp [s.len], fun n d e => ?_, fun n m c1 d1 a e1 e2 f1 f2 => ?_, fun a r => s.res a (k1 a r)⟩
  · rcases old n d e with ⟨hn, e3⟩ | ⟨hn, ed⟩
    · obtain ⟨a, e1, nr1, h⟩ := s.cell n d e3
      refine ⟨a, by rw [List.getElem?_append_left (s.len ▸ hn)]; exact e1, fun z => nr1 (k1 a z), ?_⟩
      cases d with
      | lst ds => obtain ⟨vs, h1, h2⟩ := h; exact ⟨vs, h1, up h2⟩
      | ins c fs => obtain ⟨C, dx, gs, h1, h2, h3, h4, h5⟩ := h; exact ⟨C, dx, gs, h1, h2, h3, h4, up h5⟩
      | dic ks => obtain ⟨kvs, h1, h2, h3⟩ := h; exact ⟨kvs, h1, h2, up h3⟩
    · subst hn ed
      exact ⟨p, atp, nr, hC up⟩
  · rcases old n c1 e1 with ⟨hn, g1⟩ | ⟨hn, _⟩
    · have f1' := at2 n a hn f1
      rcases old m d1 e2 with ⟨hm, g2⟩ | ⟨hm, _⟩
      · exact s.inj n m c1 d1 a g1 g2 f1' (at2 m a hm f2)
      · rw [hm, atp] at f2; cases f2
        exact (nl ⟨n, c1, f1', g1⟩).elim
    · rw [hn, atp] at f1; cases f1
      rcases old m d1 e2 with ⟨hm, g2⟩ | ⟨hm, _⟩
      · exact (nl ⟨m, d1, at2 m _ hm f2, g2⟩).elim
      · rw [hn, hm]
theorem Sim.adopt {R : Addr → Prop} {F : Ads} {M : Mem} {H : Hp} {p : Addr} {acc : List D} {vacc : List V} (s : Sim S (fun a => R a ∨ a = p) F M H) (nl : ¬ Liv F M p) (nr : ¬ R p) (hH : H p = some (.lst vacc)) (ra : Rels S (fun a => R a ∨ a = p) F M H acc vacc) :
    Sim S R (F ++ [p]) (M ++ [some (.lst acc)]) H := s.adoptC nl nr fun up => ⟨vacc, hH, up ra⟩
theorem lc_rd {R : Addr → Prop} {c : Bool} {fi : FE Wd} {t : Tn} {ft : FE Bool} {fe : FE D} {vs : List Nat} {σ : L2.St} {H : Hp} {Q : VK} (hK : S.K = X.K) (hv : ∀ i ∈ t.slots, i ∈ vs) (h : rdE S R W (fLc c fi t ft fe vs) σ H Q) :
    tLc (rdI S R W fi) (tnG X.K t) (fun σ H Q => ∃ R, rdT S R W0 ft σ H Q) (fun σ H Q => ∃ R, rdE S R W0 fe σ H Q) vs σ H Q := by
  obtain ⟨F, M, env, s, r, h⟩ := h
  refine ⟨F, M, env, s, r, (Post.bind h).mono fun F1 M1 H1 w l1 s1 h1 J wk => ?_⟩
  intro p hp
  split at h1
  · rename_i hw
    refine ⟨fun i m H => m = w.ds.length - i ∧ i ≤ w.ds.length ∧ ∃ F M acc vacc, Le F1 M1 H1 F M H ∧ Sim S (fun a => R a ∨ a = p) F M H ∧ H p = some (.lst vacc) ∧ Rels S (fun a => R a ∨ a = p) F M H acc vacc ∧ acc.length ≤ i ∧
      Post S R W σ F1 M1 H1 (KE S R Q) ((loopC w t ft fe (wipeE env vs) (w.ds.drop i) M).bind fun ds M2 => fin c (acc ++ ds) M2), ⟨w.ds.length, by simp, Nat.zero_le _, F1, M1, [], [], Le.new hp, s1.reserve hp, upd_same, .nil, Nat.le_refl _, by rw [List.drop_zero]; exact h1⟩, ?_⟩
    rintro i m H ⟨rfl, hi, F, M, acc, vacc, l, s, hH, ra, hacc, h⟩
    have k1 : ∀ a, R a → R a ∨ a = p := fun _ z => .inl z
    have k2 : ∀ a, (R a ∨ a = p) → R a ∨ H1 a = none := fun a z => z.imp id fun z => by rw [z]; exact hp
    by_cases hlt : i < w.ds.length
    · rw [List.drop_eq_getElem_cons hlt] at h
      unfold loopC at h
      by_cases hG : Gd w M
      · rw [if_pos hG] at h
        obtain ⟨g1, g2⟩ := wk _ F M H k1 k2 l s hG
        obtain ⟨go, yl⟩ := g1 i hlt
        refine .inr ⟨go, fun H' => ∃ F M acc vacc, Le F1 M1 H1 F M H' ∧ Sim S (fun a => R a ∨ a = p) F M H' ∧ H' p = some (.lst vacc) ∧ Rels S (fun a => R a ∨ a = p) F M H' acc vacc ∧ acc.length ≤ i + 1 ∧
          Post S R W σ F1 M1 H1 (KE S R Q) ((loopC w t ft fe (wipeE env vs) (w.ds.drop (i + 1)) M).bind fun ds M2 => fin c (acc ++ ds) M2), fun H' z => ⟨w.ds.length - (i + 1), by omega, rfl, hlt, z⟩, fun x H' y => ?_⟩
        obtain ⟨l', s', d, ed, rd⟩ := yl x H' y
        have ed2 : w.ds[i] = d := by rw [List.getElem?_eq_getElem hlt] at ed; exact Option.some.inj ed
        rw [ed2] at h
        have lw := l.trans l'
        have re : RelE S (fun a => R a ∨ a = p) F M H' (wipeE env vs) (L2.wipe σ vs) := by
          have r1 := (r.mono l1).wipe vs
          refine ⟨r1.1, fun j d e => ?_⟩
          obtain ⟨v, e1, rv⟩ := r1.2 j d e
          refine ⟨v, e1, ?_⟩
          have q := Rels.later (Rels.cons rv .nil) k2 lw
          exact q.2 0 d v rfl rfl
        cases q1 : tnSet t d (wipeE env vs) with
        | none => rw [q1] at h; exact h.elim
        | some e1 =>
          rw [q1] at h
          refine tn_ok hK hv q1 rd re fun σ1 hw1 r1 => ⟨by rw [hw1, wipe_wipe], ?_⟩
          simp only at h
          refine ⟨_, F, M, e1, s', r1, ?_⟩
          have np : ∀ {F M H2 M2}, Le F M H' F M2 H2 → True := fun _ => trivial
          have hp' : H' p = some (.lst vacc) := l'.keep p _ hH fun ⟨n, c2, f1, f2⟩ => by
            obtain ⟨a, f3, nr, _⟩ := s.cell n c2 f2
            rw [f1] at f3; cases f3
            exact nr (.inr rfl)
          have ra' := ra.mono l'
          cases q2 : ft e1 M with
          | bad => rw [q2] at h; exact h.elim
          | exc => rw [q2] at h; exact h.elim
          | ok b M2 =>
            rw [q2] at h
            intro F2 H2 l2 s2
            have keepP : ∀ {F M H F' M' H'}, Le F M H F' M' H' → Sim S (fun a => R a ∨ a = p) F M H → H p = some (.lst vacc) → H' p = some (.lst vacc) := fun {F M H F' M' H'} l s e => l.keep p _ e fun ⟨n, c2, f1, f2⟩ => by
              obtain ⟨a, f3, nr, _⟩ := s.cell n c2 f2
              rw [f1] at f3; cases f3
              exact nr (.inr rfl)
            have hp2 := keepP l2 s' hp'
            cases b with
            | false =>
              simp only at h
              exact (show ∃ F M acc vacc, _ from ⟨F2, M2, acc, vacc, lw.trans l2, s2, hp2, ra'.mono l2, Nat.le_succ_of_le hacc, h⟩)
            | true =>
              simp only at h
              refine ⟨_, F2, M2, e1, s2, r1.mono l2, ?_⟩
              cases q3 : fe e1 M2 with
              | bad => rw [q3] at h; exact h.elim
              | exc => rw [q3] at h; exact h.elim
              | ok z M3 =>
                rw [q3] at h
                intro F3 H3 l3 s3 v rv
                have hp3 := keepP l3 s2 hp2
                have hsz : vacc.length < sizeLine := by
                  rw [← ra.1]
                  exact Nat.lt_of_le_of_lt (Nat.le_trans hacc (Nat.le_trans (Nat.le_of_lt hlt) hw)) (by decide)
                refine ⟨vacc, hp3, hsz, ?_⟩
                have ll := (lw.trans l2).trans l3
                have nl : ¬ Liv F3 M3 p := fun ⟨n, c2, f1, f2⟩ => by
                  obtain ⟨a, f3, nr, _⟩ := s3.cell n c2 f2
                  rw [f1] at f3; cases f3
                  exact nr (.inr rfl)
                have lg : Rels S (fun a => R a ∨ a = p) F3 M3 (upd H3 p (.lst (vacc ++ [v]))) (acc ++ [z]) (vacc ++ [v]) :=
                  (((ra'.mono l2).mono l3).append (Rels.cons rv .nil)).off (.inr rfl)
                have ll2 : Le F1 M1 H1 F3 M3 (upd H3 p (.lst (vacc ++ [v]))) := by
                  refine ⟨ll.pre, ll.liv, fun a o e nl => ?_, fun a e => ?_⟩
                  · rw [upd_ne (ne_of_none e hp)]; exact ll.keep a o e nl
                  · by_cases ha : a = p
                    · exact ⟨_, by rw [ha]; exact upd_same⟩
                    · rw [upd_ne ha]; exact ll.there a e
                refine ⟨F3, M3, acc ++ [z], vacc ++ [v], ll2, s3.off (.inr rfl), upd_same, lg, by simp; omega, ?_⟩
                cases q4 : loopC w t ft fe (wipeE env vs) (w.ds.drop (i + 1)) M3 with
                | ok zs M4 =>
                  simp only [q4, Res.bind_ok] at h ⊢
                  rw [List.append_assoc]
                  exact h
                | exc => simp only [q4, Res.bind_bad] at h; exact h.elim
                | bad => simp only [q4, Res.bind_bad] at h; exact h.elim
      · rw [if_neg hG] at h
        exact h.elim
    · have hi' : i = w.ds.length := by omega
      rw [hi', List.drop_length] at h
      unfold loopC at h
      by_cases hG : Gd w M
      · rw [if_pos hG, Res.bind_ok, List.append_nil] at h
        obtain ⟨g1, g2⟩ := wk _ F M H k1 k2 l s hG
        refine .inl ⟨g2 i (by omega), ?_⟩
        have nl : ¬ Liv F M p := fun ⟨n, c2, f1, f2⟩ => by
          obtain ⟨a, f3, nr, _⟩ := s.cell n c2 f2
          rw [f1] at f3; cases f3
          exact nr (.inr rfl)
        have nr : ¬ R p := fun z => by
          obtain ⟨o, e⟩ := s1.res p z
          rw [hp] at e; cases e
        have s0 := s.less k1
        have ra0 := ra.less k1
        cases c with
        | false => exact h F H l s0 _ (.lst p acc vacc ⟨nl, nr, ⟨_, hH⟩⟩ hH ra0.1 ra0.2)
        | true =>
          have np : ∀ (n : Nat) (d : Cell), M[n]? = some (some d) → F[n]? ≠ some p := fun n d e f => nl ⟨n, d, f, e⟩
          have atp : (F ++ [p])[M.length]? = some p := by rw [← s.len, List.getElem?_append_right (Nat.le_refl _)]; simp
          have l2 : Le F1 M1 H1 (F ++ [p]) (M ++ [some (.lst acc)]) H := by
            refine ⟨fun n a e => ?_, fun a ⟨n, d, e1, e2⟩ => ?_, l.keep, l.there⟩
            · have q := l.pre n a e
              rw [List.getElem?_append_left (List.getElem?_eq_some_iff.mp q).1]; exact q
            · by_cases hn : n < M.length
              · rw [List.getElem?_append_left hn] at e2
                rw [List.getElem?_append_left (s.len ▸ hn)] at e1
                exact l.liv a ⟨n, d, e1, e2⟩
              · rw [List.getElem?_append_right (by have := s.len; omega)] at e1
                cases hk : n - F.length with
                | zero => rw [hk] at e1; simp at e1; rw [← e1]; exact .inr hp
                | succ j => rw [hk] at e1; simp at e1
          refine h _ H l2 (Sim.adopt s nl nr hH ra) _ (.loc _ _ atp)
      · rw [if_neg hG] at h
        exact h.elim
  · exact h1.elim
/-- the conditions of a comprehension: none, one -/
def GTs (S : Sur) (X : Cx) (W : WX) (cs : List Expr) (f : FE Bool) : Prop := ∀ R, PTs X cs (rdT S R W f)
theorem gts_nil : GTs S X W [] (fun _ M => .ok true M) := fun R => ⟨fun pins s σ H Q I ⟨F, M, env, si, r, h⟩ => pts_nil.run pins s σ H Q I (h F H .refl si)⟩
theorem gts_one {c : Expr} {f : FE Bool} (h : GT S X W c f) : GTs S X W [c] f := fun R => pts_one (h R)
/-- PG, PTs, PE of the block, for any reserved addresses -/
theorem ex_pts {cs : List Expr} {f : FE Bool} (h : GTs S X W cs f) : PTs X cs (fun σ H Q => ∃ R, rdT S R W f σ H Q) := ⟨fun pins s σ H Q I ⟨R, q⟩ => (h R).run pins s σ H Q I q⟩
theorem ex_pe {e : Expr} {f : FE D} (h : GE S X W e f) : PE X e (fun σ H Q => ∃ R, rdE S R W f σ H Q) := ⟨fun pins s σ H Q I ⟨R, q⟩ => (h R).run pins s σ H Q I q⟩
theorem ge_lc {elt iter : Expr} {ifs : List Expr} {scope : Scope} {own : List (Str × Nat)} {c : Bool} {fi : FE Wd} {t : Tn} {ft : FE Bool} {fe : FE D} (hK : S.K = X.K) (hc : X.calm = true) (hN : X.N.Nodup) (hi : GI S X W tg iter fi) (ok : BlkOk X.N X.env.scope scope own)
    (hv : ∀ i ∈ t.slots, i ∈ own.map (·.2))
    (hg : ∀ (s : Shared) (H : Hp) (C : Addr) (cl : List (Str × Addr)) (fp : List Addr), PG (X.blk s H scope (compEnvC scope cl C X.env) fp) tg (tnG X.K t))
    (ht : ∀ (s : Shared) (H : Hp) (C : Addr) (cl : List (Str × Addr)) (fp : List Addr), GTs S (X.blk s H scope (compEnvC scope cl C X.env) fp) W0 ifs ft)
    (he : ∀ (s : Shared) (H : Hp) (C : Addr) (cl : List (Str × Addr)) (fp : List Addr), GE S (X.blk s H scope (compEnvC scope cl C X.env) fp) W0 elt fe)
    (hs : ∀ x, foldedSetIterable iter X.env x = pure x) : GE S X W (.ListComp elt [⟨tg, iter, ifs, 0⟩] scope pos) (fLc c fi t ft fe (own.map (·.2))) := fun R =>
  PE_imp (pe_lc hc hN (hi R) ok hg (fun s H C cl fp => ex_pts (ht s H C cl fp)) (fun s H C cl fp => ex_pe (he s H C cl fp)) hs) fun σ H Q h => lc_rd hK hv h
/-- name = [..] on one line -/
theorem gs_setLc {i : Nat} {y : Str} {py spos : Pos} {elt iter : Expr} {ifs : List Expr} {scope : Scope} {own : List (Str × Nat)} {c : Bool} {fi : FE Wd} {t : Tn} {ft : FE Bool} {fe : FE D} (hK : S.K = X.K) (hc : X.calm = true) (hN : X.N.Nodup) (hy : X.N[i]? = some y) (hyl : X.env.scope.names.lookup y = some .local)
    (hsw : swapsWith (.ListComp elt [⟨tg, iter, ifs, 0⟩] scope pos) (some (.Name y py)) spos.line X.env = pure true) (hi : GI S X W tg iter fi) (ok : BlkOk X.N X.env.scope scope own) (hv : ∀ i ∈ t.slots, i ∈ own.map (·.2))
    (hg : ∀ (s : Shared) (H : Hp) (C : Addr) (cl : List (Str × Addr)) (fp : List Addr), PG (X.blk s H scope (compEnvC scope cl C X.env) fp) tg (tnG X.K t))
    (ht : ∀ (s : Shared) (H : Hp) (C : Addr) (cl : List (Str × Addr)) (fp : List Addr), GTs S (X.blk s H scope (compEnvC scope cl C X.env) fp) W0 ifs ft)
    (he : ∀ (s : Shared) (H : Hp) (C : Addr) (cl : List (Str × Addr)) (fp : List Addr), GE S (X.blk s H scope (compEnvC scope cl C X.env) fp) W0 elt fe)
    (hs : ∀ x, foldedSetIterable iter X.env x = pure x) : GS S X W (.Assign [.Name y py] (.ListComp elt [⟨tg, iter, ifs, 0⟩] scope pos) spos) (sAsg (fLc c fi t ft fe (own.map (·.2))) (gName i)) := fun R => by
  refine PS_imp (ps_setLc hc hN hy hyl hsw (hi R) ok hg (fun s H C cl fp => ex_pts (ht s H C cl fp)) (fun s H C cl fp => ex_pe (he s H C cl fp)) hs) fun T σ H ⟨F, M, env, s, r, h⟩ => ?_
  refine lc_rd hK hv ⟨F, M, env, s, r, (PostS.part h r).mono fun F1 M1 H1 d l1 s1 h1 v rv => ?_⟩
  exact h1 F1 H1 _ .refl s1 ((r.mono l1).set i rv)
end
end En

set_option Elab.async false
set_option linter.all false
set_option maxRecDepth 100000
/-! E6d: enumerate of a tuple. -/
namespace En
open PySem PySem.Spec L2 PyProof.Rows
section
variable {prog : Program} {w : World} {A : Around} {E : Value → Shared → Prop} {s : Shared}
theorem tup_keep {h h' : Heap} {l : Addr} {its : Array Value} (p : h.IsTuple l its) (k : ∀ o, h.get? l = some o → h'.get? l = some o) : h'.IsTuple l its := let ⟨o, ho, r⟩ := p; ⟨o, k _ ho, r⟩
theorem draws_tup (hh : A.handled = none) (it l : Addr) (its : Array Value) : Draws prog w A it [it, l] its.size (fun i x => its[i]? = some x) (fun i h => h.IsTupleIter it l i ∧ h.IsTuple l its ∧ l ≠ it) where
  live := fun i h c => let ⟨o, ho, _⟩ := c.1; ⟨o, ho⟩
  frame := fun i h h' c k => ⟨c.1.at fun o q => k it (by simp) o q, tup_keep c.2.1 fun o q => k l (by simp) o q, c.2.2⟩
  item := fun i s Q E hi c hQ => RZ.nextOf_tuple_item c.1 c.2.1 (Array.getElem?_eq_getElem hi) fun h' c1 sb => hQ _ h' s.toks (Array.getElem?_eq_getElem hi) ⟨c1, tup_keep c.2.1 fun o q => (sb.2 l c.2.2).trans q, c.2.2⟩ sb
  done := fun s Q E c hE => RZ.nextOf_tuple_end hh c.1 c.2.1 (by simp) hE
theorem draws_end (hh : A.handled = none) (it l : Addr) (its : Array Value) (n : Nat) (hn : its.size ≤ n) : Draws prog w A it [it, l] n (fun i x => its[i]? = some x) (fun i h => (h.IsTupleIter it l i ∧ h.IsTuple l its) ∧ i = n) where
  live := fun i h c => let ⟨o, ho, _⟩ := c.1.1; ⟨o, ho⟩
  frame := fun i h h' c k => ⟨⟨c.1.1.at fun o q => k it (by simp) o q, tup_keep c.1.2 fun o q => k l (by simp) o q⟩, c.2⟩
  item := fun i s Q E hi c hQ => absurd c.2 (Nat.ne_of_lt hi)
  done := fun s Q E c hE => RZ.nextOf_tuple_end hh c.1.1 c.1.2 (by simpa using hn) hE
theorem meets_enumT (l : Addr) (items : Array Value) (n : Nat) (dct : Option Addr) (sl : Array (Option Value)) :
    Meets (Builtin.«enumerate.__new__» ⟨[.type "enumerate", .ref l], []⟩) (fun _ R st => st.heap.get? l = some { cls := .type "tuple", dict := dct, data := .seq items n, slots := sl } ∧
      R (.ok (.ret (.ref (st.heap.push { cls := .type "tuple_iterator", data := .fields #[.ref l, .int 0 0] }).objs.size)))
        { st with heap := (st.heap.push { cls := .type "tuple_iterator", data := .fields #[.ref l, .int 0 0] }).push { cls := .type "enumerate", data := .fields #[.none, .bool false, .ref st.heap.objs.size, rawInt 0, .none, .none] } }) :=
  .of_wp fun prog w A R st h => by
    obtain ⟨hp, gl, di, tk, os⟩ := st
    obtain ⟨hl, h⟩ := h
    have hsub := PySem.sub_enumerate
    have hT : Heap.IsTuple (Shared.heap ⟨hp, gl, di, tk, os⟩) l items := ⟨_, hl, rfl, n, rfl⟩
    wp_walk using AutoSeq1.wpAny_loadPart' hl
    refine wpAny_stack_any fun fr => wpAny_pure ?_
    split
    · rename_i c _ _ _ _ _
      cases (c == Value.type "enumerate") <;>
      · wp_walk using AutoSeq1.wpAny_loadPart' hl, wpAny_pyIter_tuple hT
        exact ⟨_, rfl, h⟩
    · wp_walk using AutoSeq1.wpAny_loadPart' hl, wpAny_pyIter_tuple hT
      exact ⟨_, rfl, h⟩
theorem call_enumT {l : Addr} {items : Array Value} {Q : Value → Shared → Prop} (hT : s.heap.IsTuple l items)
    (k : ∀ h1, PySem.IsEnum h1 (s.heap.objs.size + 1) s.heap.objs.size 0 .none → h1.IsTupleIter s.heap.objs.size l 0 → h1.objs.size = s.heap.objs.size + 2 →
      (∀ b o, s.heap.get? b = some o → h1.get? b = some o) → Q (.ref (s.heap.objs.size + 1)) { s with heap := h1 }) :
    wpAny (model prog w) A (call (.type "enumerate") [.ref l]) Q E s := by
  obtain ⟨⟨oc, od, dt, sl⟩, hl, hc, n, hd⟩ := hT
  obtain rfl : oc = .type "tuple" := hc
  obtain rfl : dt = .seq items n := hd
  refine callType_new F.called_enumerate (by decide) (F.typeCall_enumerate_1 _) (F.newCall_enumerate_1 _) (fun ob => F.args_object_init_2 ob _) F.entry_enumerate_new (meets_enumT l items n od sl) ⟨hl, ?_⟩
  let g1 : Heap := s.heap.push { cls := .type "tuple_iterator", data := .fields #[.ref l, .int 0 0] }
  have hz : g1.objs.size = s.heap.objs.size + 1 := Heap.size_push ..
  show (_ : Prop) ∧ _
  have he := Heap.get?_push_size g1 (o := { cls := .type "enumerate", data := .fields #[.none, .bool false, .ref s.heap.objs.size, rawInt 0, .none, .none] }) rfl
  have hq := k (g1.push { cls := .type "enumerate", data := .fields #[.none, .bool false, .ref s.heap.objs.size, rawInt 0, .none, .none] }) (by rw [hz] at he; exact he)
    ⟨_, Heap.get?_push_of_some _ (Heap.get?_push_size _ rfl), rfl, rfl⟩ (by rw [Heap.size_push, hz]) fun b o x => Heap.get?_push_of_some _ (Heap.get?_push_of_some _ x)
  refine ⟨⟨_, he, rfl⟩, ?_⟩
  have hz2 : (.ref g1.objs.size : Value) = .ref (s.heap.objs.size + 1) := by rw [hz]
  show Q (.ref g1.objs.size) _
  rw [hz2]
  exact hq
end
/-- the tuple at a, each item in a new pair with its number -/
def IteT (K : PySem.W.Frag) (a : Addr) : It :=
  ⟨fun j H => ∃ (ys : List V) (y : V), SqT K H a ys ∧ ys[j]? = some y, fun j H v H2 => ∃ (p : Addr) (y : V), v = .ref p ∧ H p = none ∧ H2 = upd H p (.tup [.int (j : Nat), y]) ∧ ∀ ys, SqT K H a ys → ys[j]? = some y, fun j H => ∃ ys : List V, SqT K H a ys ∧ ys.length ≤ j⟩
theorem turn_enumT {P : Program} {w : World} {K : PySem.W.Frag} {elts : List Expr} {kk : Nat} {tpos : Pos} (a e it : Addr) :
    Turn P w K (.Tuple elts kk tpos) (IteT K a) [e, it] e (fun j h => (∃ u, PySem.IsEnum h e it ((j : Nat) : Int) u) ∧ h.IsTupleIter it a j ∧ e ≠ it) where
  mem := by simp
  obj := fun j h c b hb => by
    obtain ⟨⟨u, he⟩, ⟨o, ho, _, hd⟩, _⟩ := c
    rcases (show b = e ∨ b = it by simpa using hb) with rfl | rfl
    · exact ⟨_, he, fun v q => nomatch q⟩
    · exact ⟨o, ho, fun v q => by rw [hd] at q; cases q⟩
  keep := fun j h h2 c k => ⟨let ⟨u, he⟩ := c.1; ⟨u, k e (by simp) _ he⟩, c.2.1.at fun o q => k it (by simp) o q, c.2.2⟩
  item := by
    intro X q1 q2 q3 hc j pins s σ H E I hf c hg
    subst q1 q2 q3
    obtain ⟨⟨old, he⟩, hit, hne⟩ := c
    obtain ⟨ys, y, hq, hy⟩ := hg
    obtain ⟨its, rv, p, hz⟩ := I.tuple hq
    obtain ⟨u, hu, ru⟩ := rv.get hy
    have lte : e < s.heap.objs.size := Heap.lt_size he
    have ltit : it < s.heap.objs.size := let ⟨_, q, _⟩ := hit; Heap.lt_size q
    have nea : a ≠ e := fun z => by
      obtain ⟨o, ho, oc, _⟩ := p
      rw [z] at ho
      rw [show s.heap.get? e = _ from he] at ho
      cases ho
      injection oc with z2
      exact absurd z2 (by decide)
    have neit : a ≠ it := fun z => by
      obtain ⟨o, ho, oc, _⟩ := p
      obtain ⟨o2, ho2, oc2, _⟩ := hit
      rw [z, ho2] at ho
      cases ho; rw [oc2] at oc
      injection oc with z2
      exact absurd z2 (by decide)
    have hj : j < its.toArray.size := by
      have := (List.getElem?_eq_some_iff.mp hu).1
      simpa using this
    refine wpAny_pyNext_enum_itemD (draws_tup (A := X.A.in1) (show X.A.in1.handled = none from I.ok.hd hc) it a its.toArray) he ⟨hit, p, neit⟩ hj hne (by simp [hne, Ne.symm nea]) fun x h1 tk hx ho st1 hT hsz hk => ?_
    have eu : x = u := by
      have : its[j]? = some x := by simpa using hx
      rw [hu] at this; exact (Option.some.inj this).symm
    subst eu
    refine ⟨_, rfl, wpAny_letOwnedTupleGo_enum (s := { s with heap := h1, toks := tk + 1 }) ho fun h2 he2 sb => ?_⟩
    have hT2 : h2.get? s.heap.objs.size = some { cls := .type "tuple", data := .seq #[.int j tk, x] } := (sb.2 _ (Nat.ne_of_gt lte)).trans hT
    have fresh : ObjOk X.prog X.w (upd H s.heap.objs.size (.tup [.int (j : Nat), y])) h2 s.heap.objs.size (.tup [.int (j : Nat), y]) := ⟨(by decide : 2 ≤ sizeLine), [.int j tk, x], .cons ⟨_, rfl⟩ (.cons ru .nil), ⟨_, hT2, rfl, _, rfl⟩⟩
    have I1 : Inv X pins σ (upd H s.heap.objs.size (.tup [.int (j : Nat), y])) { s with heap := h2, toks := tk + 1 } :=
      I.turnedNew (ch := [e, it]) (fun b o hb q => (sb.2 b fun z => hb (by simp [z])).trans (hk b o (fun z => hb (by simp [z])) (fun z => hb (by simp [z])) q)) hf (Nat.le_refl _) fresh
    refine ⟨.ref s.heap.objs.size, _, I1, rfl, ⟨_, y, rfl, I.hok.fresh (Nat.le_refl _), rfl, fun zs hzs => by rw [I.tuple_inj hzs hq]; exact hy⟩, ⟨⟨x, ?_⟩, st1.1.at fun o q => (sb.2 it (Ne.symm hne)).trans q, hne⟩, fun b hb => ?_⟩
    · rw [show ((j + 1 : Nat) : Int) = (j : Int) + 1 by omega]; exact he2
    · have lb : b < s.heap.objs.size := by
        rcases (show b = e ∨ b = it by simpa using hb) with rfl | rfl
        · exact lte
        · exact ltit
      rw [upd_ne (Nat.ne_of_lt lb)]
      exact (hf b hb).1
  done := by
    intro X q1 q2 q3 hc j pins s σ H E I hf c hg
    subst q1 q2 q3
    obtain ⟨⟨old, he⟩, hit, hne⟩ := c
    obtain ⟨ys, hq, hy⟩ := hg
    obtain ⟨its, rv, p, hz⟩ := I.tuple hq
    obtain ⟨f0, f1, f2, f3, f4, f5⟩ := hf it (by simp)
    have ln := rv.length
    exact wpAny_pyNext_enum_endD (draws_end (A := X.A.in1) (show X.A.in1.handled = none from I.ok.hd hc) it a its.toArray j (by simp; omega)) he ⟨⟨hit, p⟩, rfl⟩ fun h1 eb => ⟨rfl, I.turned (t' := s.toks) (fun b o hb q => eb b o hb q) f0 f1 f3 f4 f5⟩
  self := fun A j s Q E c h => let ⟨⟨_, he⟩, _⟩ := c; wpAny_pyIter_enum he h
def iEnumA (K : PySem.W.Frag) (ta : TA) : TI := fun σ H R => ta σ H fun vs H1 => ∃ a ys, vs = [.ref a] ∧ ((SqL K H1 a ys ∧ R (Ite K a) H1) ∨ (SqT K H1 a ys ∧ R (IteT K a) H1))
theorem pi_enumA {X : Cx} {e : Expr} {ta : TA} {p pos tpos : Pos} {elts : List Expr} {kk : Nat} (hg : Gl X "enumerate") (hm : X.mg "enumerate" = none) (ha : PA X [e] ta) (hs : starEach [e] X.env = [(false, eval e X.env)]) :
    PI X (.Tuple elts kk tpos) (.Call (.Name "enumerate" p) [e] [] pos) (iEnumA X.K ta) := by
  refine ⟨fun pins s σ H R I h => Call_ (ld_blt I hg hm PyProof.Rows.boot_enumerate (PyProof.Rows.callWith_type1 (thn (ha.run pos pins s σ H _ I h) fun us s1 ⟨vs, H1, I1, r1, a, ys, ex, q⟩ => ?_) hs rfl))⟩
  subst ex
  obtain ⟨u, rfl, ru⟩ := vals1 r1
  cases ru
  have fp : ∀ b ∈ [s1.heap.objs.size + 1, s1.heap.objs.size], FpOk X pins H1 b := fun b hb => by
    have lb : s1.heap.objs.size ≤ b := by
      rcases (show b = s1.heap.objs.size + 1 ∨ b = s1.heap.objs.size by simpa using hb) with z | z <;> omega
    exact I1.fpOk lb (I1.hok.fresh lb)
  rcases q with ⟨hq, q⟩ | ⟨hq, q⟩
  · obtain ⟨its, rv, pl, hz⟩ := I1.list hq
    exact call_enumerate_list pl.isList fun h1 he hit hsz hk => wpAny_pyIter_enum he ⟨s1.heap.objs.size + 1, [s1.heap.objs.size + 1, s1.heap.objs.size], _, _, H1, rfl, I1.kept (t' := s1.toks) hk, turn_enum a (s1.heap.objs.size + 1) s1.heap.objs.size, ⟨⟨.none, he⟩, hit, Nat.succ_ne_self _⟩, fp, q⟩
  · obtain ⟨its, rv, pl, hz⟩ := I1.tuple hq
    exact call_enumT (show s1.heap.IsTuple a its.toArray from pl) fun h1 he hit hsz hk => wpAny_pyIter_enum he ⟨s1.heap.objs.size + 1, [s1.heap.objs.size + 1, s1.heap.objs.size], _, _, H1, rfl, I1.kept (t' := s1.toks) hk, turn_enumT a (s1.heap.objs.size + 1) s1.heap.objs.size, ⟨⟨.none, he⟩, hit, Nat.succ_ne_self _⟩, fp, q⟩
end En

set_option Elab.async false
set_option linter.all false
set_option maxRecDepth 100000
/-! E6c: ranges with a step: gone over, as lists, counted. -/
namespace En
open PySem PySem.Spec PyProof.Rows L2

/-- how many turns range(i, j, c) has -/
def rngN (i j c : Int) : Nat := (Builtin.Range.rangeSize i j c).toNat
/-- its ints -/
def rngC (i c : Int) (n : Nat) : List D := (List.range n).map fun t => .int (i + (t : Nat) * c)
def R3 (i j c : Int) : Prop := c ≠ 0 ∧ (-1000000 ≤ i ∧ i ≤ 1000000) ∧ (-1000000 ≤ j ∧ j ≤ 1000000) ∧ -1000000 ≤ c ∧ c ≤ 1000000
instance {i j c : Int} : Decidable (R3 i j c) := by unfold R3; infer_instance
theorem rngN_le {i j c : Int} (h : R3 i j c) : rngN i j c ≤ 2000000 := by
  obtain ⟨_, h1, h2, _⟩ := h
  have := rangeSize_toNat_le i j c
  unfold rngN
  omega
theorem rngN_eq (i j c : Int) : Builtin.Range.rangeSize i j c = (rngN i j c : Nat) := rangeSize_toNat i j c
theorem r3_small {i j c : Int} (h : R3 i j c) : Builtin.Range.small i j c = true := by
  have hn := rngN_le h
  have e := rngN_eq i j c
  obtain ⟨_, h1, h2, h3⟩ := h
  unfold Builtin.Range.small
  rw [e]
  simp only [Builtin.Range.rangeFitsLong, Bool.and_eq_true, Bool.or_eq_true, decide_eq_true_eq, beq_iff_eq]
  refine ⟨⟨⟨⟨by omega, by omega⟩, by omega⟩, by omega⟩, .inr ?_⟩
  split
  · simp only [Bool.and_eq_true, decide_eq_true_eq]; omega
  · simp only [Bool.and_eq_true, decide_eq_true_eq]; omega
theorem r3_rgc {i j c : Int} (h : R3 i j c) : RgC i j c (rngN i j c) := by
  have sm := r3_small h
  obtain ⟨h0, h1, h2, h3⟩ := h
  exact ⟨h0, by omega, sm, rngN_eq i j c⟩
theorem rngC_len (i c : Int) (n : Nat) : (rngC i c n).length = n := by unfold rngC; simp
theorem rngC_at {i c : Int} {n t : Nat} (h : t < n) : (rngC i c n)[t]? = some (.int (i + (t : Nat) * c)) := by unfold rngC; simp [h]

section
variable {X : Cx} {a b c : Expr} {ta tb tc : TE}
/-- the expression makes a range with a step -/
def tRg3 (ta tb tc : TE) : L2.St → Hp → (Int → Int → Int → Hp → Prop) → Prop := fun σ H Q => ta σ H fun x H1 => tb σ H1 fun y H2 => tc σ H2 fun z H3 => ∃ i j k, x = .int i ∧ y = .int j ∧ z = .int k ∧ R3 i j k ∧ Q i j k H3
def PRg3 (X : Cx) (e : Expr) (t : L2.St → Hp → (Int → Int → Int → Hp → Prop) → Prop) : Prop :=
  ∀ (pins : List (Addr × Obj)) (s : Shared) (σ : L2.St) (H : Hp) (Q : Int → Int → Int → Hp → Prop), Inv X pins σ H s → t σ H Q →
    wpAny (model X.prog X.w) X.A (eval e X.env) (fun x s' => ∃ r i j k t u v H', x = .ref r ∧ IsRange s'.heap r i j k t u v ∧ Inv X pins σ H' s' ∧ R3 i j k ∧ Q i j k H') X.xe s
theorem prg_3 {p pos : Pos} (hg : Gl X "range") (hm : X.mg "range" = none) (ha : PE X a ta) (hb : PE X b tb) (hd : PE X c tc)
    (na : starEach [a, b, c] X.env = (false, eval a X.env) :: starEach [b, c] X.env) (nb : starEach [b, c] X.env = (false, eval b X.env) :: starEach [c] X.env) (nc : starEach [c] X.env = (false, eval c X.env) :: starEach [] X.env)
    (hp : (backTo pos (starEach [b, c] X.env)).any (·.1) = false) :
    PRg3 X (.Call (.Name "range" p) [a, b, c] [] pos) (tRg3 ta tb tc) := by
  intro pins s σ H Q I h
  refine Call_ (ld_blt I hg hm boot_range (PyProof.Rows.callWith_type1 (args_cons (thn (ha.run pins s σ H _ I h) fun v s1 ⟨x, H1, I1, r1, q1⟩ => args_cons (thn (hb.run pins s1 σ H1 _ I1 q1) fun v2 s2 ⟨x2, H2, I2, r2, q2⟩ => one_arg hd I2 q2 (fun u s3 y H3 I3 r3 q => ?_) nc) nb) na) na hp))
  obtain ⟨i, j, k, rfl, rfl, rfl, ok, q⟩ := q
  obtain ⟨t, rfl⟩ := r1
  obtain ⟨t', rfl⟩ := r2
  obtain ⟨t'', rfl⟩ := r3
  exact call_range_3 ok.1 ⟨_, i, j, k, _, _, _, H3, rfl, IsRange.new .., I3.kept fun b u e => Heap.get?_push_of_some _ e, ok, q⟩ (.inl (PyProof.noPylong_small (by obtain ⟨_, _, _, _⟩ := ok; omega)))
variable {e : Expr} {te : L2.St → Hp → (Int → Int → Int → Hp → Prop) → Prop}
/-- the ints of a range with a step -/
def rgV3 (i c : Int) (n : Nat) : List V := (List.range n).map fun t => V.int (i + (t : Nat) * c)
theorem rgV3_length (i c : Int) (n : Nat) : (rgV3 i c n).length = n := by unfold rgV3; simp
theorem vals_rg3 {i c : Int} {n : Nat} {acc : Array Value} (h : ItemsOf (fun t v => ∃ k, v = .int (i + t * c) k) acc n) : Vals (rgV3 i c n) acc.toList := by
  have e : acc.toList.length = n := by rw [Array.length_toList]; exact h.1
  unfold rgV3
  rw [← e]
  refine vals_of_get acc.toList _ fun j u hj => ?_
  obtain ⟨t, rfl⟩ := h.2 j u (by rw [← hj, Array.getElem?_toList])
  exact ⟨t, rfl⟩
def tLstRg3 (te : L2.St → Hp → (Int → Int → Int → Hp → Prop) → Prop) : TE := fun σ H Q => te σ H fun i j c H1 => ∀ q, H1 q = none → Q (.ref q) (upd H1 q (.lst (rgV3 i c (rngN i j c))))
theorem pe_listRg3 {p pos : Pos} (hc : X.calm = true) (hg : Gl X "list") (hm : X.mg "list" = none) (he : PRg3 X e te) (na : starEach [e] X.env = (false, eval e X.env) :: starEach [] X.env) : PE X (.Call (.Name "list" p) [e] [] pos) (tLstRg3 te) := by
  refine ⟨fun pins s σ H Q I h => ?_⟩
  refine Call_ (ld_blt I hg hm boot_list (PyProof.Rows.callWith_type1 (args_cons (thn (he pins s σ H _ I h) fun x s1 ⟨r, a, b, c, t, u, v, H1, ex, hr, I1, ok, q⟩ => args_nil ?_) na) na))
  subst ex
  have hn := rngN_le ok
  refine call_list_range (n := rngN a b c) (I1.ok.hd hc) hr (r3_small ok) (rngN_eq a b c) (by omega) fun h' tk acc c' hk e' hi => ?_
  refine ⟨.ref s1.heap.objs.size, upd H1 s1.heap.objs.size (.lst (rgV3 a c (rngN a b c))), I1.laid hk (Nat.le_refl _) (show ObjOk X.prog X.w _ _ _ (.lst (rgV3 a c (rngN a b c))) from ⟨?_, acc.toList, c', vals_rg3 hi, ?_⟩), rfl, q _ (I1.hok.fresh (Nat.le_refl _))⟩
  · rw [rgV3_length, sizeLine_eq]; omega
  · rw [Array.toArray_toList]; exact e'
def tLenRg3 (te : L2.St → Hp → (Int → Int → Int → Hp → Prop) → Prop) : TE := fun σ H Q => te σ H fun i j c H1 => Q (.int (rngN i j c : Nat)) H1
theorem pe_lenRg3 {p pos : Pos} (hg : Gl X "len") (hm : X.mg "len" = none) (he : PRg3 X e te) (na : starEach [e] X.env = (false, eval e X.env) :: starEach [] X.env) : PE X (.Call (.Name "len" p) [e] [] pos) (tLenRg3 te) := by
  refine ⟨fun pins s σ H Q I h => ?_⟩
  refine Call_ (ld_blt I hg hm boot_len (PyProof.Rows.callWith_builtin1 (args_cons (thn (he pins s σ H _ I h) fun x s1 ⟨r, a, b, c, t, u, v, H1, ex, hr, I1, ok, q⟩ => args_nil ?_) na) na))
  subst ex
  have hn := rngN_le ok
  exact PySem.call_len_range hr (rngN_eq a b c) (by omega) ⟨.int (rngN a b c : Nat), H1, I1.kept fun b o e => e, ⟨_, rfl⟩, q⟩
end

/-! over the deep values -/
section
variable {S : Sur} {X : Cx} {W : WX} {a b c tg : Expr} {fa fb fc : FE D} {pos p : Pos}
def gRng3 (ds : List D) (M : Mem) : Res Wd :=
  match ds with
  | [.int i, .int j, .int c] => if R3 i j c then .ok ⟨none, rngC i c (rngN i j c)⟩ M else .bad
  | _ => .bad
theorem rels3 {R : Addr → Prop} {F : Ads} {M : Mem} {H : Hp} {d e f : D} {vs : List V} (r : Rels S R F M H [d, e, f] vs) : ∃ v u w, vs = [v, u, w] ∧ RelD S R F M H d v ∧ RelD S R F M H e u ∧ RelD S R F M H f w := by
  obtain ⟨l, k⟩ := r
  match vs, l with
  | [v, u, w], _ => exact ⟨v, u, w, rfl, k 0 d v rfl rfl, k 1 e u rfl rfl, k 2 f w rfl rfl⟩
theorem wk_rng3 {R : Addr → Prop} {F : Ads} {M : Mem} {H : Hp} (i c : Int) (n : Nat) : Wk S R ⟨none, rngC i c n⟩ (Itc i c n) F M H := fun R' F' M' H' k1 k2 l' s' _ => by
  refine ⟨fun t ht => ?_, fun t ht => by rw [rngC_len] at ht; exact ht⟩
  rw [rngC_len] at ht
  refine ⟨ht, fun x H'' ⟨e1, e2⟩ => ?_⟩
  subst e1 e2
  exact ⟨.refl, s', _, rngC_at ht, .int _⟩
theorem gi_rng3 {f : FE (List D)} (hg : Gl X "range") (hm : X.mg "range" = none) (ha : GA S X W [a, b, c] f) (hs : starEach [a, b, c] X.env = (false, eval a X.env) :: starEach [b, c] X.env) (hp : (backTo pos (starEach [b, c] X.env)).any (·.1) = false) : GI S X W tg (.Call (.Name "range" p) [a, b, c] [] pos) (fWds gRng3 f) := fun R => by
  refine PI_imp (pi_range3 hg hm (ha R) hs hp) fun σ H Q ⟨F, M, env, s, r, h⟩ => ⟨F, M, env, s, r, (Post.bind h).mono fun F1 M1 H1 ds l1 s1 h1 vs rs => ?_⟩
  unfold gRng3 at h1
  split at h1
  · rename_i i j k
    split at h1
    · rename_i ok
      obtain ⟨v, u, w, rfl, rv, ru, rw'⟩ := rels3 rs
      cases int_at rv
      cases int_at ru
      cases int_at rw'
      exact ⟨i, j, k, _, rfl, r3_rgc ok, h1 F1 H1 .refl s1 _ (wk_rng3 i k _)⟩
    · exact h1.elim
  · exact h1.elim
def gRngL3 (cl : Bool) (ds : List D) (M : Mem) : Res D :=
  match ds with
  | [.int i, .int j, .int c] => if R3 i j c then fin cl (rngC i c (rngN i j c)) M else .bad
  | _ => .bad
def gLenR (ds : List D) (M : Mem) : Res D :=
  match ds with
  | [.int i, .int j, .int c] => if R3 i j c then .ok (.int (rngN i j c : Nat)) M else .bad
  | _ => .bad
theorem rgV3_rel {R : Addr → Prop} {F : Ads} {M : Mem} {H : Hp} (i c : Int) (n : Nat) : Rels S R F M H (rngC i c n) (rgV3 i c n) := by
  unfold rngC rgV3
  refine ⟨by simp, fun i d v h1 h2 => ?_⟩
  rw [List.getElem?_map] at h1 h2
  cases q : (List.range n)[i]? with
  | none => rw [q] at h1; cases h1
  | some j => rw [q] at h1 h2; cases h1; cases h2; exact .int _
theorem ge_rngL3 {cl : Bool} (hc : X.calm = true) (hg : Gl X "list") (hm : X.mg "list" = none) (hg2 : Gl X "range") (hm2 : X.mg "range" = none) (ha : GE S X W a fa) (hb : GE S X W b fb) (hd : GE S X W c fc) {p2 pos2 : Pos}
    (na : starEach [a, b, c] X.env = (false, eval a X.env) :: starEach [b, c] X.env) (nb : starEach [b, c] X.env = (false, eval b X.env) :: starEach [c] X.env) (nc : starEach [c] X.env = (false, eval c X.env) :: starEach [] X.env)
    (hp : (backTo pos2 (starEach [b, c] X.env)).any (·.1) = false) (hn : starEach [.Call (.Name "range" p2) [a, b, c] [] pos2] X.env = (false, eval (.Call (.Name "range" p2) [a, b, c] [] pos2) X.env) :: starEach [] X.env) :
    GE S X W (.Call (.Name "list" p) [.Call (.Name "range" p2) [a, b, c] [] pos2] [] pos) (fCl (gRngL3 cl) (fCons fa (fCons fb (fCons fc fNil)))) := fun R => by
  refine PE_imp (pe_listRg3 hc hg hm (prg_3 hg2 hm2 (ha R) (hb R) (hd R) na nb nc hp) hn) fun σ H Q ⟨F, M, env, s, e, h⟩ => ?_
  have h' := Post.bind (Post.bind h)
  refine ⟨F, M, env, s, e, h'.mono fun F1 M1 H1 d l1 s1 h1 v rv => ?_⟩
  have h2 := Post.bind (Post.bind h1)
  refine ⟨F1, M1, env, s1, e.mono l1, h2.mono fun F2 M2 H2 d2 l2 s2 h3 u ru => ?_⟩
  have h4 := Post.bind (Post.bind h3)
  refine ⟨F2, M2, env, s2, (e.mono l1).mono l2, h4.mono fun F3 M3 H3 d3 l3 s3 h5 w rw' => ?_⟩
  have h6 : Post S R W σ F3 M3 H3 (KE S R Q) (gRngL3 cl [d, d2, d3] M3) := h5 F3 H3 .refl s3 F3 H3 .refl s3 F3 H3 .refl s3
  have rv2 := (rv.mono l2).mono l3
  have ru2 := ru.mono l3
  unfold gRngL3 at h6
  split at h6
  · rename_i i j k e0
    cases e0
    cases int_at rv2
    cases int_at ru2
    cases int_at rw'
    split at h6
    · rename_i ok
      exact ⟨i, j, k, rfl, rfl, rfl, ok, fun q hq => fin_ok s3 (rgV3_rel i k _) h6 hq⟩
    · exact h6.elim
  · exact h6.elim
theorem ge_lenR {p2 pos2 : Pos} (hg : Gl X "len") (hm : X.mg "len" = none) (hg2 : Gl X "range") (hm2 : X.mg "range" = none) (ha : GE S X W a fa) (hb : GE S X W b fb) (hd : GE S X W c fc)
    (na : starEach [a, b, c] X.env = (false, eval a X.env) :: starEach [b, c] X.env) (nb : starEach [b, c] X.env = (false, eval b X.env) :: starEach [c] X.env) (nc : starEach [c] X.env = (false, eval c X.env) :: starEach [] X.env)
    (hp : (backTo pos2 (starEach [b, c] X.env)).any (·.1) = false) (hn : starEach [.Call (.Name "range" p2) [a, b, c] [] pos2] X.env = (false, eval (.Call (.Name "range" p2) [a, b, c] [] pos2) X.env) :: starEach [] X.env) :
    GE S X W (.Call (.Name "len" p) [.Call (.Name "range" p2) [a, b, c] [] pos2] [] pos) (fCl gLenR (fCons fa (fCons fb (fCons fc fNil)))) := fun R => by
  refine PE_imp (pe_lenRg3 hg hm (prg_3 hg2 hm2 (ha R) (hb R) (hd R) na nb nc hp) hn) fun σ H Q ⟨F, M, env, s, e, h⟩ => ?_
  have h' := Post.bind (Post.bind h)
  refine ⟨F, M, env, s, e, h'.mono fun F1 M1 H1 d l1 s1 h1 v rv => ?_⟩
  have h2 := Post.bind (Post.bind h1)
  refine ⟨F1, M1, env, s1, e.mono l1, h2.mono fun F2 M2 H2 d2 l2 s2 h3 u ru => ?_⟩
  have h4 := Post.bind (Post.bind h3)
  refine ⟨F2, M2, env, s2, (e.mono l1).mono l2, h4.mono fun F3 M3 H3 d3 l3 s3 h5 w rw' => ?_⟩
  have h6 : Post S R W σ F3 M3 H3 (KE S R Q) (gLenR [d, d2, d3] M3) := h5 F3 H3 .refl s3 F3 H3 .refl s3 F3 H3 .refl s3
  have rv2 := (rv.mono l2).mono l3
  have ru2 := ru.mono l3
  unfold gLenR at h6
  split at h6
  · rename_i i j k e0
    cases e0
    cases int_at rv2
    cases int_at ru2
    cases int_at rw'
    split at h6
    · rename_i ok
      exact ⟨i, j, k, rfl, rfl, rfl, ok, h6 F3 H3 .refl s3 _ (.int _)⟩
    · exact h6.elim
  · exact h6.elim
end
end En

set_option Elab.async false
set_option linter.all false
set_option maxRecDepth 100000
/-! E6b: {e for x in xs} of ints, and how many there are. -/
namespace En
open PySem PySem.Spec PyProof.Rows L2
section
variable {X : Cx}
/-- what a block that makes a set of ints asks -/
def tSi (w : World) (wi : TI) (g : TG) (tt : TT) (te : TE) (vs : List Nat) : TE := fun σ H Q => wi σ H fun J H1 => ∀ p, H1 p = none →
  ∃ In : Nat → Nat → Hp → Prop, (∃ m, In 0 m (upd H1 p (SetO w p (fun _ => false) 0))) ∧
    ∀ i m H2, In i m H2 → (J.stop i H2 ∧ Q (.ref p) H2) ∨ (J.go i H2 ∧ ∃ On : Hp → Prop, (∀ H3, On H3 → ∃ m2, m2 < m ∧ In (i + 1) m2 H3) ∧
      ∀ x H3, J.yld i H2 x H3 → g x (wipe σ vs) H3 fun σ2 H4 => wipe σ2 vs = wipe σ vs ∧ tt σ2 H4 fun b H5 =>
        if b = true then te σ2 H5 fun y H6 => ∃ (k : Int) (Z : Int → Bool) (n : Nat), y = .int k ∧ H6 p = some (SetO w p Z n) ∧ n + 1 < scanBound ∧ On (upd H6 p (SetO w p (fun j => Z j || decide (j = k)) (if Z k = true then n else n + 1)))
        else On H5)
/-- set.add of an int, on the set being made -/
theorem addI_ok {pins : List (Addr × Obj)} {σ : L2.St} {H : Hp} {s : Shared} {E : Value → Shared → Prop} {p : Addr} {Z : Int → Bool} {n : Nat} {k : Int} {tk : Tok} {Q : Value → Shared → Prop} (I : Inv X pins σ H s) (hp : H p = some (SetO X.w p Z n)) (room : n + 1 < scanBound)
    (h : ∀ s2, Inv X pins σ (upd H p (SetO X.w p (fun j => Z j || decide (j = k)) (if Z k = true then n else n + 1))) s2 → Q .none s2) : wpAny (model X.prog X.w) X.A (call (.builtin "set.add") [.ref p, .int k tk]) Q E s :=
  setR_add (setO_get I hp) room fun h2 sb nw => h _ (I.write (e := p) (t' := s.toks + 1) (by rw [hp]; trivial) (.inl rfl) (fun b u hb hu => (sb.2 b hb).trans hu) (let ⟨o, _, _, _, ho, _⟩ := nw; ⟨o, ho⟩) (setO_new nw))
theorem pe_si {elt tg iter : Expr} {ifs : List Expr} {scope : Scope} {own : List (PySem.Str × Nat)} {pos : Pos} {wi : TI} {g : TG} {tt : TT} {te : TE} (hc : X.calm = true) (hN : X.N.Nodup) (hi : PI X tg iter wi) (ok : BlkOk X.N X.env.scope scope own)
    (hg : ∀ (s : Shared) (H : Hp) (C : Addr) (cl : List (PySem.Str × Addr)) (fp : List Addr), PG (X.blk s H scope (compEnvC scope cl C X.env) fp) tg g)
    (ht : ∀ (s : Shared) (H : Hp) (C : Addr) (cl : List (PySem.Str × Addr)) (fp : List Addr), PTs (X.blk s H scope (compEnvC scope cl C X.env) fp) ifs tt)
    (he : ∀ (s : Shared) (H : Hp) (C : Addr) (cl : List (PySem.Str × Addr)) (fp : List Addr), PE (X.blk s H scope (compEnvC scope cl C X.env) fp) elt te)
    (hs : ∀ x, foldedSetIterable iter X.env x = pure x) : PE X (.SetComp elt [⟨tg, iter, ifs, 0⟩] scope pos) (tSi X.w wi g tt te (own.map (·.2))) := by
  refine ⟨fun pins s σ H Q I h => ?_⟩
  rw [PpSet.eval_SetComp]
  have free : ∀ y ∈ scope.names, y.2 = .free → ∃ c, X.env.cells.lookup y.1 = some c := fun y hy e => (ok.free y hy e).elim (fun k => I.ok.has _ (.inl k)) fun k => I.ok.has _ (.inr k)
  refine wpAny_comprehension_free (use := none) rfl hs (closure_ok free) ok.kind (fun y hy e => by rw [ok.uniq y hy, e]) (thn (hi.run pins s σ H _ I h) fun _ s1 hx => thn hx fun _ s2 h2 => ?_)
  obtain ⟨it, fp, tn, J, H2, e, I2, Wk, st2, f2, q⟩ := h2
  subst e
  refine PpSet.newSet_ok (newEnv_comp ?_)
  have p0 : H2 s2.heap.objs.size = none := I2.hok.fresh (Nat.le_refl _)
  obtain ⟨In, ⟨m0, in0⟩, turn⟩ := q _ p0
  have bare0 := setR_fresh (h := s2.heap) X.w
  revert bare0
  generalize ep : s2.heap.objs.size = p at *
  generalize eb : s2.heap.push { cls := .type "set", dict := none, data := .set #[] 0 (.fresh 0 0 (!X.w.params.followText "set-order")) } = hb
  intro bare0
  have grow : ∀ b o, s2.heap.get? b = some o → hb.get? b = some o := fun b o z => eb ▸ Heap.get?_push_of_some _ z
  have I3 : Inv X pins σ (upd H2 p (SetO X.w p (fun _ => false) 0)) { s2 with heap := hb } := I2.laid (t' := s2.toks) grow (Nat.le_of_eq ep) (setO_new bare0)
  have f3 : ∀ b ∈ fp, FpOk X pins (upd H2 p (SetO X.w p (fun _ => false) 0)) b ∧ b < hb.objs.size := fun b hmem => by
    obtain ⟨o, eo, _⟩ := Wk.obj _ _ st2 b hmem
    have lt := Heap.lt_size eo
    have np : b ≠ p := by rw [← ep]; exact Nat.ne_of_lt lt
    refine ⟨⟨by rw [upd_ne np]; exact (f2 b hmem).1, (f2 b hmem).2⟩, ?_⟩
    rw [← eb, Heap.size_push]; exact Nat.lt_succ_of_lt lt
  have st3 : tn 0 hb := Wk.keep _ _ _ st2 fun b _ o z => grow b o z
  have I4 := block_start I3 ok hN f3
  have pg := hg { s2 with heap := hb } (upd H2 p (SetO X.w p (fun _ => false) 0)) hb.objs.size (cellsFrom (hb.objs.size + 1) scope.names (cloFrom X.env.cells scope.names [])) fp
  have pt := ht { s2 with heap := hb } (upd H2 p (SetO X.w p (fun _ => false) 0)) hb.objs.size (cellsFrom (hb.objs.size + 1) scope.names (cloFrom X.env.cells scope.names [])) fp
  have pe := he { s2 with heap := hb } (upd H2 p (SetO X.w p (fun _ => false) 0)) hb.objs.size (cellsFrom (hb.objs.size + 1) scope.names (cloFrom X.env.cells scope.names [])) fp
  have nf : ∀ b ∈ fp, (upd H2 p (SetO X.w p (fun _ => false) 0)) b = none := fun b z => (f3 b z).1.1
  show codeAny (model X.prog X.w) X.A (.compStart (.SetComp elt [⟨tg, iter, ifs, 0⟩] scope pos) 0 (.ref it) (.ref p) (compEnvC scope (cellsFrom (hb.objs.size + 1) scope.names (cloFrom X.env.cells scope.names [])) hb.objs.size X.env))
    (compPost (model X.prog X.w) X.A X.xe none (EP X pins σ Q) (.ref p) hb.objs.size) { s2 with heap := pushCells (hb.push { cls := .type "dict", data := .dict #[] }) scope.names }
  revert I4 pg pt pe
  generalize eU : upd H2 p (SetO X.w p (fun _ => false) 0) = U at *
  generalize eB : compEnvC scope (cellsFrom (hb.objs.size + 1) scope.names (cloFrom X.env.cells scope.names [])) hb.objs.size X.env = B
  intro I4 pg pt pe
  have cB : B.locals = hb.objs.size := by subst eB; rfl
  have st4 : tn 0 (pushCells (hb.push { cls := .type "dict", data := .dict #[] }) scope.names) := Wk.keep _ _ _ st3 fun b _ o z => pushCells_keeps _ _ _ _ (Heap.get?_push_of_some _ z)
  -- what is walked over is out of the block's reach
  have away : ∀ {τ : L2.St} {H' : Hp} {s' : Shared}, Inv (X.blk { s2 with heap := hb } U scope B fp) [] τ H' s' → (∀ b ∈ fp, H' b = none) → ∀ b ∈ fp, FpOk (X.blk { s2 with heap := hb } U scope B fp) [] H' b := fun {τ H' s'} J' hn b m =>
    ⟨hn b m, (J'.ok.exf b m).1, J'.ok.exfs b m, .inl m, fun x c z => (J'.ok.exf b m).2 x c z, fun y hy => absurd (show y ∈ ([] : List (Addr × Obj)) ++ [] from hy) (by simp)⟩
  have loop : codeAny (model X.prog X.w) X.A (.compLoop (.SetComp elt [⟨tg, iter, ifs, 0⟩] scope pos) 0 (.ref it) (.ref p) B) (compPost (model X.prog X.w) X.A X.xe none (EP X pins σ Q) (.ref p) hb.objs.size) { s2 with heap := pushCells (hb.push { cls := .type "dict", data := .dict #[] }) scope.names } := by
    refine PpSet.compLoopS_any (fun m s' => ∃ i H', Inv (X.blk { s2 with heap := hb } U scope B fp) [] (wipe σ (own.map (·.2))) H' s' ∧ tn i s'.heap ∧ (∀ b ∈ fp, H' b = none) ∧ In i m H') ?_ m0 ⟨0, U, I4, st4, nf, in0⟩
    rintro m s5 ⟨i, H5, I5, st5, n5, in5⟩
    rcases turn i m H5 in5 with ⟨stop, qq⟩ | ⟨go, On, less, step⟩
    · refine thnF (Wk.done (X.blk { s2 with heap := hb } U scope B fp) rfl rfl rfl hc i [] s5 _ H5 (fun _ _ => False) I5 (away I5 n5) st5 stop) fun r s6 ⟨er, I6⟩ => ?_
      subst er
      have I7 : Inv X pins σ H5 s6 := I3.call' (ch := fp) I6.os I6.base I6.hok I6.bare fun b m => ⟨(f3 b m).1.2.2.2.1, (f3 b m).1.2.1, (f3 b m).1.2.2.2.2.1, (f3 b m).1.2.2.2.2.2⟩
      have n0 : H5 hb.objs.size = none := by
        have z : H5 B.locals = none := I6.free
        rw [cB] at z; exact z
      obtain ⟨mm, hn, _⟩ := I6.loc
      have hn2 : s6.heap.Ns B.locals mm := hn
      rw [cB] at hn2
      refine ⟨mm, hn2, fun h'' sb => ?_⟩
      obtain ⟨z0, z1, z2, z3, z4, z5⟩ := I3.fpOk (Nat.le_refl _) n0
      exact ⟨.ref p, H5, I7.turned (t' := s6.toks) (fun b o hne z => (sb.2 b hne).trans z) z0 z1 z3 z4 z5, rfl, qq⟩
    · refine thnF (Wk.item (X.blk { s2 with heap := hb } U scope B fp) rfl rfl rfl hc i [] s5 _ H5 (fun _ _ => False) I5 (away I5 n5) st5 go) fun r s6 ⟨u, er, h6⟩ => ?_
      subst er
      refine thnF h6 fun _ s7 ⟨x, H7, I7, r7, y7, st7, n7⟩ => ?_
      refine thnF (pg.run _ s7 _ H7 x u _ (I7.pinned (away I7 n7) (Wk.obj _ _ st7)) r7 (step x H7 y7)) fun _ s8 ⟨σ8, H8, I8, w8, q8⟩ => ?_
      refine thnF (pt.run _ s8 σ8 H8 _ I8 q8) fun b s9 ⟨H9, I9, q9⟩ => ?_
      have close : ∀ {s' : Shared} {H' : Hp}, Inv (X.blk { s2 with heap := hb } U scope B fp) ([] ++ pinsAt fp s7.heap) σ8 H' s' → On H' → ∃ m2, m2 < m ∧ ∃ i H', Inv (X.blk { s2 with heap := hb } U scope B fp) [] (wipe σ (own.map (·.2))) H' s' ∧ tn i s'.heap ∧ (∀ b ∈ fp, H' b = none) ∧ In i m2 H' := fun {s' H'} I' on => by
        obtain ⟨m2, lt, nx⟩ := less H' on
        have pinned : ∀ b ∈ fp, ∀ o, s7.heap.get? b = some o → s'.heap.get? b = some o ∧ H' b = none := fun b hm o z => (fun q => ⟨q.1, q.2.1⟩) (I'.pin (b, o) (List.mem_append_right _ (List.mem_append_right _ (mem_pinsAt hm z))))
        refine ⟨m2, lt, i + 1, H', (I'.unpinned (pins := [])).weak (by rw [← w8, wipe_length]) (fun j v z => ?_), Wk.keep _ _ _ st7 fun b hm o z => (pinned b hm o z).1, fun b hm => ?_, nx⟩
        · rw [← w8] at z; exact (wipe_some z).1
        · obtain ⟨o, z, _⟩ := Wk.obj _ _ st7 b hm
          exact (pinned b hm o z).2
      cases b with
      | false =>
        simp only [Bool.false_eq_true, if_false] at q9 ⊢
        exact close I9 q9
      | true =>
        simp only [if_true] at q9 ⊢
        refine thnF (pe.run _ s9 σ8 H9 _ I9 q9) fun z s10 ⟨yv, H10, I10, r10, k, Z0, n0, ey, hp10, rm, on⟩ => ?_
        subst ey
        obtain ⟨tk, rfl⟩ : ∃ tk, z = Value.int k tk := r10
        exact addI_ok (X := X.blk { s2 with heap := hb } U scope B fp) I10 hp10 rm fun s11 I11 => close I11 on
  exact PpSet.codeAny_compStart_set loop (Wk.self X.A 0 _ _ _ st4 loop)
theorem cr_lenI : CallR X (.builtin "len") (fun xs H Q => ∃ (a : Addr) (Z : Int → Bool) (n : Nat), xs = [V.ref a] ∧ H a = some (SetO X.w a Z n) ∧ Q (.int n) H) := by
  intro pins s σ H xs us Q I r h
  obtain ⟨a, Z, n, rfl, ha, q⟩ := h
  obtain ⟨u, rfl, ru⟩ := vals1 r
  obtain rfl : u = Value.ref a := ru
  obtain ⟨o, es, ep, t, ho, hex, hd, _, _, _, hb, hf, hn, _⟩ := setO_get I ha
  refine call_len_set ho hex hd hf ?_ ⟨.int n, H, I.tok _, ⟨_, by rw [hn]⟩, q⟩
  have : es.size < 4096 := hb
  omega
end
/-! ### the same on deep values -/
def uq (l : List Int) : List Int := l.foldl (fun s x => if x ∈ s then s else s ++ [x]) []
theorem uq_snoc (l : List Int) (x : Int) : uq (l ++ [x]) = if x ∈ uq l then uq l else uq l ++ [x] := by
  unfold uq; rw [List.foldl_append]; rfl
theorem uq_mem : ∀ {l : List Int} {x : Int}, x ∈ uq l ↔ x ∈ l := by
  have key : ∀ (l s : List Int) (x : Int), x ∈ l.foldl (fun s x => if x ∈ s then s else s ++ [x]) s ↔ x ∈ s ∨ x ∈ l := by
    intro l
    induction l with
    | nil => intro s x; simp
    | cons y l ih =>
      intro s x
      rw [List.foldl_cons, ih]
      split
      · rename_i h
        constructor
        · rintro (h1 | h1)
          · exact .inl h1
          · exact .inr (List.mem_cons_of_mem _ h1)
        · rintro (h1 | h1)
          · exact .inl h1
          · rcases List.mem_cons.mp h1 with rfl | h1
            · exact .inl h
            · exact .inr h1
      · simp only [List.mem_append, List.mem_cons, List.not_mem_nil, or_false]
        constructor
        · rintro ((h1 | h1) | h1)
          · exact .inl h1
          · exact .inr (.inl h1)
          · exact .inr (.inr h1)
        · rintro (h1 | h1 | h1)
          · exact .inl (.inl h1)
          · exact .inl (.inr h1)
          · exact .inr h1
  intro l x
  unfold uq
  rw [key]; simp
theorem uq_len (l : List Int) : (uq l).length ≤ l.length := by
  have key : ∀ (l s : List Int), (l.foldl (fun s x => if x ∈ s then s else s ++ [x]) s).length ≤ s.length + l.length := by
    intro l
    induction l with
    | nil => intro s; simp
    | cons y l ih =>
      intro s
      rw [List.foldl_cons]
      refine Nat.le_trans (ih _) ?_
      split <;> simp <;> omega
  have := key l []
  simpa [uq] using this
/-- how many unlike ints -/
def lenU (xs : List D) (M : Mem) : Res D := match asInts xs with | some ns => if ns.length ≤ 4000 then .ok (.int ((uq ns).length : Nat)) M else .bad | none => .bad
def gLenU (ds : List D) (M : Mem) : Res D := match ds with
  | [.lst xs] => lenU xs M
  | _ => .bad
theorem asInts_app : ∀ (xs ys : List D), asInts (xs ++ ys) = match asInts xs, asInts ys with | some a, some b => some (a ++ b) | _, _ => none
  | [], ys => by rw [List.nil_append]; cases asInts ys <;> rfl
  | .int i :: xs, ys => by
    show (asInts (xs ++ ys)).map (i :: ·) = match (asInts xs).map (i :: ·), asInts ys with | some a, some b => some (a ++ b) | _, _ => none
    rw [asInts_app xs ys]
    cases asInts xs <;> cases asInts ys <;> rfl
  | .non :: xs, ys => rfl
  | .bl _ :: xs, ys => rfl
  | .str _ :: xs, ys => rfl
  | .tup _ :: xs, ys => rfl
  | .lst _ :: xs, ys => rfl
  | .loc _ :: xs, ys => rfl
  | .dct _ :: xs, ys => rfl
  | .exc _ _ :: xs, ys => rfl
  | .cls _ :: xs, ys => rfl
  | .scr _ :: xs, ys => rfl
  | .ktp _ :: xs, ys => rfl
  | .ty _ :: xs, ys => rfl
theorem lenU_no {ns : List Int} {z : D} {zs : List D} {M : Mem} (h : ∀ k, z ≠ .int k) : lenU (ns.map D.int ++ z :: zs) M = .bad := by
  unfold lenU
  rw [asInts_app, asInts_map]
  cases z <;> first | rfl | exact absurd rfl (h _)
theorem lenU_big {ns : List Int} {zs : List D} {M : Mem} (h : 4000 < ns.length) : lenU (ns.map D.int ++ zs) M = .bad := by
  unfold lenU
  rw [asInts_app, asInts_map]
  cases asInts zs with
  | none => rfl
  | some b =>
    simp only
    rw [if_neg (by rw [List.length_append]; omega)]
section
variable {S : Sur} {X : Cx} {W : WX} {tg : Expr} {pos : Pos}
theorem Sim.offS {R : Addr → Prop} {F : Ads} {M : Mem} {H : Hp} {p : Addr} {o : HO} (s : Sim S R F M H) (hp : R p) (hl : ∀ b, H p ≠ some (.own b)) : Sim S R F M (upd H p o) := by
  refine ⟨s.len, fun n c e => ?_, s.inj, fun a r => ?_⟩
  · obtain ⟨a, e1, nr, h⟩ := s.cell n c e
    have hap : a ≠ p := fun z => nr (z ▸ hp)
    refine ⟨a, e1, nr, ?_⟩
    cases c with
    | lst ds => obtain ⟨vs, h1, h2⟩ := h; exact ⟨vs, by rw [upd_ne hap]; exact h1, h2.off hp⟩
    | ins c fs =>
      obtain ⟨C, dx, gs, h1, h2, h3, h4, h5⟩ := h
      refine ⟨C, dx, gs, h1, by rw [upd_ne hap]; exact h2, ?_, h4, h5.off hp⟩
      rw [upd_ne fun z => ?_]
      · exact h3
      · rw [z] at h3; exact hl a h3
    | dic ks => obtain ⟨kvs, h1, h2, h3⟩ := h; exact ⟨kvs, by rw [upd_ne hap]; exact h1, h2, h3.off hp⟩
  · by_cases ha : a = p
    · exact ⟨o, by rw [ha]; exact upd_same⟩
    · rw [upd_ne ha]; exact s.res a r
noncomputable def fSc (fi : FE Wd) (t : Tn) (ft : FE Bool) (fe : FE D) (own : List Nat) : FE D := fun e M => (fi e M).bind fun w M1 =>
  if w.ds.length ≤ 1000000 then (loopC w t ft fe (wipeE e own) w.ds M1).bind lenU else .bad
theorem fSc_eq (fi : FE Wd) (t : Tn) (ft : FE Bool) (fe : FE D) (own : List Nat) : fCl gLenU (fCons (fLc false fi t ft fe own) fNil) = fSc fi t ft fe own := by
  funext e M
  show ((fLc false fi t ft fe own e M).bind fun x M1 => (fNil e M1).bind fun xs M2 => .ok (x :: xs) M2).bind gLenU = _
  unfold fLc fSc
  cases fi e M with
  | ok w M1 =>
    show ((((if w.ds.length ≤ 1000000 then (loopC w t ft fe (wipeE e own) w.ds M1).bind fun ds M2 => fin false ds M2 else .bad) : Res D).bind fun x M1 => (fNil e M1).bind fun xs M2 => .ok (x :: xs) M2) : Res (List D)).bind gLenU = if w.ds.length ≤ 1000000 then (loopC w t ft fe (wipeE e own) w.ds M1).bind lenU else .bad
    split
    · cases loopC w t ft fe (wipeE e own) w.ds M1 <;> rfl
    · rfl
  | exc => rfl
  | bad => rfl
theorem si_rd {R : Addr → Prop} {fi : FE Wd} {t : Tn} {ft : FE Bool} {fe : FE D} {vs : List Nat} {σ : L2.St} {H : Hp} {Q : VK} {w0 : World} (hK : S.K = X.K) (hv : ∀ i ∈ t.slots, i ∈ vs) (h : rdE S R W (fSc fi t ft fe vs) σ H Q) :
    tSi w0 (rdI S R W fi) (tnG X.K t) (fun σ H Q => ∃ R, rdT S R W0 ft σ H Q) (fun σ H Q => ∃ R, rdE S R W0 fe σ H Q) vs σ H fun x H2 => ∃ (a : Addr) (Z : Int → Bool) (n : Nat), [x] = [V.ref a] ∧ H2 a = some (SetO w0 a Z n) ∧ Q (.int n) H2 := by
  obtain ⟨F, M, env, s, r, h⟩ := h
  refine ⟨F, M, env, s, r, (Post.bind h).mono fun F1 M1 H1 w l1 s1 h1 J wk => ?_⟩
  intro p hp
  split at h1
  · rename_i hw
    -- the set at p has what was told so far
    let Mk : Nat → Hp → Prop := fun i H2 => ∃ (F2 : Ads) (M2 : Mem) (ns : List Int), Le F1 M1 H1 F2 M2 H2 ∧ Sim S (fun a => R a ∨ a = p) F2 M2 H2 ∧ H2 p = some (SetO w0 p (fun k => decide (k ∈ ns)) (uq ns).length) ∧
      Post S R W σ F1 M1 H1 (KE S R Q) ((loopC w t ft fe (wipeE env vs) (w.ds.drop i) M2).bind fun zs M3 => lenU (ns.map D.int ++ zs) M3)
    have k1 : ∀ a, R a → R a ∨ a = p := fun _ z => .inl z
    have k2 : ∀ a, (R a ∨ a = p) → R a ∨ H1 a = none := fun a z => z.imp id fun z => by rw [z]; exact hp
    have notown : ∀ {Z : Int → Bool} {n : Nat} {H2 : Hp}, H2 p = some (SetO w0 p Z n) → ∀ b, H2 p ≠ some (.own b) := fun {Z n H2} e b z => by rw [e] at z; cases z
    have keepP : ∀ {Fa Ma Ha Fb Mb Hb} {o : HO}, Le Fa Ma Ha Fb Mb Hb → Sim S (fun a => R a ∨ a = p) Fa Ma Ha → Ha p = some o → Hb p = some o := fun {Fa Ma Ha Fb Mb Hb o} l s e => l.keep p _ e fun ⟨n, c2, f1, f2⟩ => by
      obtain ⟨a, f3, nr, _⟩ := s.cell n c2 f2
      rw [f1] at f3; cases f3
      exact nr (.inr rfl)
    refine ⟨fun i m H2 => m = w.ds.length - i ∧ i ≤ w.ds.length ∧ Mk i H2, ⟨w.ds.length, by simp, Nat.zero_le _, F1, M1, [], Le.new hp, s1.reserve hp, ?_, ?_⟩, ?_⟩
    · rw [upd_same]; simp [uq]
    · rw [List.drop_zero]; exact h1
    rintro i m H2 ⟨rfl, hi, F2, M2, ns, l, si, hH, h2⟩
    by_cases hlt : i < w.ds.length
    · rw [List.drop_eq_getElem_cons hlt] at h2
      unfold loopC at h2
      by_cases hG : Gd w M2
      · rw [if_pos hG] at h2
        obtain ⟨g1, _⟩ := wk _ F2 M2 H2 k1 k2 l si hG
        obtain ⟨go, yl⟩ := g1 i hlt
        refine .inr ⟨go, fun H3 => Mk (i + 1) H3, fun H3 z => ⟨w.ds.length - (i + 1), by omega, rfl, hlt, z⟩, fun x H3 y => ?_⟩
        obtain ⟨l', s', d, ed, rd⟩ := yl x H3 y
        have ed2 : w.ds[i] = d := by rw [List.getElem?_eq_getElem hlt] at ed; exact Option.some.inj ed
        rw [ed2] at h2
        have lw := l.trans l'
        have re : RelE S (fun a => R a ∨ a = p) F2 M2 H3 (wipeE env vs) (L2.wipe σ vs) := by
          have r1 := (r.mono l1).wipe vs
          refine ⟨r1.1, fun j d e => ?_⟩
          obtain ⟨v, e1, rv⟩ := r1.2 j d e
          exact ⟨v, e1, (Rels.later (Rels.cons rv .nil) k2 lw).2 0 d v rfl rfl⟩
        cases q1 : tnSet t d (wipeE env vs) with
        | none => rw [q1] at h2; exact h2.elim
        | some e1 =>
          rw [q1] at h2
          refine tn_ok hK hv q1 rd re fun σ1 hw1 r1 => ⟨by rw [hw1, wipe_wipe], ?_⟩
          simp only at h2
          refine ⟨_, F2, M2, e1, s', r1, ?_⟩
          have hp3 := keepP l' si hH
          cases q2 : ft e1 M2 with
          | bad => rw [q2] at h2; exact h2.elim
          | exc => rw [q2] at h2; exact h2.elim
          | ok b M3 =>
            rw [q2] at h2
            intro F4 H4 l4 s4
            have hp4 := keepP l4 s' hp3
            cases b with
            | false =>
              simp only at h2
              exact ⟨F4, M3, ns, lw.trans l4, s4, hp4, h2⟩
            | true =>
              simp only at h2
              refine ⟨_, F4, M3, e1, s4, r1.mono l4, ?_⟩
              cases q3 : fe e1 M3 with
              | bad => rw [q3] at h2; exact h2.elim
              | exc => rw [q3] at h2; exact h2.elim
              | ok z M5 =>
                rw [q3] at h2
                intro F6 H6 l6 s6 v rv
                have hp6 := keepP l6 s4 hp4
                cases q4 : loopC w t ft fe (wipeE env vs) (w.ds.drop (i + 1)) M5 with
                | exc => simp only [q4] at h2; exact h2.elim
                | bad => simp only [q4] at h2; exact h2.elim
                | ok zs M7 =>
                  simp only [q4, Res.bind_ok] at h2
                  have hz : ∃ k, z = .int k := by
                    cases z <;> first | exact ⟨_, rfl⟩ | (rw [lenU_no (fun k e => by cases e)] at h2; exact h2.elim)
                  obtain ⟨k, rfl⟩ := hz
                  cases int_at rv
                  have hsz : ns.length ≤ 4000 := by
                    rcases Nat.lt_or_ge 4000 ns.length with g | g
                    · rw [lenU_big g] at h2; exact h2.elim
                    · exact g
                  have hu := uq_len ns
                  refine ⟨k, _, _, rfl, hp6, by show (uq ns).length + 1 < 4096; omega, ?_⟩
                  have ll := (lw.trans l4).trans l6
                  have eS : (fun j => decide (j ∈ ns) || decide (j = k)) = fun j => decide (j ∈ ns ++ [k]) := by
                    funext j
                    simp only [List.mem_append, List.mem_singleton, Bool.decide_or]
                  have eN : (if decide (k ∈ ns) = true then (uq ns).length else (uq ns).length + 1) = (uq (ns ++ [k])).length := by
                    rw [uq_snoc]
                    by_cases hk : k ∈ ns
                    · rw [if_pos (decide_eq_true hk), if_pos (uq_mem.mpr hk)]
                    · rw [if_neg (by simpa using hk), if_neg (fun z => hk (uq_mem.mp z)), List.length_append]; rfl
                  rw [eS, eN]
                  refine ⟨F6, M5, ns ++ [k], ?_, s6.offS (.inr rfl) (notown hp6), upd_same, ?_⟩
                  · refine ⟨ll.pre, ll.liv, fun a o e nl => ?_, fun a e => ?_⟩
                    · rw [upd_ne (ne_of_none e hp)]; exact ll.keep a o e nl
                    · by_cases ha : a = p
                      · exact ⟨_, by rw [ha]; exact upd_same⟩
                      · rw [upd_ne ha]; exact ll.there a e
                  · rw [q4, Res.bind_ok, List.map_append, List.append_assoc]; exact h2
      · rw [if_neg hG] at h2; exact h2.elim
    · have hi' : i = w.ds.length := by omega
      rw [hi', List.drop_length] at h2
      unfold loopC at h2
      by_cases hG : Gd w M2
      · rw [if_pos hG, Res.bind_ok, List.append_nil] at h2
        obtain ⟨_, g2⟩ := wk _ F2 M2 H2 k1 k2 l si hG
        refine .inl ⟨g2 i (by omega), p, _, _, rfl, hH, ?_⟩
        unfold lenU at h2
        rw [asInts_map] at h2
        simp only at h2
        split at h2
        · exact h2 F2 H2 l (si.less k1) _ (.int _)
        · exact h2.elim
      · rw [if_neg hG] at h2; exact h2.elim
  · exact h1.elim
theorem ge_lenSc {elt iter : Expr} {ifs : List Expr} {scope : Scope} {own : List (Str × Nat)} {p pos2 : Pos} {fi : FE Wd} {t : Tn} {ft : FE Bool} {fe : FE D} (hK : S.K = X.K) (hc : X.calm = true) (hN : X.N.Nodup) (hl : Gl X "len") (hm : X.mg "len" = none) (hi : GI S X W tg iter fi) (ok : BlkOk X.N X.env.scope scope own)
    (hv : ∀ i ∈ t.slots, i ∈ own.map (·.2))
    (hg : ∀ (s : Shared) (H : Hp) (C : Addr) (cl : List (Str × Addr)) (fp : List Addr), PG (X.blk s H scope (compEnvC scope cl C X.env) fp) tg (tnG X.K t))
    (ht : ∀ (s : Shared) (H : Hp) (C : Addr) (cl : List (Str × Addr)) (fp : List Addr), GTs S (X.blk s H scope (compEnvC scope cl C X.env) fp) W0 ifs ft)
    (he : ∀ (s : Shared) (H : Hp) (C : Addr) (cl : List (Str × Addr)) (fp : List Addr), GE S (X.blk s H scope (compEnvC scope cl C X.env) fp) W0 elt fe)
    (hs : ∀ x, foldedSetIterable iter X.env x = pure x) : GE S X W (.Call (.Name "len" p) [.SetComp elt [⟨tg, iter, ifs, 0⟩] scope pos] [] pos2) (fCl gLenU (fCons (fLc false fi t ft fe (own.map (·.2))) fNil)) := fun R => by
  rw [fSc_eq]
  refine PE_imp (pe_callB cr_lenI hl hm boot_len (pa_cons (pe_si hc hN (hi R) ok hg (fun s H C cl fp => ex_pts (ht s H C cl fp)) (fun s H C cl fp => ex_pe (he s H C cl fp)) hs) pa_nil)) fun σ H Q h => ?_
  exact si_rd (w0 := X.w) hK hv h
end
end En

set_option Elab.async false
set_option linter.all false
set_option maxRecDepth 100000
/-! E7g: what a def promises where no repr is under way (so that its body may call repr). -/
namespace En
open PySem PySem.Spec PyProof.Rows L2
/-- a def's promise, kept wherever no repr is under way -/
structure FnG (P : Program) (w : World) (K : PySem.W.Frag) (mg : Str → Option Value) (base : Heap) (CX : CXT) (k : Nat) (f : Addr) (fd : FuncData) (ps : List Str) (sp : Sp) : Prop where
  len : ∀ vs H Q E, sp vs H Q E → vs.length = ps.length
  run : ∀ {A : Around} {st : List Env} {s : Shared} {H : Hp} {args : Args} {us : List Value} {vs : List V} {Q : VK} {E : XK}, A.guards = some [] → Room k A → Env0 P w K mg base A st s H → BindsTo s fd args (ps.zip us) → Vals vs us → sp vs H Q E → codeAny (model P w) A (.call (.ref f) args) (CR CX st P w H s Q E) s
section
variable {P : Program} {w : World} {K : PySem.W.Frag} {mg : Str → Option Value} {base : Heap} {CX : CXT} {k : Nat} {f : Addr} {fd : FuncData} {ps N : List Str} {sp : Sp}
theorem FnG.mono {j : Nat} (F : FnG P w K mg base CX j f fd ps sp) (h : j ≤ k) : FnG P w K mg base CX k f fd ps sp := ⟨F.len, fun g hr => F.run g (hr.mono h)⟩
/-- a def of the text, by its body -/
theorem fnG_of {x qual : Str} {pars : Arguments} {bd : List Stmt} {sc : Scope} {dvs : List V} {kws : List (Str × V)} (F : FunD K x qual pars bd sc dvs kws f fd) (Sc : FnScope N ps sc) (len : ∀ vs H Q E, sp vs H Q E → vs.length = ps.length)
    (hb : ∀ (c : Value) (A : Around) (st : List Env) (s : Shared) (H : Hp) (vs : List V) (Q : VK) (E : XK), A.guards = some [] → Room k (A.deeper (envOfC qual sc s.heap.objs.size f c)) → sp vs H Q E → ∃ t, PSs (cxOf CX P w K mg base N qual sc f c A st s H E) bd t ∧ t { nx := fun _ H' => Q .non H', rt := Q } (start N vs) H) : FnG P w K mg base CX (k + 1) f fd ps sp := by
  obtain ⟨oc, od, dV, kV, doc, pm, an, cdv, ct, osl, rfl, lk, hcd, _, _⟩ := F.ex
  refine ⟨len, @fun A st s H args us vs Q E hg hr e0 hB rv hS => ?_⟩
  have KX : K.In s.heap := e0.mod.kin.keeps fun b o e => (e0.bs b o e).1
  have lim : s.heap.NoLimit := e0.mod.nolimit.keeps fun b o e => (e0.bs b o e).1
  have pk : ∀ y ∈ ps.zip us, sc.names.lookup y.1 = some .local ∨ (sc.names.lookup y.1 = some .cell ∧ ((cellsFrom (s.heap.objs.size + 1) sc.names []).lookup y.1).isSome = true) := by
    rintro ⟨n, v⟩ hy
    exact (Sc.par n (List.of_mem_zip hy).1).imp id fun q => ⟨q, PySem.W.cellsFrom_some _ _ _ (.inl q)⟩
  refine codeAny_call_function hr.depth (KX _ _ lk) rfl Sc.co Sc.gen rfl (PySem.W.codeRec_of KX hcd) (hB _ _ _ _ (wpAny_newFunctionEnv_cells Sc.kind pk fun env he s1 z => ?_))
  subst he
  obtain ⟨t, ht, hq⟩ := hb cdv A st s H vs Q E hg (hr.deeper _) hS
  have I : Inv (cxOf CX P w K mg base N qual sc f cdv A st s H E) [] (start N vs) H s1 := inv_start Sc hr.hd e0 (len _ _ _ _ hS) rv z
  refine ⟨lim.keeps z.toInCall.keep, codeAny_func (wpAny_mono (ht.run [] s1 (start N vs) H _ I hq) (fun fl s' hs => ?_) fun e s' hs => hs)⟩
  cases fl with
  | ret u => obtain ⟨v, σ', H', J, r1, q⟩ := hs; exact ⟨v, H', J.os, J.bare, J.base, J.hok, r1, q⟩
  | next => obtain ⟨σ', H', J, q⟩ := hs; exact ⟨V.non, H', J.os, J.bare, J.base, J.hok, rfl, q⟩
  | brk => obtain ⟨_, _, _, q⟩ := hs; exact q.elim
  | cont => obtain ⟨_, _, _, q⟩ := hs; exact q.elim
end
section
variable {X : Cx} {CX : CXT} {k : Nat} {f : Addr} {fd : FuncData} {ps : List Str} {sp : Sp} {E : L2.St → XK} {x : Str} {p pos : Pos} {e : Expr} {es : List Expr} {t : TA}
theorem runG {pins : List (Addr × Obj)} {σ : L2.St} {H : Hp} {s : Shared} {Q : VK} {args : Args} {us : List Value} {vs : List V} (F : FnG X.prog X.w X.K X.mg X.base CX k f fd ps sp) (hg : X.A.guards = some []) (hr : Room k X.A) (hb : us.length = ps.length → BindsTo s fd args (ps.zip us)) (hx : PassesAt CX X σ (E σ)) (I : Inv X pins σ H s) (r : Vals vs us) (h : sp vs H Q (E σ)) :
    codeAny (model X.prog X.w) X.A (.call (.ref f) args) (fun r s' => match r with | .ok (.ret v) => EP X pins σ Q v s' | .ok _ => False | .error e => X.xe e s') s := by
  have hl : us.length = ps.length := r.length ▸ F.len _ _ _ _ h
  refine codeAny_mono (F.run hg hr I.env0 (hb hl) r h) ?_
  rintro (e | fl) s' q
  · exact hx pins H s e s' I q
  · cases fl <;> first | exact I.after q | exact q.elim
theorem bindsG (hb : Binds X.K fd ps []) {s : Shared} {us : List Value} (hK : X.K.In s.heap) (hl : us.length = ps.length) : BindsTo s fd ⟨us, []⟩ (ps.zip us) := by
  have := hb s us hK (by rw [List.append_nil]; exact hl)
  rwa [List.append_nil] at this
def tCallG (sp : Sp) (E : L2.St → XK) (t : TA) : TE := fun σ H Q => t σ H fun vs H1 => sp vs H1 Q (E σ)
theorem pe_callG (F : FnG X.prog X.w X.K X.mg X.base CX k f fd ps sp) (gd : X.A.guards = some []) (hr : Room k X.A) (hg : Gl X x) (hm : X.mg x = some (.ref f)) (hk : PySem.W.keepIn X.K (.ref f) = true) (hb : Binds X.K fd ps []) (hx : ∀ σ, PassesAt CX X σ (E σ)) (ha : PA X (e :: es) t) (hd : (x == ("__debug__" : Str)) = false)
    (he : starEach (e :: es) X.env = (false, eval e X.env) :: starEach es X.env) (hpl : (backTo pos (starEach es X.env)).any (·.1) = false) : PE X (.Call (.Name x p) (e :: es) [] pos) (tCallG sp E t) := by
  refine ⟨fun pins s σ H Q I h => wpAny_Call_Name_kw (ld_glob I hg hm ?_ hd)⟩
  refine PySem.W.callWith_K (h₀ := X.base) I.ok.mod.kin hk (thn (ha.run pos pins s σ H _ I h) ?_) he hpl
  rintro us s1 ⟨vs, H1, I1, r, q⟩
  exact ⟨I1.kIn, wpAny_call (runG F gd hr (bindsG hb I1.kIn) (hx σ) I1 r q)⟩
end
/-- the law's call, from where the judge calls it -/
theorem lawG {P : Program} {w : World} {K : PySem.W.Frag} {mg mb : Str → Option Value} {CX : CXT} {k : Nat} {fa a : Addr} {fd : FuncData} {x : Str} {sp : Sp} {s : Shared} {vs : List Value} {ns : List Int} (KX : K.In s.heap) (hn : s.heap.Ns mainGlobals mg) (hb : s.heap.Ns builtinsNs mb) (hbb : ∀ x : Str, x ≠ "__name__" → mb x = bootBuiltins x) (hlim : s.heap.NoLimit) (hgen : s.gens = #[])
    (ha : s.heap.get? a = some { cls := .type "list", data := .seq vs.toArray }) (hi : IntsAre vs ns) (hl : ns.length ≤ sizeLine) (hr : Room k callerA) (F : ∀ base : Heap, K.In base → base.Ns mainGlobals mg → FnG P w K mg base CX k fa fd [x] sp) (hbind : ∀ (s : Shared) (u : Value), BindsTo s fd ⟨[u], []⟩ [(x, u)])
    (hsp : ∀ H : Hp, Only H → SqL K H a (ns.map V.int) → sp [.ref a] H (fun v _ => v = .bl true) fun _ _ _ => False) (hCX : ∀ H e s', CX [] H s (fun _ _ _ => False) e s' → False) : codeAny (model P w) callerA (.call (.ref fa) ⟨[.ref a], []⟩) (fun r s' => r = .ok (.ret (.bool true)) ∧ OldK s.heap s'.heap ∧ s'.os = s.os ∧ AllBare s'.gens) s := by
  have core : ∀ H : Hp, Only H → SqL K H a (ns.map V.int) → HOk P w H s.heap → (∀ b, H b ≠ none → b = a) → (H a ≠ none → K.lookup a = none) → codeAny (model P w) callerA (.call (.ref fa) ⟨[.ref a], []⟩) (fun r s' => r = .ok (.ret (.bool true)) ∧ OldK s.heap s'.heap ∧ s'.os = s.os ∧ AllBare s'.gens) s := by
    intro H hO hS hok one out
    have hid : ∀ {b : Addr} {o : Obj}, s.heap.get? b = some o → H b = none → (hidT s.heap H).get? b = some o := fun e n => hidT_get e n
    have dicts : ∀ {b : Addr} {o : Obj} {es : Array DictEntry} {ep : Nat}, s.heap.get? b = some o → o.data = .dict es ep → H b = none := by
      intro b o es ep e d
      by_cases n : H b = none
      · exact n
      · obtain rfl := one b n
        rw [ha] at e
        cases e
        exact nomatch (show Data.seq vs.toArray _ = Data.dict es ep from d)
    have ns' : ∀ {b : Addr} {m : Str → Option Value}, s.heap.Ns b m → (hidT s.heap H).Ns b m := by
      rintro b m ⟨o, es, ep, e, d, r⟩
      exact ⟨o, es, ep, hid e (dicts e d), d, r⟩
    have KH : K.In (hidT s.heap H) := by
      intro b o e
      refine hid (KX b o e) ?_
      by_cases n : H b = none
      · exact n
      · obtain rfl := one b n
        rw [out n] at e
        cases e
    obtain ⟨mc, l1, l2⟩ := hlim
    have e0 : Env0 P w K mg (hidT s.heap H) callerA [] s H := ⟨rfl, ⟨KH, ns' hn, ⟨mb, ns' hb, hbb⟩, ⟨mc, ns' l1, l2⟩⟩, fun b o e => of_hidT e, Nat.le_of_eq (hidT_size _ _), trivial, fun b m => (List.not_mem_nil m).elim, hok, .of_eq hgen⟩
    refine codeAny_mono ((F _ KH (ns' hn)).run (args := ⟨[.ref a], []⟩) (us := [.ref a]) (vs := [V.ref a]) rfl hr e0 (hbind s (.ref a)) (.cons rfl .nil) (hsp H hO hS)) ?_
    rintro (e | fl) s' h
    · exact (hCX H e s' h).elim
    · cases fl with
      | ret u =>
        obtain ⟨v, H', os, bare, un, hok', r', (q : v = .bl true)⟩ := h
        subst q
        obtain rfl : u = Value.bool true := r'
        refine ⟨rfl, OldK.of_keep fun b o e => ?_, os, bare⟩
        cases q : H b with
        | none => exact un.keep b o e q (fun z => (List.not_mem_nil z).elim) (by simp)
        | some u =>
          rcases hO b with z | ⟨ob, xs, z⟩
          · rw [q] at z; cases z
          · obtain ⟨e1, _⟩ := hok b _ z
            obtain ⟨e2, _⟩ := hok' b _ (un.frzs b ob _ z)
            rw [e] at e1; cases e1
            exact e2
      | _ => exact h.elim
  have rv := vals_ints hi
  cases hk : K.lookup a with
  | some o =>
    have e := KX a o hk
    rw [ha] at e
    cases e
    exact core (fun _ => none) (fun _ => .inl rfl) (.inr ⟨_, vs.toArray, _, hk, rfl, rfl, rfl, by rw [List.size_toArray, hi.length]; exact hl, by simpa using rv⟩) (fun b u z => nomatch (show (none : Option HO) = some u from z)) (fun b z => absurd rfl z) fun z => absurd rfl z
  | none =>
    refine core (fun b => if b = a then some (.frz { cls := .type "list", data := .seq vs.toArray } (.lst (ns.map V.int))) else none) (fun b => ?_) (.inl (.inr ⟨_, if_pos rfl⟩)) (fun b u z => ?_) (fun b z => ?_) fun _ => hk
    · by_cases c : b = a
      · exact .inr ⟨_, _, if_pos c⟩
      · exact .inl (if_neg c)
    · by_cases c : b = a
      · subst c
        cases (if_pos rfl).symm.trans z
        exact ⟨ha, by rw [List.length_map]; exact hl, vs, _, rv, ha⟩
      · cases (if_neg c).symm.trans z
    · by_cases c : b = a
      · exact c
      · exact absurd (if_neg c) z
end En

set_option Elab.async false
set_option linter.all false
set_option maxRecDepth 100000
/-! E7: defs and their calls, what is raised and caught, methods of lists. -/
namespace En
open PySem PySem.Spec L2

/-! ### calls of defs -/
/-- the promise of a def of n parameters that does g -/
def spOf (S : Sur) (n : Nat) (g : List D → Mem → Res D) : Sp := fun vs H Q E => ∃ (R : Addr → Prop) (F : Ads) (M : Mem) (ds : List D), Sim S R F M H ∧ Rels S R F M H ds vs ∧ ds.length = n ∧ Post S R (fun c d _ H => E c d H) [] F M H (KE S R Q) (g ds M)
theorem spOf_len {S : Sur} {n : Nat} {g : List D → Mem → Res D} {vs : List V} {H : Hp} {Q : VK} {E : XK} (h : spOf S n g vs H Q E) : vs.length = n := by
  obtain ⟨R, F, M, ds, _, r, e, _⟩ := h
  rw [← r.1]; exact e
def gCall (n : Nat) (g : List D → Mem → Res D) (ds : List D) (M : Mem) : Res D := if ds.length = n then g ds M else .bad
theorem Post.slots {α : Type} {S : Sur} {R : Addr → Prop} {W : WX} {σ : L2.St} {F : Ads} {M : Mem} {H : Hp} {K : Ads → Mem → Hp → α → Prop} {r : Res α} (h : Post S R W σ F M H K r) : Post S R (fun c d _ H => W c d σ H) [] F M H K r := by
  cases r with
  | ok a M' => exact h
  | exc c fs M' => exact h
  | bad => exact h
theorem call_sp {S : Sur} {R : Addr → Prop} {W : WX} {σ : L2.St} {F : Ads} {M : Mem} {H : Hp} {n : Nat} {g : List D → Mem → Res D} {ds : List D} {vs : List V} {Q : VK} (s : Sim S R F M H) (r : Rels S R F M H ds vs) (h : Post S R W σ F M H (KE S R Q) (gCall n g ds M)) : spOf S n g vs H Q (WE W σ) := by
  unfold gCall at h
  split at h
  · rename_i e
    exact ⟨R, F, M, ds, s, r, e, Post.slots h⟩
  · exact h.elim
section
variable {S : Sur} {X : Cx} {W : WX} {a : Expr} {es : List Expr} {fs fk : FE (List D)} {pos p : Pos} {k n : Nat} {f : Addr} {fd : FuncData} {ps ks : List Str} {x : Str} {g : List D → Mem → Res D}
theorem ge_call (F : FnG X.prog X.w X.K X.mg X.base (L2.CX X.prog X.w) k f fd ps (spOf S n g)) (tk : Takes X W) (gd : X.A.guards = some []) (hr : Room k X.A) (hg : Gl X x) (hm : X.mg x = some (.ref f)) (hk : PySem.W.keepIn X.K (.ref f) = true) (hb : Binds X.K fd ps []) (hd : (x == ("__debug__" : Str)) = false)
    (ha : GA S X W (a :: es) fs) (he : starEach (a :: es) X.env = (false, eval a X.env) :: starEach es X.env) (hpl : (backTo pos (starEach es X.env)).any (·.1) = false) : GE S X W (.Call (.Name x p) (a :: es) [] pos) (fCl (gCall n g) fs) := fun R =>
  PE_imp (pe_callG F gd hr hg hm hk hb (fun σ => passAt tk σ) (ha R) hd he hpl) fun σ H Q h => rd_args h fun F M H ds vs s r h => call_sp s r h
def GK (S : Sur) (X : Cx) (W : WX) (kws : List Keyword) (f : FE (List D)) : Prop := ∀ R, PK X kws (rdA S R W f)
theorem PK_imp {kws : List Keyword} {t t' : TA} (h : PK X kws t) (k : ∀ σ H Q, t' σ H Q → t σ H Q) : PK X kws t' := ⟨fun pos pins s σ H Q I q => h.run pos pins s σ H Q I (k σ H Q q)⟩
theorem gk_nil : GK S X W [] fNil := fun R => PK_imp pk_nil fun σ H Q ⟨F, M, env, s, e, h⟩ => h F H .refl s [] .nil
theorem gk_cons {nm : Option Str} {e : Expr} {kws : List Keyword} {fe : FE D} {fr : FE (List D)} (ha : GE S X W e fe) (hr : GK S X W kws fr) : GK S X W (⟨nm, e, p⟩ :: kws) (fCons fe fr) := fun R => by
  refine PK_imp (pk_cons (ha R) (hr R)) fun σ H Q ⟨F, M, env, s, e, h⟩ => ⟨F, M, env, s, e, (Post.bind h).mono fun F1 M1 H1 x l1 s1 h1 v rv => ?_⟩
  refine ⟨F1, M1, env, s1, e.mono l1, (Post.bind h1).mono fun F2 M2 H2 ds l2 s2 h2 xs rs => ?_⟩
  exact h2 F2 H2 .refl s2 (v :: xs) (.cons (rv.mono l2) rs)
/-- keywords alone, in any order: ord tells for each parameter which keyword it is -/
def pick {α : Type} (ord : List Nat) (xs : List α) : List α := ord.filterMap fun i => xs[i]?
def fCallK (n : Nat) (g : List D → Mem → Res D) (ord : List Nat) (fk : FE (List D)) : FE D := fun env M => (fk env M).bind fun zs M1 => gCall n g (pick ord zs) M1
theorem pick_rel {R : Addr → Prop} {F : Ads} {M : Mem} {H : Hp} {ds : List D} {vs : List V} (r : Rels S R F M H ds vs) : ∀ ord : List Nat, Rels S R F M H (pick ord ds) (pick ord vs)
  | [] => .nil
  | i :: ord => by
    unfold pick
    rw [List.filterMap_cons, List.filterMap_cons]
    cases e : ds[i]? with
    | none =>
      have e2 : vs[i]? = none := List.getElem?_eq_none (by rw [← r.1]; exact List.getElem?_eq_none_iff.mp e)
      rw [e2]
      exact pick_rel r ord
    | some d =>
      obtain ⟨v, e2, rv⟩ := r.get e
      rw [e2]
      exact .cons rv (pick_rel r ord)
theorem pick_vals {zs : List V} {ws : List Value} (r : Vals zs ws) : ∀ ord : List Nat, Vals (pick ord zs) (pick ord ws)
  | [] => .nil
  | i :: ord => by
    unfold pick
    rw [List.filterMap_cons, List.filterMap_cons]
    cases e : zs[i]? with
    | none => rw [r.none_of e]; exact pick_vals r ord
    | some v =>
      obtain ⟨u, e2, ru⟩ := r.get e
      rw [e2]
      exact .cons ru (pick_vals r ord)
theorem ge_callK {k0 : Keyword} {kws : List Keyword} {ord : List Nat} (F : FnG X.prog X.w X.K X.mg X.base (L2.CX X.prog X.w) k f fd ps (spOf S n g)) (tk : Takes X W) (gd : X.A.guards = some []) (hr : Room k X.A) (hg : Gl X x) (hm : X.mg x = some (.ref f)) (hk : PySem.W.keepIn X.K (.ref f) = true) (hd : (x == ("__debug__" : Str)) = false)
    (hb : ∀ (s : Shared) (ws : List Value), X.K.In s.heap → (pick ord ws).length = ps.length → BindsTo s fd ⟨[], ks.zip ws⟩ (ps.zip (pick ord ws)))
    (hkw : GK S X W (k0 :: kws) fk) (hall : (backToKw pos (keywordEach (k0 :: kws) X.env)).all (·.1.isSome) = true) (hks : (backToKw pos (keywordEach (k0 :: kws) X.env)).filterMap (·.1) = ks)
    (hpl : (backToKw pos (keywordEach (k0 :: kws) X.env)).any (·.1.isNone) = false) : GE S X W (.Call (.Name x p) [] (k0 :: kws) pos) (fCallK n g ord fk) := fun R => by
  refine ⟨fun pins s σ H Q I ⟨F0, M, env, si, re, h⟩ => ?_⟩
  refine wpAny_Call_Name_kw (ld_glob I hg hm ?_ hd)
  refine PySem.W.callWith_KW0 (h₀ := X.base) I.ok.mod.kin hk hall ?_ hpl
  have ev := (hkw R).run pos pins s σ H (fun zs H1 => spOf S n g (pick ord zs) H1 Q (WE W σ)) I ⟨F0, M, env, si, re, (Post.bind h).mono fun F1 M1 H1 ds l1 s1 h1 vs rs => call_sp s1 (pick_rel rs ord) h1⟩
  refine thn ev ?_
  rintro ws s2 ⟨zs, H2, I2, rz, q⟩
  refine ⟨I2.kIn, ?_⟩
  rw [hks]
  exact wpAny_call (runG F gd hr (hb s2 ws I2.kIn) (passAt tk σ) I2 (pick_vals rz ord) q)

/-! ### a def that does what its body does -/
def startE (N : Nat) (ds : List D) : Ev := ds.map some ++ List.replicate (N - ds.length) none
def runF (N : Nat) (f : FS) (ds : List D) (M : Mem) : Res D :=
  match f (startE N ds) M with
  | .nx _ M1 => .ok .non M1
  | .rt d M1 => .ok d M1
  | .exc _ c fs M1 => .exc c fs M1
  | _ => .bad
theorem start_rel {R : Addr → Prop} {F : Ads} {M : Mem} {H : Hp} {N : List Str} {ds : List D} {vs : List V} (r : Rels S R F M H ds vs) : RelE S R F M H (startE N.length ds) (L2.start N vs) := by
  unfold startE L2.start
  refine ⟨by simp [r.1], fun i d e => ?_⟩
  by_cases hi : i < ds.length
  · rw [List.getElem?_append_left (by simpa using hi), List.getElem?_map] at e
    rw [List.getElem?_append_left (by rw [List.length_map, ← r.1]; exact hi), List.getElem?_map]
    cases q : ds[i]? with
    | none => rw [q] at e; cases e
    | some d' =>
      rw [q] at e
      cases e
      obtain ⟨v, e2, rv⟩ := r.get q
      exact ⟨v, by rw [e2]; rfl, rv⟩
  · rw [List.getElem?_append_right (by simpa using hi), List.getElem?_replicate] at e
    split at e <;> cases e
end

/-! ### own exceptions: made and raised -/
/-- the promise of an __init__ that keeps its one argument -/
def spKeep (K : PySem.W.Frag) (C : Addr) (fld : Str) : Sp := fun vs H Q _ => ∃ a v, vs = [.ref a, v] ∧ H a = some (exo a C none) ∧ ∀ d, H d = none → d ≠ a → Q .non (upd (upd H d (exd d [(fld, v)])) a (exo a C (some d)))
section
variable {S : Sur} {X : Cx} {W : WX} {a : Expr} {pos p : Pos} {k : Nat} {C fI : Addr} {fd : FuncData} {x fld : Str}
theorem init_keep {P : Program} {w : World} {K : PySem.W.Frag} {mg : Str → Option Value} {base : Heap} {qual : Str} {st : Stmt} {p1 p2 p3 p4 : Pos} (T : OexC K C) (hno : PySem.W.findIn K (.ref C) fld = some none) (Fn : Fun K "__init__" qual st fI fd) (Sc : FnScope ["self", fld] ["self", fld] (defScope st))
    (hb : defBody st = [.Assign [.Attribute (.Name "self" p1) fld p2] (.Name fld p3) p4]) (v0 : Vis (defScope st) "self") (v1 : Vis (defScope st) fld) (d1 : (fld == ("__debug__" : Str)) = false) (d2 : (fld == ("__classdict__" : Str)) = false) : FnOk P w K mg base CX0 1 fI fd ["self", fld] (spKeep K C fld) := by
  refine Fn.ok Sc (fun vs H Q E h => ?_) fun cdv A outer s H vs Q E hr h => ?_
  · obtain ⟨a, v, rfl, _⟩ := h
    rfl
  · obtain ⟨a, v, rfl, ha, hq⟩ := h
    rw [hb]
    refine ⟨_, pss_one (ps_ost (pe_var (i := 0) rfl v0 (by decide) (by decide)) (pe_var (i := 1) rfl v1 d1 d2)), ?_⟩
    exact ⟨v, rfl, .ref a, rfl, a, C, rfl, T, hno, .inl ⟨ha, fun dx n ne => hq dx n ne⟩⟩
/-- raise C(e) -/
def sRaise (c fld : Str) (f : FE (List D)) : FS := fun e M => toS (f e M) e fun ds M1 => match ds with | [d] => .exc e c [(fld, d)] M1 | _ => .bad
theorem gs_raise {pos2 : Pos} {c : Str} {fs : FE (List D)} (T : OexC X.K C) (hc : X.calm = true) (tk : Takes X W) (hS : S.cls c = some C) (iC : PySem.W.findIn X.K (.ref C) "__init__" = some (some (.ref fI))) (tI : PySem.W.typeIn X.K (.ref fI) = some (.type "function"))
    (F1 : FnOk X.prog X.w X.K X.mg X.base CX0 1 fI fd ["self", fld] (spKeep X.K C fld)) (hr : Room 2 X.A) (hb : Binds X.K fd ["self", fld] []) (hg : Gl X x) (hm : X.mg x = some (.ref C)) (hd : (x == ("__debug__" : Str)) = false)
    (ha : GA S X W [a] fs) (he : starEach [a] X.env = (false, eval a X.env) :: starEach [] X.env) : GS S X W (.Raise (some (.Call (.Name x p) [a] [] pos)) none pos2) (sRaise c fld fs) := fun R => by
  refine PS_imp (ps_raise hc tk (pmk_oex T iC tI F1 hr hb .nil pass0 hg hm (ha R) hd he rfl)) fun T2 σ H ⟨F, M, env, s, r, h⟩ => ?_
  refine ⟨F, M, env, s, r, (PostS.part h r).mono fun F1 M1 H1 ds l1 s1 h1 vs rs => ?_⟩
  match ds, h1, rs with
  | [d], h1, rs =>
    obtain ⟨v, rfl, rv⟩ := rels1 rs
    refine ⟨by show 1 ≤ 1000; decide, fun e hne => ⟨e, v, rfl, upd_same, fun dx hdx hne2 => ⟨rfl, dx, [(fld, v)], upd_same, by rw [upd_ne hne2, upd_same], ?_, ?_⟩⟩⟩
    · rw [upd_ne hne2] at hdx; exact hdx
    · have hdx1 : H1 dx = none := by rw [upd_ne hne2] at hdx; exact hdx
      have eqH : upd (del (upd (upd (upd H1 e (exo e C none)) dx (exd dx [(fld, v)])) e (exo e C (some dx))) e) dx (.xd [(fld, v)]) = upd H1 dx (.xd [(fld, v)]) := by
        funext b
        by_cases h1 : b = dx
        · rw [h1, upd_same, upd_same]
        · rw [upd_ne h1, upd_ne h1]
          by_cases h2 : b = e
          · rw [h2, del_same, hne]
          · rw [del_ne h2, upd_ne h2, upd_ne h1, upd_ne h2]
      rw [eqH]
      have l : Le F1 M1 H1 F1 M1 (upd H1 dx (.xd [(fld, v)])) := Le.new hdx1
      exact h1 F1 _ C (some dx) σ l (s1.new hdx1) ((r.mono l1).mono l) hS ⟨dx, [(fld, v)], rfl, upd_same, rfl, (Rels.cons rv .nil).mono l⟩
  | [], h1, _ => exact h1.elim
  | _ :: _ :: _, h1, _ => exact h1.elim
end
end En

set_option Elab.async false
set_option linter.all false
set_option maxRecDepth 100000
/-! E8: try with several clauses, named or not; methods of lists; dicts that are written. -/
namespace En
open PySem PySem.Spec L2

/-- what a clause leaves behind at the slots: its name goes -/
def goneT (o : Option Nat) (T : Ends) : Ends :=
  match o with
  | none => T
  | some i => { nx := fun σ H => T.nx (σ.set i none) H, rt := T.rt, bk := fun σ H => T.bk (σ.set i none) H, ct := fun σ H => T.ct (σ.set i none) H }
def nameT (o : Option Nat) (a : Addr) (σ : L2.St) : L2.St := match o with | none => σ | some i => σ.set i (some (.ref a))
abbrev Cl := Value × Option Nat × (Addr → Value → Option Addr → TS)
def wNamed (K : PySem.W.Frag) (Wo : WX) (T : Ends) : List Cl → WX
  | [] => Wo
  | (c, o, t) :: r => fun cls d σ H => ∃ b, PySem.W.exmOne K cls c = some b ∧ (b = true → ∀ a, H a = none → t a cls d (goneT o T) (nameT o a σ) H) ∧ (b = false → wNamed K Wo T r cls d σ H)
/-- a clause's name stands in its slot -/
def SlotOf (X : Cx) : Option Str → Option Nat → Prop
  | none, none => True
  | some n, some i => X.N[i]? = some n ∧ X.env.kindOf n = some .local
  | _, _ => False
inductive Cls' (X : Cx) : List ExceptHandler → List Cl → Prop
  | nil : Cls' X [] []
  | cons {x : Str} {c : Value} {nm : Option Str} {o : Option Nat} {t : Addr → Value → Option Addr → TS} {st : Stmt} {suite : List Stmt} {np p : Pos} {hds : List ExceptHandler} {l : List Cl} (hc : Names X x c) (ho : SlotOf X nm o)
      (hs : ∀ (a : Addr) (oe : Obj) (cls : Value) (d : Option Addr) (pn : List (Addr × Obj)), Zc cls d oe → (∃ vs, oe.data = .fields vs) → PSs (X.suite a ((a, oe) :: pn)) (st :: suite) (t a cls d)) (r : Cls' X hds l) :
      Cls' X (.ExceptHandler (some (.Name x np)) nm (st :: suite) p :: hds) ((c, o, t) :: l)
section
variable {X : Cx} {body : List Stmt} {h0 : ExceptHandler} {hds : List ExceptHandler} {l : List Cl} {pos : Pos} {tb : WX → TS} {Wo : WX}
theorem ps_try_named (hs : X.stack = X.env :: X.outer) (hf : X.env.frame = some X.env.locals) (hN : X.N.Nodup) (tk : Takes X Wo)
    (hb : ∀ (W : WX) (pn : List (Addr × Obj)) (xe : Value → Shared → Prop), Takes (X.tr pn xe) W → PassesOwn (model X.prog X.w) X.A X.env xe → PSs (X.tr pn xe) body (tb W))
    (hh : Cls' X (h0 :: hds) l) : PS X (.Try body (h0 :: hds) [] [] pos) (fun T σ H => tb (wNamed X.K Wo T l) T σ H) := by
  constructor
  intro pins s σ H T I h
  have ok := I.ok
  have frm : X.A.frames = some (X.env :: X.outer) := by rw [ok.frames, hs]
  refine wpAny_Try_except ?_
  -- what the body's exceptions come to
  let xe2 : Value → Shared → Prop := fun e s1 => wpAny (model X.prog X.w) X.A (noteFrame e X.env)
    (fun _ s2 => wpAny (model X.prog X.w) X.A (setFlight e none)
      (fun _ s3 => wpAny (model X.prog X.w) X.A (handleBy e X.env (h0 :: hds)) (SP X pins T) X.xe s3) X.xe s2) X.xe s1
  have catch_ : Takes (X.tr (X.pn ++ pins) xe2) (wNamed X.K Wo T l) := by
    rintro u s' ⟨a, B, sI, pins', σ', H', cls, d, rfl, J0, nb, up, sky0, na, os, ag, w⟩
    have J : Inv X pins σ' H' sI := J0.ofTry ok
    have sky : Sky B (X.env :: X.outer) a (Zc cls d) X.env.locals s'.heap := hs ▸ sky0
    refine (Sky.land Zc.steady frm hf sky fun h3 fl3 up3 => ?_ : wpAny (model X.prog X.w) X.A (noteFrame (.ref a) X.env) _ _ _)
    have J3 : Inv X pins σ' H' { s' with heap := h3 } := J.landed nb fl3.1 (up.trans up3) os ag
    obtain ⟨oe, vs, he, hz, hd⟩ := fl3.there
    have nfr : a ∉ frs (X.env :: X.outer) := fun hm => by
      obtain ⟨_, o2, e2, hn⟩ := (fl3.2.2.1).mem hm
      rw [he] at e2
      cases e2
      exact hn _ hd
    have nL : a ≠ X.env.locals := fun z => nfr (List.mem_filterMap.mpr ⟨X.env, List.mem_cons_self, by rw [hf, z]⟩)
    have nF : a ∉ X.fs := fun hm => by
      obtain ⟨e, m1, m2⟩ := List.mem_filterMap.mp hm
      exact nfr (List.mem_filterMap.mpr ⟨e, List.mem_cons_of_mem _ m1, m2⟩)
    have S3 := J3.suite he hd na nL nF
    have go : ∀ {hs2 : List ExceptHandler} {l2 : List Cl}, Cls' X hs2 l2 → wNamed X.K Wo T l2 cls d σ' H' →
        wpAny (model X.prog X.w) X.A (handleBy (.ref a) X.env hs2) (SP X pins T) X.xe { s' with heap := h3 } := by
      intro hs2 l2 hk
      induction hk with
      | nil =>
        intro w
        apply wpAny_handleBy_nil
        obtain ⟨_, _, _, oe5, vs5, fr5, _, _, he5, hz5, hd5, h15, _⟩ := id fl3
        have out : wpAny (model X.prog X.w) X.A (setFlight (.ref a) X.env.frame) (fun _ s4 => wpAny (model X.prog X.w) X.A (throw (.ref a) : Sem Flow) (SP X pins T) X.xe s4) X.xe { s' with heap := h3 } := by
          rw [hf]
          exact HandSPX.setFlight_upZ fl3 fun h4 hh4 up4 => wpAny_throw (tk _ _ ⟨a, B, sI, pins, σ', H', cls, d, rfl, J, nb, (up.trans up3).trans up4, .inr (.inr (hs.symm ▸ hh4)), na, os, ag, w⟩)
        unfold PySem.passOn
        apply wpAny_bind
        refine wpAny_field he5 hd5 h15 ?_
        rw [if_neg (show ¬ ((Value.ref fr5 == Value.none) = true) from by simp)]
        first
          | exact wpAny_bind out
          | exact wpAny_bind (wpAny_pure (wpAny_bind out))
      | @cons x c nm o t st suite np p hs3 l3 hc ho hsu r ih =>
        intro w
        obtain ⟨b, e1, yes, no⟩ := w
        apply wpAny_handleBy_cons (codeAny_handlers_test ?_) (by intro q; cases q)
        have cl : PySem.W.Looks (model X.prog X.w) h3 (typeOf (.ref a)) cls := fun A Q E s k q => wpAny_typeOf_ref (k _ _ he) (by rw [hz.1]; exact q)
        have seen := PySem.W.exm_one (M := model X.prog X.w) (J3.kIn) cl e1
        have nameOf : ∀ {Q : Value → Shared → Prop} {E : Value → Shared → Prop}, Q c { s' with heap := h3 } → wpAny (model X.prog X.w) (X.A.mark (some (.ref a))) (eval (.Name x np) X.env) Q E { s' with heap := h3 } := by
          intro Q E q
          obtain ⟨hg, hdb, hm | ⟨hm, hv, hnn⟩⟩ := hc
          · exact ld_glob (X := X.suite a ((a, oe) :: (X.pn ++ pins))) S3 hg hm q hdb
          · exact ld_blt (X := X.suite a ((a, oe) :: (X.pn ++ pins))) S3 hg hm hv q hnn hdb
        refine nameOf (seen.here ?_)
        cases b with
        | false => exact (show wpAny _ X.A (handleBy (.ref a) X.env hs3) _ _ _ from ih (no rfl))
        | true =>
          have y := yes rfl a na
          -- back on the ground, the suite runs
          have run : ∀ {h4 : Heap}, HandSPX.FlyingZ B (X.env :: X.outer) a (Zc cls d) h4 → h3.UpToSlots h4 → ∃ oe4, Inv (X.suite a ((a, oe4) :: (X.pn ++ pins))) [] σ' H' { s' with heap := h4 } ∧ Zc cls d oe4 ∧ ∃ vs, oe4.data = .fields vs := by
            intro h4 fl4 up4
            have J4 : Inv X pins σ' H' { s' with heap := h4 } := J.landed nb fl4.1 ((up.trans up3).trans up4) os ag
            obtain ⟨oe4, vs4, he4, hz4, hd4⟩ := fl4.there
            exact ⟨oe4, J4.suite he4 hd4 na nL nF, hz4, _, hd4⟩
          cases nm with
          | none =>
            cases o with
            | some i => exact ho.elim
            | none =>
              apply codeAny_handlers_suite
              refine HandSPX.lands_againZ fl3 fun h4 fl4 up4 => ?_
              obtain ⟨oe4, S4, hz4, hd4⟩ := run fl4 up4
              refine wpAny_mono ((hsu a oe4 cls d (X.pn ++ pins) hz4 hd4).run [] _ _ H' _ S4 y) ?_ fun _ _ z => z.elim
              rintro fl s6 hsp
              cases fl with
              | next => exact let ⟨σ6, H6, S6, q6⟩ := hsp; ⟨_, _, S6.unsuite ok, q6⟩
              | brk => exact let ⟨σ6, H6, S6, q6⟩ := hsp; ⟨_, _, S6.unsuite ok, q6⟩
              | cont => exact let ⟨σ6, H6, S6, q6⟩ := hsp; ⟨_, _, S6.unsuite ok, q6⟩
              | ret u => exact let ⟨v6, σ6, H6, S6, r6, q6⟩ := hsp; ⟨_, _, _, S6.unsuite ok, r6, q6⟩
          | some n =>
            cases o with
            | none => exact ho.elim
            | some i =>
              obtain ⟨hi, hln⟩ := ho
              apply codeAny_handlers_suite_as
              refine HandSPX.lands_againZ fl3 fun h4 fl4 up4 => ?_
              obtain ⟨oe4, S4, hz4, hd4⟩ := run fl4 up4
              refine store_ok (X := X.suite a ((a, oe4) :: (X.pn ++ pins))) (v := .ref a) S4 hN hi (.inl hln) rfl ?_ (.inr hln)
              intro s5 S5
              refine wpAny_mono ((hsu a oe4 cls d (X.pn ++ pins) hz4 hd4).run [] s5 _ H' _ S5 y) ?_ fun _ _ z => z.elim
              rintro fl s6 hsp
              have bye : ∀ {σ6 : L2.St} {H6 : Hp} {Q : Shared → Prop}, Inv (X.suite a ((a, oe4) :: (X.pn ++ pins))) [] σ6 H6 s6 → (∀ s7, Inv X pins (σ6.set i none) H6 s7 → Q s7) →
                  wpAny (model X.prog X.w) X.A (do bindName X.env n .none; unbindBehindTheSuite X.env n p) (fun _ s7 => Q s7) X.xe s6 :=
                fun S6 q => gone_ok (S6.unsuite ok) hN hi hln q
              cases fl with
              | next => exact let ⟨σ6, H6, S6, q6⟩ := hsp; bye S6 fun s7 J7 => ⟨_, _, J7, q6⟩
              | brk => exact let ⟨σ6, H6, S6, q6⟩ := hsp; bye S6 fun s7 J7 => ⟨_, _, J7, q6⟩
              | cont => exact let ⟨σ6, H6, S6, q6⟩ := hsp; bye S6 fun s7 J7 => ⟨_, _, J7, q6⟩
              | ret u => exact let ⟨v6, σ6, H6, S6, r6, q6⟩ := hsp; bye S6 fun s7 J7 => ⟨_, _, _, J7, r6, q6⟩
    exact go hh w
  refine wpAny_mono ((hb (wNamed X.K Wo T l) (X.pn ++ pins) xe2 catch_ PassesOwn.looking).run [] s σ H T (I.toTry _) h) ?_ fun e s1 he => he
  rintro fl s1 hsp
  cases fl with
  | next => exact let ⟨σ', H', J, q⟩ := hsp; wpAny_execs_nil ⟨σ', H', J.ofTry ok, q⟩
  | brk => exact let ⟨σ', H', J, q⟩ := hsp; ⟨σ', H', J.ofTry ok, q⟩
  | cont => exact let ⟨σ', H', J, q⟩ := hsp; ⟨σ', H', J.ofTry ok, q⟩
  | ret u => exact let ⟨v, σ', H', J, r, q⟩ := hsp; ⟨v, σ', H', J.ofTry ok, r, q⟩
end
/-! ### suites: return of a constant, of a tuple or list of constants and fields of the error -/
inductive Si where
  | c (d : D)
  | f (n : Str)
inductive Su where
  | one (s : Si)
  | tup (l : List Si)
  | lst (c : Bool) (l : List Si)
def Si.plain : Si → Bool | .c _ => true | .f _ => false
def Su.plain : Su → Bool
  | .one s => s.plain
  | .tup l => l.all Si.plain
  | .lst _ l => l.all Si.plain
def siVal (fs : List (Str × D)) : Si → Option D
  | .c d => some d
  | .f n => fs.lookup n
def asSR (r : Res D) : SR := match r with | .ok d M => .rt d M | _ => .bad
def suRun (su : Su) (fs : List (Str × D)) (M : Mem) : SR :=
  match su with
  | .one s => match siVal fs s with | some d => .rt d M | none => .bad
  | .tup l => match optAll (l.map (siVal fs)) with | some ds => asSR (gTup ds M) | none => .bad
  | .lst c l => match optAll (l.map (siVal fs)) with | some ds => asSR (gLst c ds M) | none => .bad
structure Hd where
  cls : Str
  slot : Option Nat
  su : Su
def slotIn (o : Option Nat) (e : Ev) : Bool := match o with | none => true | some i => decide (i < e.length)
def handleD (sub : Str → Str → Bool) (e : Ev) (c : Str) (fs : List (Str × D)) (M : Mem) : List Hd → SR
  | [] => .exc e c fs M
  | h :: r => if sub c h.cls = true then (if (h.su.plain = true ∨ c = h.cls) ∧ slotIn h.slot e = true then suRun h.su fs M else .bad) else handleD sub e c fs M r
def sTry (sub : Str → Str → Bool) (f : FS) (hs : List Hd) : FS := fun e M => match f e M with
  | .exc e1 c fs M1 => handleD sub e1 c fs M1 hs
  | r => r
/-- the surroundings of a suite: the world, the caught error's fields -/
def rdSi (S : Sur) (R : Addr → Prop) (a : Addr) (cls : Value) (d : Option Addr) (C : Addr) (o : Option Nat) (s : Si) : TE := fun σ H Q => ∃ F M fs x, Sim S R F M H ∧ ExcD S R F M H d fs ∧ siVal fs s = some x ∧ (s.plain = true ∨ (cls = .ref C ∧ ∃ i, o = some i ∧ σ[i]? = some (some (.ref a)))) ∧ ∀ v, RelD S R F M H x v → Q v H
def rdSis (S : Sur) (R : Addr → Prop) (a : Addr) (cls : Value) (d : Option Addr) (C : Addr) (o : Option Nat) (l : List Si) : TA := fun σ H Q => ∃ F M fs xs, Sim S R F M H ∧ ExcD S R F M H d fs ∧ optAll (l.map (siVal fs)) = some xs ∧ (l.all Si.plain = true ∨ (cls = .ref C ∧ ∃ i, o = some i ∧ σ[i]? = some (some (.ref a)))) ∧ ∀ vs, Rels S R F M H xs vs → Q vs H
def rdSu (S : Sur) (R : Addr → Prop) (a : Addr) (cls : Value) (d : Option Addr) (C : Addr) (o : Option Nat) (su : Su) : TS := fun T σ H => ∃ F M fs, Sim S R F M H ∧ ExcD S R F M H d fs ∧ (su.plain = true ∨ (cls = .ref C ∧ ∃ i, o = some i ∧ σ[i]? = some (some (.ref a)))) ∧ PostS S R W0 F M H T (suRun su fs M)
section
variable {S : Sur} {R : Addr → Prop} {X : Cx} {a C : Addr} {oe : Obj} {cls : Value} {d : Option Addr} {pn : List (Addr × Obj)} {o : Option Nat} {e : Expr} {pos p : Pos} {es : List Expr}
theorem lookup_rel {F : Ads} {M : Mem} {H : Hp} {n : Str} {x : D} : ∀ {fs : List (Str × D)} {gs : List (Str × V)}, gs.map (·.1) = fs.map (·.1) → Rels S R F M H (fs.map (·.2)) (gs.map (·.2)) → fs.lookup n = some x → ∃ v, gs.lookup n = some v ∧ RelD S R F M H x v
  | [], gs, _, _, h => by cases h
  | (m, y) :: fs, [], hk, _, _ => by simp at hk
  | (m, y) :: fs, (m', v) :: gs, hk, r, h => by
    simp only [List.map_cons, List.cons.injEq] at hk
    obtain ⟨rfl, hk⟩ := hk
    rw [List.lookup_cons] at h ⊢
    have r0 := r.2 0 y v rfl rfl
    have rt : Rels S R F M H (fs.map (·.2)) (gs.map (·.2)) := ⟨by simpa using r.1, fun i d v a b => r.2 (i + 1) d v (by simpa using a) (by simpa using b)⟩
    cases q : n == m' with
    | true => rw [q] at h; cases h; exact ⟨v, rfl, r0⟩
    | false => rw [q] at h; exact lookup_rel hk rt h
theorem si_c {v : V} {x : D} (hp : PE (X.suite a ((a, oe) :: pn)) e (tC v)) (hr : ∀ R F M H, RelD S R F M H x v) : PE (X.suite a ((a, oe) :: pn)) e (rdSi S R a cls d C o (.c x)) :=
  PE_imp hp fun σ H Q ⟨F, M, fs, y, s, _, e1, _, k⟩ => by cases e1; exact k v (hr R F M H)
theorem si_f {n x : Str} {i : Nat} (T : XfC X.K C) (hno : PySem.W.findIn X.K (.ref C) n = some none) (hz : Zc cls d oe) (hf : ∃ vs, oe.data = .fields vs) (he : PE (X.suite a ((a, oe) :: pn)) e (tVar i)) (hb : attributeBase e n X.env (eval e X.env) = eval e X.env) (ho : o = some i) :
    PE (X.suite a ((a, oe) :: pn)) (.Attribute e n pos) (rdSi S R a cls d C o (.f n)) :=
  PE_imp (pe_xf T hno hz hf he hb) fun σ H Q ⟨F, M, fs, y, s, ed, e1, pl, k⟩ => by
    rcases pl with pl | ⟨ec, j, ej, es⟩
    · cases pl
    · rw [ho] at ej
      cases ej
      refine ⟨.ref a, es, rfl, ec, ?_⟩
      cases fs with
      | nil => cases e1
      | cons f fs =>
        obtain ⟨dx, gs, e2, e3, e4, e5⟩ := ed
        obtain ⟨v, e6, rv⟩ := lookup_rel e4 e5 e1
        exact ⟨dx, gs, v, e2, e3, e6, k v rv⟩
theorem sis_nil : PA (X.suite a ((a, oe) :: pn)) [] (rdSis S R a cls d C o []) := PA_imp pa_nil fun σ H Q ⟨F, M, fs, xs, s, _, e1, _, k⟩ => by cases e1; exact k [] .nil
theorem sis_cons {s : Si} {l : List Si} (h : PE (X.suite a ((a, oe) :: pn)) e (rdSi S R a cls d C o s)) (hr : PA (X.suite a ((a, oe) :: pn)) es (rdSis S R a cls d C o l)) (hs : starEach (e :: es) X.env = (false, eval e X.env) :: starEach es X.env) :
    PA (X.suite a ((a, oe) :: pn)) (e :: es) (rdSis S R a cls d C o (s :: l)) := PA_imp (pa_cons h hr hs) fun σ H Q ⟨F, M, fs, xs, si, ed, e1, pl, k⟩ => by
  rw [List.map_cons] at e1
  cases q1 : siVal fs s with
  | none => rw [q1] at e1; cases e1
  | some x =>
    rw [q1] at e1
    unfold optAll at e1
    cases q2 : optAll (l.map (siVal fs)) with
    | none => rw [q2] at e1; cases e1
    | some ys =>
      rw [q2] at e1
      cases e1
      have pl1 : s.plain = true ∨ (cls = .ref C ∧ ∃ i, o = some i ∧ σ[i]? = some (some (.ref a))) := pl.imp (fun z => (List.all_eq_true.mp z) s List.mem_cons_self) id
      have pl2 : l.all Si.plain = true ∨ (cls = .ref C ∧ ∃ i, o = some i ∧ σ[i]? = some (some (.ref a))) := pl.imp (fun z => List.all_eq_true.mpr fun y hy => (List.all_eq_true.mp z) y (List.mem_cons_of_mem _ hy)) id
      exact ⟨F, M, fs, x, si, ed, q1, pl1, fun v rv => ⟨F, M, fs, ys, si, ed, q2, pl2, fun vs rs => k (v :: vs) (.cons rv rs)⟩⟩
theorem asSR_post {F : Ads} {M : Mem} {H : Hp} {T : Ends} {r : Res D} {σ : L2.St} (h : PostS S R W0 F M H T (asSR r)) : Post S R W0 σ F M H (KE S R T.rt) r := by
  cases r with
  | ok x M' => exact fun F' H' l s v rv => h F' H' v l s rv
  | _ => exact h.elim
theorem su_one {s : Si} (h : PE (X.suite a ((a, oe) :: pn)) e (rdSi S R a cls d C o s)) : PSs (X.suite a ((a, oe) :: pn)) [.Return (some e) pos] (rdSu S R a cls d C o (.one s)) := PSs_imp (pss_one (ps_ret h)) fun T σ H ⟨F, M, fs, si, ed, pl, k⟩ => by
  have k' : PostS S R W0 F M H T (match siVal fs s with | some d => .rt d M | none => .bad) := k
  cases q : siVal fs s with
  | none => rw [q] at k'; exact k'.elim
  | some x =>
    rw [q] at k'
    exact ⟨F, M, fs, x, si, ed, q, pl, fun v rv => k' F H v .refl si rv⟩
theorem su_tup {l : List Si} {k : Nat} (h : PA (X.suite a ((a, oe) :: pn)) es (rdSis S R a cls d C o l)) : PSs (X.suite a ((a, oe) :: pn)) [.Return (some (.Tuple es k p)) pos] (rdSu S R a cls d C o (.tup l)) := PSs_imp (pss_one (ps_ret (pe_tup h))) fun T σ H ⟨F, M, fs, si, ed, pl, k⟩ => by
  have k' : PostS S R W0 F M H T (match optAll (l.map (siVal fs)) with | some ds => asSR (gTup ds M) | none => .bad) := k
  cases q : optAll (l.map (siVal fs)) with
  | none => rw [q] at k'; exact k'.elim
  | some xs =>
    rw [q] at k'
    refine ⟨F, M, fs, xs, si, ed, q, pl, fun vs rs => ?_⟩
    have k2 := asSR_post (σ := σ) k'
    unfold gTup at k2
    split at k2
    · rename_i hl
      exact ⟨small_ok (rs.1 ▸ hl), fun q hq => tup_ok si rs k2 hq⟩
    · exact k2.elim
theorem su_lst {l : List Si} {c : Bool} (h : PA (X.suite a ((a, oe) :: pn)) es (rdSis S R a cls d C o l)) : PSs (X.suite a ((a, oe) :: pn)) [.Return (some (.List es p)) pos] (rdSu S R a cls d C o (.lst c l)) := PSs_imp (pss_one (ps_ret (pe_lst h))) fun T σ H ⟨F, M, fs, si, ed, pl, k⟩ => by
  have k' : PostS S R W0 F M H T (match optAll (l.map (siVal fs)) with | some ds => asSR (gLst c ds M) | none => .bad) := k
  cases q : optAll (l.map (siVal fs)) with
  | none => rw [q] at k'; exact k'.elim
  | some xs =>
    rw [q] at k'
    refine ⟨F, M, fs, xs, si, ed, q, pl, fun vs rs => ?_⟩
    have k2 := asSR_post (σ := σ) k'
    unfold gLst at k2
    split at k2
    · rename_i hl
      exact ⟨small_ok (rs.1 ▸ hl), fun q hq => fin_ok si rs k2 hq⟩
    · exact k2.elim
/-- the clauses, their suites, the words for them -/
inductive ClD (S : Sur) (X : Cx) (sub : Str → Str → Bool) : List ExceptHandler → List Hd → Prop
  | nil : ClD S X sub [] []
  | cons {x : Str} {C : Addr} {nm : Option Str} {h : Hd} {st : Stmt} {suite : List Stmt} {np p : Pos} {hds : List ExceptHandler} {l : List Hd} (hc : Names X x (.ref C)) (hC : S.cls h.cls = some C) (ho : SlotOf X nm h.slot) (hpl : h.su.plain = true ∨ ∃ i, h.slot = some i)
      (hex : ∀ c C', S.cls c = some C' → PySem.W.exmOne X.K (.ref C') (.ref C) = some (sub c h.cls))
      (hs : ∀ (R : Addr → Prop) (a : Addr) (oe : Obj) (cls : Value) (d : Option Addr) (pn : List (Addr × Obj)), Zc cls d oe → (∃ vs, oe.data = .fields vs) → PSs (X.suite a ((a, oe) :: pn)) (st :: suite) (rdSu S R a cls d C h.slot h.su)) (r : ClD S X sub hds l) :
      ClD S X sub (.ExceptHandler (some (.Name x np)) nm (st :: suite) p :: hds) (h :: l)
theorem suRun_rt {su : Su} {fs : List (Str × D)} {M : Mem} : (∃ d M', suRun su fs M = .rt d M') ∨ suRun su fs M = .bad := by
  have as : ∀ r : Res D, (∃ d M', asSR r = .rt d M') ∨ asSR r = .bad := fun r => by cases r <;> first | exact .inr rfl | exact .inl ⟨_, _, rfl⟩
  cases su with
  | one s => unfold suRun; simp only; split <;> first | exact .inr rfl | exact .inl ⟨_, _, rfl⟩
  | tup l => unfold suRun; simp only; split <;> first | exact .inr rfl | exact as _
  | lst c l => unfold suRun; simp only; split <;> first | exact .inr rfl | exact as _
theorem cls_words {sub : Str → Str → Bool} {hds : List ExceptHandler} {l : List Hd} (h : ClD S X sub hds l) (R : Addr → Prop) : ∃ cs : List Cl, Cls' X hds cs ∧ ∀ (W : WX) (T : Ends) (F : Ads) (M : Mem) (H : Hp) (e : Ev) (c : Str) (fs : List (Str × D)) (C' : Addr) (d : Option Addr) (σ : L2.St),
    Sim S R F M H → RelE S R F M H e σ → S.cls c = some C' → ExcD S R F M H d fs → PostS S R W F M H T (handleD sub e c fs M l) → wNamed X.K W T cs (.ref C') d σ H := by
  induction h with
  | nil => exact ⟨[], .nil, fun W T F M H e c fs C' d σ s r k x h => h F H C' d σ .refl s r k x⟩
  | @cons x C nm h st suite np p hds l hc hC ho hpl hex hs r ih =>
    obtain ⟨cs, k1, k2⟩ := ih
    refine ⟨(.ref C, h.slot, fun a cls d => rdSu S R a cls d C h.slot h.su) :: cs, .cons hc ho (fun a oe cls d pn hz hf => hs R a oe cls d pn hz hf) k1, fun W T F M H e c fs C' d σ s re k x hp => ?_⟩
    refine ⟨_, hex c C' k, fun hb a na => ?_, fun hb => ?_⟩
    · unfold handleD at hp
      rw [if_pos hb] at hp
      split at hp
      · rename_i hpc
        have post : PostS S R W0 F M H (goneT h.slot T) (suRun h.su fs M) := by
          rcases suRun_rt (su := h.su) (fs := fs) (M := M) with ⟨d2, M2, q⟩ | q
          · rw [q] at hp ⊢
            cases hsl : h.slot with
            | none => exact hp
            | some i => exact hp
          · rw [q] at hp; exact hp.elim
        refine ⟨F, M, fs, s, x, ?_, post⟩
        obtain ⟨hpc, hsl⟩ := hpc
        rcases hpc with z | z
        · exact .inl z
        · rcases hpl with y | ⟨i, y⟩
          · exact .inl y
          · refine .inr ⟨?_, i, y, ?_⟩
            · rw [z, hC] at k; cases k; rfl
            · rw [y]
              cases nm with
              | none => rw [y] at ho; exact ho.elim
              | some n =>
                rw [y] at hsl
                have hi : i < e.length := of_decide_eq_true hsl
                exact List.getElem?_set_self (re.1 ▸ hi)
      · exact hp.elim
    · unfold handleD at hp
      rw [if_neg (by rw [hb]; exact Bool.false_ne_true)] at hp
      exact k2 W T F M H e c fs C' d σ s re k x hp
theorem gs_try {sub : Str → Str → Bool} {W : WX} {body : List Stmt} {h0 : ExceptHandler} {hds : List ExceptHandler} {l : List Hd} {f : FS} (hs : X.stack = X.env :: X.outer) (hf : X.env.frame = some X.env.locals) (hN : X.N.Nodup) (tk : Takes X W)
    (hb : ∀ (W : WX) (pn : List (Addr × Obj)) (xe : Value → Shared → Prop), Takes (X.tr pn xe) W → PassesOwn (model X.prog X.w) X.A X.env xe → GSs S (X.tr pn xe) W body f)
    (hh : ClD S X sub (h0 :: hds) l) : GS S X W (.Try body (h0 :: hds) [] [] pos) (sTry sub f l) := fun R => by
  obtain ⟨cs, k1, k2⟩ := cls_words hh R
  refine PS_imp (ps_try_named hs hf hN tk (fun W pn xe t p => hb W pn xe t p R) k1) fun T σ H ⟨F, M, env, s, r, h⟩ => ⟨F, M, env, s, r, ?_⟩
  have h' : PostS S R W F M H T (match f env M with | .exc e1 c fs M1 => handleD sub e1 c fs M1 l | r => r) := h
  cases q : f env M with
  | exc e1 c fs M1 =>
    rw [q] at h'
    exact fun F' H' C d σ' l' s' r' k x => k2 W T F' M1 H' e1 c fs C d σ' s' r' k x (PostS.from h' l')
  | nx e1 M1 => rw [q] at h'; exact h'
  | rt d M1 => rw [q] at h'; exact h'
  | bk e1 M1 => rw [q] at h'; exact h'
  | ct e1 M1 => rw [q] at h'; exact h'
  | bad => rw [q] at h'; exact h'
end

/-! ### methods of lists -/
/-- a method of a built-in list, by what it makes of D -/
def MtOk (S : Sur) (r : V → List V → Hp → VK → Prop) (g : D → List D → Mem → Res D) : Prop :=
  ∀ (R : Addr → Prop) (W : WX) (σ : L2.St) (F : Ads) (M : Mem) (H : Hp) (d : D) (x : V) (ds : List D) (vs : List V) (Q : VK), Sim S R F M H → RelD S R F M H d x → Rels S R F M H ds vs → Post S R W σ F M H (KE S R Q) (g d ds M) → r x vs H Q
def fMt (g : D → List D → Mem → Res D) (fo : FE D) (fs : FE (List D)) : FE D := fun env M => (fo env M).bind fun o M1 => if (rdLst M1 o).isSome = true then (fs env M1).bind fun ds M2 => g o ds M2 else .bad
def gAppend (o : D) (ds : List D) (M : Mem) : Res D :=
  match o, ds with
  | .loc n, [d] => match lstAt M n with | some xs => if xs.length ≤ 1000000 then .ok .non (M.set n (some (.lst (xs ++ [d])))) else .bad | none => .bad
  | _, _ => .bad
def gExtend (o : D) (ds : List D) (M : Mem) : Res D :=
  match o, ds with
  | .loc n, [d] => match lstAt M n, lstOf M d with | some xs, some ys => if xs.length + ys.length ≤ 1000000 then .ok .non (M.set n (some (.lst (xs ++ ys)))) else .bad | _, _ => .bad
  | _, _ => .bad
def gPopAt (o : D) (ds : List D) (M : Mem) : Res D :=
  match o, ds with
  | .loc n, [.int i] => match lstAt M n with
    | some xs => if -1000000 ≤ i ∧ i ≤ 1000000 then match seqIndex? i xs.length with
        | some k => match xs[k]? with | some d => .ok d (M.set n (some (.lst (xs.eraseIdx k)))) | none => .bad
        | none => .bad
      else .bad
    | none => .bad
  | _, _ => .bad
def gPop (o : D) (ds : List D) (M : Mem) : Res D :=
  match o, ds with
  | .loc n, [] => match lstAt M n with
    | some xs => match xs[xs.length - 1]? with | some d => .ok d (M.set n (some (.lst xs.dropLast))) | none => .bad
    | none => .bad
  | _, _ => .bad
def gReverse (o : D) (ds : List D) (M : Mem) : Res D :=
  match o, ds with
  | .loc n, [] => match lstAt M n with | some xs => .ok .non (M.set n (some (.lst xs.reverse))) | none => .bad
  | _, _ => .bad
def gClear (o : D) (ds : List D) (M : Mem) : Res D :=
  match o, ds with
  | .loc n, [] => match lstAt M n with | some _ => .ok .non (M.set n (some (.lst []))) | none => .bad
  | _, _ => .bad
section
variable {S : Sur} {X : Cx} {W : WX} {o e : Expr} {es : List Expr} {fo : FE D} {fs : FE (List D)} {name : Str} {id : String} {apos cpos : Pos} {r : V → List V → Hp → VK → Prop} {g : D → List D → Mem → Res D}
theorem ge_mt (hK : S.K = X.K) (slot : Slot "list" name id) (hty : typeOf (.builtin id) = pure (.type "method_descriptor")) (hm : MtR X id r) (hg : MtOk S r g) (ho : GE S X W o fo) (ha : GA S X W (e :: es) fs)
    (hbase : attributeBase o name X.env (eval o X.env) = eval o X.env)
    (hfew : ((backTo cpos (starEach (e :: es) X.env)).all (fun x => !x.1) && (backToKw cpos (keywordEach [] X.env)).all (fun x => x.1.isSome)
      && decide ((e :: es).length + ([] : List Keyword).length + (if ([] : List Keyword).isEmpty then 0 else 1) < 30)) = true)
    (hline : (apos.endLine == cpos.line) = true) (hs : starEach (e :: es) X.env = (false, eval e X.env) :: starEach es X.env) (hplain : (backTo cpos (starEach es X.env)).any (·.1) = false) :
    GE S X W (.Call (.Attribute o name apos) (e :: es) [] cpos) (fMt g fo fs) := fun R => by
  refine PE_imp (pe_bm PySem.F.plainAttrs_list slot hty hm (ho R) (ha R) hbase hfew hline hs hplain) fun σ H Q ⟨F, M, env, s, re, h⟩ => ⟨F, M, env, s, re, (Post.bind h).mono fun F1 M1 H1 d l1 s1 h1 v rv => ?_⟩
  split at h1
  · rename_i hk
    obtain ⟨xs, e1⟩ := Option.isSome_iff_exists.mp hk
    obtain ⟨a, vs, rfl, hq, rs⟩ := rdLst_at s1 rv e1
    refine ⟨.inl ⟨rfl, vs, hK ▸ hq⟩, F1, M1, env, s1, re.mono l1, (Post.bind h1).mono fun F2 M2 H2 ds l2 s2 h2 us ru => ?_⟩
    exact hg R W σ F2 M2 H2 d (.ref a) ds us Q s2 (rv.mono l2) ru h2
  · exact h1.elim
theorem ge_mt0 (hK : S.K = X.K) (slot : Slot "list" name id) (hty : typeOf (.builtin id) = pure (.type "method_descriptor")) (hm : MtR X id r) (hg : MtOk S r g) (ho : GE S X W o fo) (hbase : attributeBase o name X.env (eval o X.env) = eval o X.env) (hline : (apos.endLine == cpos.line) = true) :
    GE S X W (.Call (.Attribute o name apos) [] [] cpos) (fMt g fo fNil) := fun R => by
  refine PE_imp (pe_bm0 PySem.F.plainAttrs_list slot hty hm (ho R) hbase hline) fun σ H Q ⟨F, M, env, s, re, h⟩ => ⟨F, M, env, s, re, (Post.bind h).mono fun F1 M1 H1 d l1 s1 h1 v rv => ?_⟩
  split at h1
  · rename_i hk
    obtain ⟨xs, e1⟩ := Option.isSome_iff_exists.mp hk
    obtain ⟨a, vs, rfl, hq, rs⟩ := rdLst_at s1 rv e1
    exact ⟨.inl ⟨rfl, vs, hK ▸ hq⟩, hg R W σ F1 M1 H1 d (.ref a) [] [] Q s1 rv .nil h1⟩
  · exact h1.elim
theorem appendOk : MtOk S rAppend gAppend := by
  intro R W σ F M H d x ds vs Q s rx rs h
  unfold gAppend at h
  split at h
  · rename_i n d
    split at h
    · rename_i xs e1
      split at h
      · rename_i hl
        obtain ⟨a, us, rfl, hF, hH, ru⟩ := loc_at s rx e1
        obtain ⟨v, rfl, rv⟩ := rels1 rs
        obtain ⟨s2, l2⟩ := s.putL (lstAt_iff.mp e1) hF (ru.append (.cons rv .nil))
        exact ⟨a, us, v, rfl, rfl, hH, by rw [← ru.1]; exact Nat.lt_of_le_of_lt hl (by decide), h F _ l2 s2 _ .non⟩
      · exact h.elim
    · exact h.elim
  · exact h.elim
theorem extendOk : MtOk S rExtend gExtend := by
  intro R W σ F M H d x ds vs Q s rx rs h
  unfold gExtend at h
  split at h
  · rename_i n d
    split at h
    · rename_i xs ys e1 e2
      split at h
      · rename_i hl
        obtain ⟨a, us, rfl, hF, hH, ru⟩ := loc_at s rx e1
        obtain ⟨v, rfl, rv⟩ := rels1 rs
        obtain ⟨b, ws, rfl, hb, rw⟩ := lst_at s rv e2
        obtain ⟨s2, l2⟩ := s.putL (lstAt_iff.mp e1) hF (ru.append rw)
        exact ⟨a, b, us, ws, rfl, rfl, hH, hb, small_ok (by rw [← ru.1, ← rw.1]; exact hl), h F _ l2 s2 _ .non⟩
      · exact h.elim
    · exact h.elim
  · exact h.elim
theorem Rels.erase {R : Addr → Prop} {F : Ads} {M : Mem} {H : Hp} {ds : List D} {vs : List V} (k : Nat) (r : Rels S R F M H ds vs) : Rels S R F M H (ds.eraseIdx k) (vs.eraseIdx k) := by
  rw [List.eraseIdx_eq_take_drop_succ, List.eraseIdx_eq_take_drop_succ]
  exact (r.take k).append (r.drop (k + 1))
theorem popAtOk : MtOk S rPopAt gPopAt := by
  intro R W σ F M H d x ds vs Q s rx rs h
  unfold gPopAt at h
  split at h
  · rename_i n i
    split at h
    · rename_i xs e1
      split at h
      · rename_i hi
        split at h
        · rename_i k e2
          split at h
          · rename_i d e3
            obtain ⟨a, us, rfl, hF, hH, ru⟩ := loc_at s rx e1
            obtain ⟨v, rfl, rv⟩ := rels1 rs
            cases int_at rv
            obtain ⟨y, e4, ry⟩ := ru.get e3
            obtain ⟨s2, l2⟩ := s.putL (lstAt_iff.mp e1) hF (ru.erase k)
            exact ⟨a, us, i, k, y, rfl, rfl, hH, by omega, by omega, by rw [← ru.1]; exact e2, e4, h F _ l2 s2 _ (ry.mono l2)⟩
          · exact h.elim
        · exact h.elim
      · exact h.elim
    · exact h.elim
  · exact h.elim
theorem popOk : MtOk S rPop gPop := by
  intro R W σ F M H d x ds vs Q s rx rs h
  unfold gPop at h
  split at h
  · rename_i n
    split at h
    · rename_i xs e1
      split at h
      · rename_i d e3
        obtain ⟨a, us, rfl, hF, hH, ru⟩ := loc_at s rx e1
        have e0 : vs = [] := List.length_eq_zero_iff.mp rs.1.symm
        obtain ⟨y, e4, ry⟩ := ru.get e3
        have rd : Rels S R F M H xs.dropLast us.dropLast := by
          rw [List.dropLast_eq_take, List.dropLast_eq_take, ru.1]
          exact ru.take _
        obtain ⟨s2, l2⟩ := s.putL (lstAt_iff.mp e1) hF rd
        exact ⟨a, us, y, rfl, e0, hH, by rw [← ru.1]; exact e4, h F _ l2 s2 _ (ry.mono l2)⟩
      · exact h.elim
    · exact h.elim
  · exact h.elim
theorem reverseOk : MtOk S rReverse gReverse := by
  intro R W σ F M H d x ds vs Q s rx rs h
  unfold gReverse at h
  split at h
  · rename_i n
    split at h
    · rename_i xs e1
      obtain ⟨a, us, rfl, hF, hH, ru⟩ := loc_at s rx e1
      have e0 : vs = [] := List.length_eq_zero_iff.mp rs.1.symm
      obtain ⟨s2, l2⟩ := s.putL (lstAt_iff.mp e1) hF ru.reverse
      exact ⟨a, us, rfl, e0, hH, h F _ l2 s2 _ .non⟩
    · exact h.elim
  · exact h.elim
theorem clearOk : MtOk S rClear gClear := by
  intro R W σ F M H d x ds vs Q s rx rs h
  unfold gClear at h
  split at h
  · rename_i n
    split at h
    · rename_i xs e1
      obtain ⟨a, us, rfl, hF, hH, ru⟩ := loc_at s rx e1
      have e0 : vs = [] := List.length_eq_zero_iff.mp rs.1.symm
      obtain ⟨s2, l2⟩ := s.putL (lstAt_iff.mp e1) hF (ys := []) (us := []) .nil
      exact ⟨a, us, rfl, e0, hH, h F _ l2 s2 _ .non⟩
    · exact h.elim
  · exact h.elim
end
end En

set_option Elab.async false
set_option linter.all false
set_option maxRecDepth 100000
/-! E8b: empty dicts, dicts of pairs, exceptions as values, isinstance of them. -/
namespace En
open PySem PySem.Spec PyProof.Rows L2
def fD0 : FE D := fun _ M => .ok (.dct []) M
/-- dict([(k, v)]) -/
def gDict (ds : List D) (M : Mem) : Res D := match ds with
  | [.lst [.tup [.str k, v]]] => .ok (.dct [(.inr k, v)]) M
  | _ => .bad
/-- an exception made -/
def gExv (c fld : Str) (ds : List D) (M : Mem) : Res D := match ds with
  | [d] => .ok (.exc c [(fld, d)]) M
  | _ => .bad
def allTy : List D → Bool
  | [] => true
  | .ty c :: r => tyNames.contains c && allTy r
  | _ => false
def gIsiE (ds : List D) (M : Mem) : Res D := match ds with
  | [.exc _ _, .ty c] => if tyNames.contains c = true then .ok (.bl false) M else .bad
  | [.exc _ _, .tup cs] => if allTy cs = true then .ok (.bl false) M else .bad
  | ds => gIsi ds M
section
variable {S : Sur} {X : Cx} {W : WX} {a : Expr} {es : List Expr} {fs : FE (List D)} {pos p : Pos} {F : Ads} {M : Mem} {H : Hp} {R : Addr → Prop} {σ : L2.St}
theorem ge_d0 : GE S X W (.Dict [] [] pos) fD0 := fun R => PE_imp pe_dnewK fun σ H Q ⟨F, M, env, s, e, h⟩ q hq => by
  have l : Le F M H F M (upd H q (.dK [])) := Le.new hq
  exact h _ _ l (s.new hq) _ (.dct q [] [] (Fz.new s hq) upd_same rfl fun i d v a b => by simp at a)
/-- isinstance(e, c), e an exception in the heap -/
def rIsE2 (K : PySem.W.Frag) : List V → Hp → VK → Prop := fun xs H Q => ∃ (a dx C : Addr) (gs : List (Str × V)) (c : V), xs = [.ref a, c] ∧ H a = some (exo a C (some dx)) ∧ H dx = some (exd dx gs) ∧ extK K C = true ∧
  ((∃ n ∈ tyNames, c = .ty n) ∨ ∃ (tp : Addr) (ns : List String), c = .ref tp ∧ H tp = some (.tup (ns.map V.ty)) ∧ ∀ n ∈ ns, n ∈ tyNames) ∧ Q (.bl false) H
theorem kitAny_no {K : PySem.W.Frag} {t : Value} : ∀ {ns : List String}, (∀ n ∈ ns, PySem.W.kitOne K t (.type n) = some false) → PySem.W.kitAny K t (ns.map Value.type) = some false
  | [], _ => rfl
  | n :: r, h => by
    show (match PySem.W.kitOne K t (.type n) with | some true => some true | some false => PySem.W.kitAny K t (r.map Value.type) | none => none) = some false
    rw [h n List.mem_cons_self]
    exact kitAny_no fun m hm => h m (List.mem_cons_of_mem _ hm)
theorem tys_vals : ∀ {ns : List String} {us : List Value}, Vals (ns.map V.ty) us → us = ns.map Value.type
  | [], _, .nil => rfl
  | n :: ns, _, .cons r t => by
    rename_i u us
    obtain rfl : u = Value.type n := r
    rw [tys_vals t]; rfl
theorem call_isE2 : CallR X (.builtin "isinstance") (rIsE2 X.K) := by
  intro pins s σ H xs us Q I r h
  obtain ⟨a, dx, C, gs, c, rfl, ha, hd, hk, hc, q⟩ := h
  unfold extK at hk
  obtain ⟨k1, hk⟩ := Bool.and_eq_true_iff.mp hk
  obtain ⟨k2, hk⟩ := Bool.and_eq_true_iff.mp hk
  obtain ⟨k3, hk⟩ := Bool.and_eq_true_iff.mp hk
  obtain ⟨k4, hk⟩ := Bool.and_eq_true_iff.mp hk
  obtain ⟨k5, hk⟩ := Bool.and_eq_true_iff.mp hk
  obtain ⟨k6, hk⟩ := Bool.and_eq_true_iff.mp hk
  obtain ⟨k7, hk⟩ := Bool.and_eq_true_iff.mp hk
  obtain ⟨k8, k9⟩ := Bool.and_eq_true_iff.mp hk
  have no : ∀ n ∈ tyNames, PySem.W.kitOne X.K (.ref C) (.type n) = some false := fun n m => of_decide_eq_true (List.all_eq_true.mp k9 n m)
  obtain ⟨u1, u2, rfl, r1, r2⟩ := vals2 r
  obtain rfl : u1 = Value.ref a := r1
  obtain ⟨t1, hoe⟩ := exo_at I.hok ha
  obtain ⟨mA, hns, _⟩ := exd_at I.hok hd
  obtain ⟨od, ho, _⟩ := lookIn_ns hns
  have J : PySem.W.InstAt s.heap a ({ cls := .ref C, dict := some dx, data := .fields #[.ref t1, .none, .none, .none, .bool false, .none] } : Obj) C (some od) := ⟨hoe, rfl, rfl, ho⟩
  have Z := PySem.W.kitx_exc (K := X.K) (x := a) (ox := ({ cls := .ref C, dict := some dx, data := .fields #[.ref t1, .none, .none, .none, .bool false, .none] } : Obj)) (od := some od) k1 (of_decide_eq_true k2) (of_decide_eq_true k3) (of_decide_eq_true k4) (of_decide_eq_true k5) (of_decide_eq_true k6) (of_decide_eq_true k7) (of_decide_eq_true k8)
  rcases hc with ⟨n, hn, rfl⟩ | ⟨tp, ns, rfl, hT, hn⟩
  · obtain rfl : u2 = Value.type n := r2
    exact PySem.W.kia_one Z I.kIn J (no n hn) (fun z => nomatch z) fun tk => ⟨.bl false, H, I.tok tk, rfl, q⟩
  · obtain rfl : u2 = Value.ref tp := r2
    obtain ⟨_, its, rv, o, h1, h2, n, h3⟩ := (show ObjOk X.prog X.w H s.heap tp (.tup (ns.map V.ty)) from I.hok tp _ hT)
    have e3 := tys_vals rv
    subst e3
    obtain ⟨oc, od', dt, sl⟩ := o
    simp only at h2 h3
    subst h2 h3
    exact PySem.W.kia_tup Z I.kIn J h1 (kitAny_no fun n m => no n (hn n m)) (fun z => nomatch z) fun tk => ⟨.bl false, H, I.tok tk, rfl, q⟩
def rIsiE (K : PySem.W.Frag) : List V → Hp → VK → Prop := fun xs H Q => rIsiA K xs H Q ∨ rIsE2 K xs H Q
theorem call_isiE : CallR X (.builtin "isinstance") (rIsiE X.K) := CallR.or call_isiA call_isE2
theorem allTy_ok {S : Sur} {R : Addr → Prop} {F : Ads} {M : Mem} {H : Hp} : ∀ {cs : List D} {us : List V}, allTy cs = true → Rels S R F M H cs us → ∃ ns : List String, us = ns.map V.ty ∧ ∀ n ∈ ns, n ∈ tyNames
  | [], us, _, r => ⟨[], List.length_eq_zero_iff.mp r.1.symm, fun _ h => by cases h⟩
  | .ty c :: cs, us, h, r => by
    unfold allTy at h
    obtain ⟨h1, h2⟩ := Bool.and_eq_true_iff.mp h
    match us, r with
    | u :: us, r =>
      have r0 := r.2 0 _ u rfl rfl
      have rt : Rels S R F M H cs us := ⟨by simpa using r.1, fun i d v a b => r.2 (i + 1) d v (by simpa using a) (by simpa using b)⟩
      obtain ⟨ns, e, k⟩ := allTy_ok h2 rt
      cases r0
      exact ⟨c :: ns, by rw [e]; rfl, fun n m => by
        rcases List.mem_cons.mp m with rfl | m
        · simpa using h1
        · exact k n m⟩
    | [], r => exact absurd r.1 (by simp)
theorem isiEOk : ClOk S (rIsiE S.K) gIsiE := by
  intro R W σ F M H ds vs Q s r h
  unfold gIsiE at h
  split at h
  · rename_i c fs t
    obtain ⟨v, u, rfl, rv, ru⟩ := rels2 r
    cases ru
    cases rv with
    | exc a dx C c fs gs z z2 k e e2 n k2 =>
      split at h
      · rename_i ht
        exact .inr ⟨a, dx, C, gs, _, rfl, e, e2, k.2, .inl ⟨t, by simpa using ht, rfl⟩, ok_of s (.bl _) h⟩
      · exact h.elim
  · rename_i c fs cs
    obtain ⟨v, u, rfl, rv, ru⟩ := rels2 r
    obtain ⟨b, us, rfl, hb, rs⟩ := tup_at ru
    cases rv with
    | exc a dx C c fs gs z z2 k e e2 n k2 =>
      split at h
      · rename_i ht
        obtain ⟨ns, e3, k3⟩ := allTy_ok ht rs
        subst e3
        exact .inr ⟨a, dx, C, gs, _, rfl, e, e2, k.2, .inr ⟨b, ns, rfl, hb, k3⟩, ok_of s (.bl _) h⟩
      · exact h.elim
  · exact .inl (isiOk R W σ F M H _ vs Q s r h)
/-! ### C(e), a value -/
def tMkV (C : Addr) (sp : Sp) (ta : TA) : TE := fun σ H Q => ta σ H fun vs H1 => vs.length ≤ 1000 ∧ ∀ a, H1 a = none → sp (.ref a :: vs) (upd H1 a (exo a C none)) (fun v H2 => v = .non ∧ Q (.ref a) H2) (fun _ _ _ => False)
theorem pe_oexV {x : Str} {e : Expr} {ta : TA} {C fI : Addr} {k : Nat} {fd : FuncData} {ps : List Str} {sp : Sp} (T : OexC X.K C) (iC : PySem.W.findIn X.K (.ref C) "__init__" = some (some (.ref fI))) (tI : PySem.W.typeIn X.K (.ref fI) = some (.type "function"))
    (F1 : FnOk X.prog X.w X.K X.mg X.base CX0 k fI fd ps sp) (hr : Room (k + 1) X.A) (hb : Binds X.K fd ps []) (hg : Gl X x) (hm : X.mg x = some (.ref C)) (ha : PA X (e :: es) ta)
    (hdb : (x == ("__debug__" : Str)) = false) (he : starEach (e :: es) X.env = (false, eval e X.env) :: starEach es X.env) (hpl : (backTo pos (starEach es X.env)).any (·.1) = false) :
    PE X (.Call (.Name x p) (e :: es) [] pos) (tMkV C sp ta) := by
  refine ⟨fun pins s σ H Q I h => ?_⟩
  obtain ⟨nm, q, N, bs, bm, sn, sub, ab, col, dd, k0, k1, k2, k3, k5, hC, hbm⟩ := T.cls
  refine wpAny_Call_Name_kw (ld_glob I hg hm ?_ hdb)
  refine PySem.W.callWith_K (h₀ := X.base) I.ok.mod.kin T.kC (thn (ha.run pos pins s σ H _ I h) fun us s1 ⟨vs, H1, I1, r1, hz, q1⟩ => ⟨I1.kIn, ?_⟩) he hpl
  show wpAny _ _ (call (.ref C) us) _ _ _
  obtain ⟨hp, g, dr, tk, os⟩ := s1
  have hsz : hp.objs.size ≤ hp.objs.size + 1 := Nat.le_succ _
  have hn : H1 (hp.objs.size + 1) = none := I1.hok.fresh hsz
  have hq := q1 (hp.objs.size + 1) hn
  have kk : ∀ b o, hp.get? b = some o → ((hp.push (PySem.W.kdv_tup us)).push (PySem.HandSPX.excO C hp.objs.size)).get? b = some o := fun b o e => Heap.get?_push_of_some _ (Heap.get?_push_of_some _ e)
  have hget : ((hp.push (PySem.W.kdv_tup us)).push (PySem.HandSPX.excO C hp.objs.size)).get? (hp.objs.size + 1) = some (PySem.HandSPX.excO C hp.objs.size) := by heap_get
  have I2 : Inv X pins σ (upd H1 (hp.objs.size + 1) (exo (hp.objs.size + 1) C none)) ⟨(hp.push (PySem.W.kdv_tup us)).push (PySem.HandSPX.excO C hp.objs.size), g, dr, tk, os⟩ :=
    I1.laid (t' := tk) (a := hp.objs.size + 1) (o := exo (hp.objs.size + 1) C none) (h' := (hp.push (PySem.W.kdv_tup us)).push (PySem.HandSPX.excO C hp.objs.size)) kk hsz (exo_ok hget)
  have r2 : Vals (V.ref (hp.objs.size + 1) :: vs) (Value.ref (hp.objs.size + 1) :: us) := .cons rfl r1
  have hl : (Value.ref (hp.objs.size + 1) :: us ++ []).length = ps.length := by
    have e := r2.length
    rw [F1.len _ _ _ _ hq] at e
    rw [List.append_nil]
    exact e.symm
  have hus : us.length ≤ sizeLine := by
    rw [← Paired.length r1, sizeLine_eq]
    omega
  have hb2 := hb ⟨(hp.push (PySem.W.kdv_tup us)).push (PySem.HandSPX.excO C hp.objs.size), g, dr, tk, os⟩ (Value.ref (hp.objs.size + 1) :: us) I2.kIn hl
  rw [List.append_nil] at hb2
  refine wpAny_call (PySem.HandSPX.call_own F.excBase_ValueError (fun Y => PySem.HandSPX.refsVE_contains Y bm hbm) (I1.kIn _ _ hC) (PySem.W.looks_findIn I1.kIn iC) (fun self => PySem.W.bind_fn I1.kIn self tI) hus
    (codeAny_mono (F1.run _ X.stack _ _ ⟨Value.ref (hp.objs.size + 1) :: us, []⟩ (Value.ref (hp.objs.size + 1) :: us) _ _ (fun _ _ _ => False) (hr.make C us []) (I2.env0.make C us []) hb2 r2 hq) fun r s' hq' => ?_))
  cases r with
  | error er => exact False.elim hq'
  | ok fl =>
    cases fl with
    | ret u =>
      obtain ⟨v, H2, J, rv, ev, q2⟩ := I2.after hq'
      subst ev
      exact ⟨rv, .ref (hp.objs.size + 1), H2, J, rfl, q2⟩
    | next => exact False.elim hq'
    | brk => exact False.elim hq'
    | cont => exact False.elim hq'
theorem ge_exv {c fld x : Str} {C fI : Addr} {fd : FuncData} (T : OexC X.K C) (hS : S.cls c = some C ∧ extK S.K C = true) (iC : PySem.W.findIn X.K (.ref C) "__init__" = some (some (.ref fI))) (tI : PySem.W.typeIn X.K (.ref fI) = some (.type "function"))
    (F1 : FnOk X.prog X.w X.K X.mg X.base CX0 1 fI fd ["self", fld] (spKeep X.K C fld)) (hr : Room 2 X.A) (hb : Binds X.K fd ["self", fld] []) (hg : Gl X x) (hm : X.mg x = some (.ref C)) (hd : (x == ("__debug__" : Str)) = false)
    (ha : GA S X W [a] fs) (he : starEach [a] X.env = (false, eval a X.env) :: starEach [] X.env) : GE S X W (.Call (.Name x p) [a] [] pos) (fCl (gExv c fld) fs) := fun R => by
  refine PE_imp (pe_oexV T iC tI F1 hr hb hg hm (ha R) hd he rfl) fun σ H Q h => rd_args h fun F M H ds vs s r h => ?_
  unfold gExv at h
  split at h
  · rename_i d
    obtain ⟨v, rfl, rv⟩ := rels1 r
    refine ⟨by show 1 ≤ 1000; decide, fun e hne => ⟨e, v, rfl, upd_same, fun dx hdx hne2 => ⟨rfl, ?_⟩⟩⟩
    have hdx1 : H dx = none := by rw [upd_ne hne2] at hdx; exact hdx
    have eqH : upd (upd (upd H e (exo e C none)) dx (exd dx [(fld, v)])) e (exo e C (some dx)) = upd (upd H dx (exd dx [(fld, v)])) e (exo e C (some dx)) := by
      funext b
      by_cases h1 : b = e
      · rw [h1, upd_same, upd_same]
      · rw [upd_ne h1, upd_ne h1]
        by_cases h2 : b = dx
        · rw [h2, upd_same, upd_same]
        · rw [upd_ne h2, upd_ne h2, upd_ne h1]
    rw [eqH]
    have l1 : Le F M H F M (upd H dx (exd dx [(fld, v)])) := Le.new hdx1
    have s1 := s.new (o := exd dx [(fld, v)]) hdx1
    have hne1 : upd H dx (exd dx [(fld, v)]) e = none := by rw [upd_ne (Ne.symm hne2)]; exact hne
    have l2 : Le F M (upd H dx (exd dx [(fld, v)])) F M (upd (upd H dx (exd dx [(fld, v)])) e (exo e C (some dx))) := Le.new hne1
    have z1 : Fz S R F M (upd H dx (exd dx [(fld, v)])) dx := Fz.new s hdx1
    refine h _ _ (l1.trans l2) (s1.new hne1) _ (.exc e dx C c [(fld, d)] [(fld, v)] (Fz.new s1 hne1) (z1.mono l2) hS upd_same (z1.at l2 upd_same) rfl fun i d' v' a b => ?_)
    cases i with
    | zero => cases a; cases b; exact (rv.mono l1).mono l2
    | succ i => simp at a
  · exact h.elim
/-! ### dict(pairs) -/
def rDict (K : PySem.W.Frag) : List V → Hp → VK → Prop := fun xs H Q => ∃ (a : Addr) (ps : List Addr) (kvs : List (Key × V)), xs = [.ref a] ∧ SqL K H a (ps.map V.ref) ∧ Paired (fun p kv => SqT K H p [kV kv.1, kv.2]) ps kvs ∧ ∀ p, H p = none → Q (.ref p) (upd H p (.dK (mergeK [] kvs)))
theorem dictOk : ClOk S (rDict S.K) gDict := by
  intro R W σ F M H ds vs Q s r h
  unfold gDict at h
  split at h
  · rename_i k d
    obtain ⟨v, rfl, rv⟩ := rels1 r
    cases rv with
    | lst a ds us z e n kk =>
      match us, n with
      | [u], _ =>
        have ru := kk 0 _ u rfl rfl
        obtain ⟨b, ws, rfl, hb, rs⟩ := tup_at ru
        obtain ⟨w1, w2, rfl, rk, rd⟩ := rels2 rs
        cases rk
        refine ⟨a, [b], [(.inr k, w2)], rfl, SqL.of e, .cons (.of hb) .nil, fun q hq => ?_⟩
        have l : Le F M H F M (upd H q (.dK [(.inr k, w2)])) := Le.new hq
        refine h _ _ l (s.new hq) _ (.dct q [(.inr k, d)] [(.inr k, w2)] (Fz.new s hq) upd_same rfl fun i d' v' a b => ?_)
        cases i with
        | zero => cases a; cases b; exact rd.mono l
        | succ i => simp at a
  · exact h.elim
end
end En

set_option Elab.async false
set_option linter.all false
set_option maxRecDepth 100000
/-! E8c: sorted, max and min of a list of ints, a list turned round. -/
namespace En
open PySem PySem.Spec PyProof.Rows L2
def srt (ns : List Int) : List Int := ns.mergeSort (fun a b => decide (a ≤ b))
theorem srt_perm (ns : List Int) : (srt ns).Perm ns := List.mergeSort_perm _ _
theorem srt_sorted (ns : List Int) : (srt ns).Pairwise (· ≤ ·) := by
  have h := List.pairwise_mergeSort (le := fun a b : Int => decide (a ≤ b)) (fun a b c h1 h2 => by simp only [decide_eq_true_eq] at *; omega) (fun a b => by simp only [Bool.or_eq_true, decide_eq_true_eq]; omega) ns
  exact h.imp fun h => by simpa using h
theorem sorted_uniq : ∀ {a b : List Int}, a.Perm b → a.Pairwise (· ≤ ·) → b.Pairwise (· ≤ ·) → a = b
  | [], b, p, _, _ => (List.nil_perm.mp p).symm ▸ rfl
  | x :: a, [], p, _, _ => absurd p.length_eq (by simp)
  | x :: a, y :: b, p, ha, hb => by
    rw [List.pairwise_cons] at ha hb
    have h1 : y ≤ x := by
      rcases List.mem_cons.mp (p.mem_iff.mp List.mem_cons_self) with h | h
      · omega
      · exact hb.1 x h
    have h2 : x ≤ y := by
      rcases List.mem_cons.mp (p.mem_iff.mpr (List.mem_cons_self (a := y))) with h | h
      · omega
      · exact ha.1 y h
    have e : x = y := by omega
    subst e
    rw [sorted_uniq (List.perm_cons x |>.mp p) ha.2 hb.2]
def gSorted (c : Bool) (ds : List D) (M : Mem) : Res D := match ds with
  | [d] => match (rdLst M d).bind asInts with | some ns => fin c ((srt ns).map D.int) M | none => .bad
  | _ => .bad
def mxL : List Int → Int
  | [] => 0
  | [x] => x
  | x :: r => if x ≤ mxL r then mxL r else x
def mnL : List Int → Int
  | [] => 0
  | [x] => x
  | x :: r => if mnL r ≤ x then mnL r else x
def gMaxL (ds : List D) (M : Mem) : Res D := match ds with
  | [d] => match (rdLst M d).bind asInts with | some [] => .bad | some ns => .ok (.int (mxL ns)) M | none => .bad
  | _ => .bad
def gMinL (ds : List D) (M : Mem) : Res D := match ds with
  | [d] => match (rdLst M d).bind asInts with | some [] => .bad | some ns => .ok (.int (mnL ns)) M | none => .bad
  | _ => .bad
def gRevL (c : Bool) (ds : List D) (M : Mem) : Res D := match ds with
  | [d] => match rdLst M d with | some xs => fin c xs.reverse M | none => .bad
  | _ => .bad
theorem mxL_mem : ∀ {ns : List Int}, ns ≠ [] → mxL ns ∈ ns ∧ ∀ y ∈ ns, y ≤ mxL ns
  | [], h => absurd rfl h
  | [x], _ => ⟨List.mem_cons_self, fun y m => by rw [List.mem_singleton] at m; rw [m]; exact Int.le_refl _⟩
  | x :: z :: r, _ => by
    have ih := mxL_mem (ns := z :: r) (by simp)
    show (if x ≤ mxL (z :: r) then mxL (z :: r) else x) ∈ x :: z :: r ∧ ∀ y ∈ x :: z :: r, y ≤ (if x ≤ mxL (z :: r) then mxL (z :: r) else x)
    split
    · exact ⟨List.mem_cons_of_mem _ ih.1, fun y m => by
        rcases List.mem_cons.mp m with rfl | m
        · assumption
        · exact ih.2 y m⟩
    · exact ⟨List.mem_cons_self, fun y m => by
        rcases List.mem_cons.mp m with rfl | m
        · exact Int.le_refl _
        · have := ih.2 y m; omega⟩
theorem mnL_mem : ∀ {ns : List Int}, ns ≠ [] → mnL ns ∈ ns ∧ ∀ y ∈ ns, mnL ns ≤ y
  | [], h => absurd rfl h
  | [x], _ => ⟨List.mem_cons_self, fun y m => by rw [List.mem_singleton] at m; rw [m]; exact Int.le_refl _⟩
  | x :: z :: r, _ => by
    have ih := mnL_mem (ns := z :: r) (by simp)
    show (if mnL (z :: r) ≤ x then mnL (z :: r) else x) ∈ x :: z :: r ∧ ∀ y ∈ x :: z :: r, (if mnL (z :: r) ≤ x then mnL (z :: r) else x) ≤ y
    split
    · exact ⟨List.mem_cons_of_mem _ ih.1, fun y m => by
        rcases List.mem_cons.mp m with rfl | m
        · assumption
        · exact ih.2 y m⟩
    · exact ⟨List.mem_cons_self, fun y m => by
        rcases List.mem_cons.mp m with rfl | m
        · exact Int.le_refl _
        · have := ih.2 y m; omega⟩
section
variable {S : Sur} {X : Cx} {W : WX}
theorem rels_ints {R : Addr → Prop} {F : Ads} {M : Mem} {H : Hp} (ns : List Int) : Rels S R F M H (ns.map D.int) (ns.map V.int) := by
  refine ⟨by simp, fun i d v h1 h2 => ?_⟩
  rw [List.getElem?_map] at h1 h2
  cases q : ns[i]? with
  | none => rw [q] at h1; cases h1
  | some n => rw [q] at h1 h2; cases h1; cases h2; exact .int n
theorem sortedOk {c : Bool} : ClOk S (rSortedI S.K) (gSorted c) := by
  intro R W σ F M H ds vs Q s r h
  unfold gSorted at h
  split at h
  · rename_i d
    obtain ⟨v, rfl, rv⟩ := rels1 r
    cases e1 : rdLst M d with
    | none => rw [e1] at h; exact h.elim
    | some xs =>
      rw [e1] at h
      cases e2 : asInts xs with
      | none => simp only [Option.bind_some, e2] at h; exact h.elim
      | some ns =>
        simp only [Option.bind_some, e2] at h
        obtain ⟨a, vs, rfl, hq, rs⟩ := rdLst_at s rv e1
        rw [asInts_eq e2] at rs
        refine ⟨a, ns, rfl, rs.ints ▸ hq, fun ns' p pm pw hp => ?_⟩
        have e3 : ns' = srt ns := sorted_uniq (pm.trans (srt_perm ns).symm) pw (srt_sorted ns)
        subst e3
        exact fin_ok s (rels_ints (srt ns)) h hp
    
  · exact h.elim
theorem maxLOk : ClOk S (rMax S.K) gMaxL := by
  intro R W σ F M H ds vs Q s r h
  unfold gMaxL at h
  split at h
  · rename_i d
    obtain ⟨v, rfl, rv⟩ := rels1 r
    cases e1 : rdLst M d with
    | none => rw [e1] at h; exact h.elim
    | some xs =>
      rw [e1] at h
      cases e2 : asInts xs with
      | none => simp only [Option.bind_some, e2] at h; exact h.elim
      | some ns =>
        simp only [Option.bind_some, e2] at h
        obtain ⟨a, vs, rfl, hq, rs⟩ := rdLst_at s rv e1
        rw [asInts_eq e2] at rs
        cases ns with
        | nil => exact h.elim
        | cons x ns =>
          obtain ⟨m1, m2⟩ := mxL_mem (ns := x :: ns) (by simp)
          refine ⟨a, x :: ns, rfl, rs.ints ▸ hq, by simp, fun m k1 k2 => ?_⟩
          have e3 : m = mxL (x :: ns) := by
            have a1 := m2 m k1
            have a2 := k2 _ m1
            omega
          subst e3
          exact ok_of s (.int _) h
  · exact h.elim
theorem minLOk : ClOk S (rMin S.K) gMinL := by
  intro R W σ F M H ds vs Q s r h
  unfold gMinL at h
  split at h
  · rename_i d
    obtain ⟨v, rfl, rv⟩ := rels1 r
    cases e1 : rdLst M d with
    | none => rw [e1] at h; exact h.elim
    | some xs =>
      rw [e1] at h
      cases e2 : asInts xs with
      | none => simp only [Option.bind_some, e2] at h; exact h.elim
      | some ns =>
        simp only [Option.bind_some, e2] at h
        obtain ⟨a, vs, rfl, hq, rs⟩ := rdLst_at s rv e1
        rw [asInts_eq e2] at rs
        cases ns with
        | nil => exact h.elim
        | cons x ns =>
          obtain ⟨m1, m2⟩ := mnL_mem (ns := x :: ns) (by simp)
          refine ⟨a, x :: ns, rfl, rs.ints ▸ hq, by simp, fun m k1 k2 => ?_⟩
          have e3 : m = mnL (x :: ns) := by
            have a1 := m2 m k1
            have a2 := k2 _ m1
            omega
          subst e3
          exact ok_of s (.int _) h
  · exact h.elim
theorem ge_revL {e : Expr} {fe : FE D} {k : Nat} {p1 p2 p3 pos : Pos} {c : Bool} (hK : S.K = X.K) (he : GE S X W e fe) : GE S X W (.Subscript e (.Slice none none (some (.UnaryOp .USub (.Constant (.int 1) k p1) p2)) p3) pos) (fCl (gRevL c) (fCons fe fNil)) := fun R => by
  refine PE_imp (pe_revL (he R)) fun σ H Q ⟨F, M, env, s, r, h⟩ => ⟨F, M, env, s, r, ?_⟩
  have h1 := Post.bind h
  have h2 : Post S R W σ F M H _ ((fe env M).bind fun x M1 => (fNil env M1).bind fun xs M2 => .ok (x :: xs) M2) := h1
  refine (Post.bind h2).mono fun F1 M1 H1 d l1 s1 h3 v rv => ?_
  have h4 : Post S R W σ F1 M1 H1 (KE S R Q) (gRevL c [d] M1) := h3 F1 H1 .refl s1
  unfold gRevL at h4
  simp only at h4
  cases e1 : rdLst M1 d with
  | none => rw [e1] at h4; exact h4.elim
  | some xs =>
    rw [e1] at h4
    obtain ⟨a, vs, rfl, hq, rs⟩ := rdLst_at s1 rv e1
    exact ⟨a, vs, rfl, hK ▸ hq, fun p hp => fin_ok s1 rs.reverse h4 hp⟩
/-- [*a, ..] -/
def fConsS (fa : FE D) (fr : FE (List D)) : FE (List D) := fun env M => (fa env M).bind fun x M1 => match rdSeq M1 x with | some xs => (fr env M1).bind fun ys M2 => .ok (xs ++ ys) M2 | none => .bad
theorem ga_star {e : Expr} {es : List Expr} {fe : FE D} {fr : FE (List D)} {p : Pos} (hK : S.K = X.K) (he : GE S X W e fe) (hr : GA S X W es fr) : GA S X W (.Starred e p :: es) (fConsS fe fr) := fun R => by
  refine PA_imp (StX.pa_star (he R) (hr R)) fun σ H Q ⟨F, M, env, s, r, h⟩ => ⟨F, M, env, s, r, (Post.bind h).mono fun F1 M1 H1 dx l1 s1 h1 x rx => ?_⟩
  cases e1 : rdSeq M1 dx with
  | none => rw [e1] at h1; exact h1.elim
  | some xs =>
    rw [e1] at h1
    obtain ⟨a, vs, rfl, hq, rs⟩ := rdSeq_at s1 rx e1
    refine ⟨a, vs, rfl, hK ▸ hq.symm, F1, M1, env, s1, r.mono l1, (Post.bind h1).mono fun F2 M2 H2 ds l2 s2 h2 us ru => ?_⟩
    exact h2 F2 H2 .refl s2 (vs ++ us) ((rs.mono l2).append ru)
end
end En

set_option Elab.async false
set_option linter.all false
set_option maxRecDepth 100000
/-! E8d: repr of plain data, math.comb, max with a default. -/
namespace En
open PySem PySem.Spec PyProof.Rows L2
def okR (p : PyData) : Bool := p.showable && (!p.hasDict && (decide (p.depth ≤ 60) && decide (p.shown.length ≤ 1000000)))
def gRepr (ds : List D) (M : Mem) : Res D := match ds with
  | [d] => match toP M 65 d with | some p => if okR p = true then .ok (.str p.shown) M else .bad | none => .bad
  | _ => .bad
def gComb (ds : List D) (M : Mem) : Res D := match ds with
  | [.int a, .int b] => if (0 ≤ a ∧ a < 1000) ∧ 0 ≤ b ∧ b < 1000 then .ok (.int (PySem.W.mcComb a b)) M else .bad
  | _ => .bad
/-- max(xs, default=None) -/
def gMaxD (ds : List D) (M : Mem) : Res D := match ds with
  | [d] => match (rdLst M d).bind asInts with | some [] => .ok .non M | some (n :: ns) => .ok (.int (mxL (n :: ns))) M | none => .bad
  | _ => .bad
def rRepr (K : PySem.W.Frag) : List V → Hp → VK → Prop := fun xs H Q => ∃ x p, xs = [x] ∧ Dp K H x p ∧ okR p = true ∧ Q (.str p.shown) H
def rComb : List V → Hp → VK → Prop := fun xs H Q => ∃ a b, xs = [.int a, .int b] ∧ ((0 ≤ a ∧ a < 1000) ∧ 0 ≤ b ∧ b < 1000) ∧ Q (.int (PySem.W.mcComb a b)) H
def rMaxN (K : PySem.W.Frag) : List V → List V → Hp → VK → Prop := fun xs zs H Q => ∃ a ns, xs = [.ref a] ∧ zs = [.non] ∧ SqL K H a (ns.map V.int) ∧ Q (match ns with | [] => .non | n :: r => .int (mxL (n :: r))) H
section
variable {X : Cx} {S : Sur}
theorem call_repr (gd : X.A.guards = some []) (hu : X.A.units + 65 < cLine) : CallR X (.builtin "repr") (rRepr X.K) := by
  intro pins s σ H xs us Q I r h
  obtain ⟨x, p, rfl, hd, ho, q⟩ := h
  unfold okR at ho
  simp only [Bool.and_eq_true, decide_eq_true_eq, Bool.not_eq_true'] at ho
  obtain ⟨h1, h2, h3, h4⟩ := ho
  have hz : p.shown.length ≤ sizeLine := Nat.le_trans h4 (by decide)
  obtain ⟨u, rfl, rx⟩ := vals1 r
  obtain ⟨as, rd⟩ := Dp.reads I p x u hd rx
  have big : ∀ {a : Addr}, u = .ref a → wpAny (model X.prog X.w) X.A (call (.builtin "repr") [.ref a]) (EP X pins σ Q) X.xe s := by
    rintro a rfl
    exact repr_of_reads' rd h1 (fun z => by rw [h2] at z; cases z) gd (by omega) (fun _ _ e => e) (fun h' u tk hk => ⟨.str _, H, I.kept hk, ⟨_, rfl⟩, q⟩) hz
  cases hd with
  | non => cases rx; exact PySem.P.repr_of_none ⟨.str _, H, I.tok _, ⟨_, rfl⟩, q⟩
  | bl b => cases rx; exact PySem.P.repr_of_bool ⟨.str _, H, I.tok _, ⟨_, rfl⟩, q⟩
  | int i =>
    obtain ⟨t, rfl⟩ := rx
    exact PySem.P.repr_of_int (of_decide_eq_true h1) ⟨.str _, H, I.tok _, ⟨_, rfl⟩, q⟩
  | str y =>
    obtain ⟨t, rfl⟩ := rx
    exact PySem.P.repr_of_str ⟨.str _, H, I.tok _, ⟨_, rfl⟩, q⟩ hz
  | lst => cases rx; exact big rfl
  | tup => cases rx; exact big rfl
theorem reprOk : ClOk S (rRepr S.K) gRepr := by
  intro R W σ F M H ds vs Q s r h
  unfold gRepr at h
  split at h
  · rename_i d
    obtain ⟨v, rfl, rv⟩ := rels1 r
    split at h
    · rename_i p e
      split at h
      · rename_i ho
        exact ⟨v, p, rfl, toP_ok s rv e, ho, ok_of s (.str _) h⟩
      · exact h.elim
    · exact h.elim
  · exact h.elim
theorem call_comb : CallR X (.builtin "math.comb") rComb := by
  intro pins s σ H xs us Q I r h
  obtain ⟨a, b, rfl, hb, q⟩ := h
  obtain ⟨t, u, rfl⟩ := Vals.int2 r
  exact PySem.W.mc_comb hb.1.1 hb.2.1 (by omega) (.inl (by omega)) fun _ => ⟨.int _, H, I.tok _, ⟨_, rfl⟩, q⟩
theorem combOk : ClOk S rComb gComb := by
  intro R W σ F M H ds vs Q s r h
  unfold gComb at h
  split at h
  · rename_i a b
    obtain ⟨v, u, rfl, rv, ru⟩ := rels2 r
    cases rv; cases ru
    split at h
    · rename_i hb
      exact ⟨a, b, rfl, hb, ok_of s (.int _) h⟩
    · exact h.elim
  · exact h.elim
theorem mxL_uniq {l : List Int} {m : Int} (hl : l ≠ []) (h1 : m ∈ l) (h2 : ∀ y ∈ l, y ≤ m) : m = mxL l := by
  obtain ⟨a, b⟩ := mxL_mem hl
  have := b m h1
  have := h2 _ a
  omega
theorem fold_max : ∀ (xs : List Int) (x : Int), (xs.foldl (fun a y => if decide (a < y) = true then y else a) x ∈ x :: xs) ∧ ∀ y ∈ x :: xs, y ≤ xs.foldl (fun a y => if decide (a < y) = true then y else a) x
  | [], x => ⟨List.mem_cons_self, fun y m => by rw [List.mem_singleton] at m; rw [m]; exact Int.le_refl _⟩
  | z :: xs, x => by
    rw [List.foldl_cons]
    by_cases q : x < z
    · rw [if_pos (decide_eq_true q)]
      obtain ⟨h1, h2⟩ := fold_max xs z
      refine ⟨List.mem_cons_of_mem _ h1, fun y m => ?_⟩
      rcases List.mem_cons.mp m with rfl | m
      · have := h2 z List.mem_cons_self; omega
      · exact h2 y m
    · rw [if_neg (by simpa using q)]
      obtain ⟨h1, h2⟩ := fold_max xs x
      refine ⟨?_, fun y m => ?_⟩
      · rcases List.mem_cons.mp h1 with e | m
        · rw [e]; exact List.mem_cons_self
        · exact List.mem_cons_of_mem _ (List.mem_cons_of_mem _ m)
      · rcases List.mem_cons.mp m with rfl | m
        · exact h2 _ List.mem_cons_self
        · rcases List.mem_cons.mp m with rfl | m
          · have := h2 x List.mem_cons_self; omega
          · exact h2 y (List.mem_cons_of_mem _ m)
theorem maxOf_eq (x : Int) (xs : List Int) : PySem.W.maxOf x xs = mxL (x :: xs) := mxL_uniq (by simp) (fold_max xs x).1 (fold_max xs x).2
theorem hold_ints {h : Heap} : ∀ {ns : List Int} {us : List Value}, Vals (ns.map V.int) us → PySem.W.HoldAll h us ns
  | [], _, .nil => .nil
  | n :: ns, _, .cons r t => by
    obtain ⟨k, rfl⟩ := r
    exact .cons ⟨_, .int n k⟩ (hold_ints t)
theorem call_maxN (hc : X.calm = true) (hu : X.A.units + 65 < cLine) : CallRK X (.builtin "max") ["default"] (rMaxN X.K) := by
  intro pins s σ H xs zs us ws Q I r rz h
  obtain ⟨a, ns, rfl, rfl, hs, q⟩ := h
  obtain ⟨its, rv, hl, _⟩ := I.list hs
  rw [Vals.ref1 r]
  obtain ⟨u, rfl, ru⟩ := vals1 rz
  cases ru
  refine PySem.W.max_list_datum_default (α := Int) (xs := ns) (I.ok.hd hc) hl.isList (by simpa using hold_ints rv) (by show X.A.units + 1 + 0 < cLine; omega) (fun e h' tk hk => ?_) fun y ys i v h' tk e hi hv hk => ?_
  · subst e
    exact ⟨.non, H, I.kept hk, rfl, q⟩
  · subst e
    obtain ⟨as, hv⟩ := hv
    rw [maxOf_eq] at hv
    cases hv with
    | int _ t => exact ⟨.int _, H, I.kept hk, ⟨t, rfl⟩, q⟩
theorem maxN_ok {σ : L2.St} {R : Addr → Prop} {W : WX} {F : Ads} {M : Mem} {H : Hp} {ds : List D} {vs : List V} {Q : VK} (s : Sim S R F M H) (r : Rels S R F M H ds vs) (h : Post S R W σ F M H (KE S R Q) (gMaxD ds M)) : rMaxN S.K vs [.non] H Q := by
  unfold gMaxD at h
  split at h
  · rename_i d
    obtain ⟨v, rfl, rv⟩ := rels1 r
    cases e1 : rdLst M d with
    | none => rw [e1] at h; exact h.elim
    | some xs =>
      rw [e1] at h
      cases e2 : asInts xs with
      | none => simp only [Option.bind_some, e2] at h; exact h.elim
      | some ns =>
        simp only [Option.bind_some, e2] at h
        obtain ⟨a, vs, rfl, hq, rs⟩ := rdLst_at s rv e1
        rw [asInts_eq e2] at rs
        refine ⟨a, ns, rfl, rfl, rs.ints ▸ hq, ?_⟩
        cases ns with
        | nil => exact ok_of s .non h
        | cons n r => exact ok_of s (.int _) h
  · exact h.elim
end
section
variable {X : Cx} {S : Sur} {W : WX} {a : Expr} {fa : FE (List D)} {pos p p1 p2 : Pos}
theorem ge_bfun {id : String} {r : List V → Hp → VK → Prop} {g : List D → Mem → Res D} {x : Str} {es : List Expr} (hc : CallR X (.builtin id) r) (hg : Gl X x) (hm : X.mg x = some (.builtin id)) (ho : ClOk S r g) (hd : (x == ("__debug__" : Str)) = false) (ha : GA S X W (a :: es) fa) (he : starEach (a :: es) X.env = (false, eval a X.env) :: starEach es X.env) (hpl : (backTo pos (starEach es X.env)).any (·.1) = false) :
    GE S X W (.Call (.Name x p) (a :: es) [] pos) (fCl g fa) := fun R =>
  PE_imp (pe_callBfun hc hg hm (ha R) hd he hpl) fun σ H Q h => rd_args h fun F M H ds vs s r h => ho R W σ F M H ds vs Q s r h
theorem ge_maxD {q : Nat} (hK : S.K = X.K) (hc : X.calm = true) (hu : X.A.units + 65 < cLine) (hg : Gl X "max") (hm : X.mg "max" = none) (ha : GA S X W [a] fa) (he : backTo pos (starEach [a] X.env) = (false, eval a X.env) :: backTo pos (starEach [] X.env)) (hpl : (backTo pos (starEach [a] X.env)).any (·.1) = false) :
    GE S X W (.Call (.Name "max" p) [a] [⟨some "default", .Constant .none q p1, p2⟩] pos) (fCl gMaxD fa) := fun R =>
  PE_imp (pe_callBK (call_maxN hc hu) hg hm (by kernel_rfl) (ha R) (pk_cons pe_non pk_nil) (by decide) (by decide) he hpl) fun σ H Q h => rd_args h fun F M H ds vs s r h => by
    show tC V.non σ H fun x H1 => tNil σ H1 fun xs H2 => rMaxN X.K vs (x :: xs) H2 Q
    exact hK ▸ maxN_ok s r h
end
end En

set_option Elab.async false
set_option linter.all false
set_option maxRecDepth 100000
/-! E24: instances of own classes: made, their attributes read and set. -/
namespace En
open PySem PySem.Spec L2

/-- the classes cs make instances whose attributes fs stand in the instance alone -/
def InsOk (S : Sur) (K : PySem.W.Frag) (cs fs : List Str) : Prop := ∀ c C, cs.contains c = true → S.cls c = some C → Cls K C ∧ ∀ f, fs.contains f = true → NoAttr K C f
def insAt (M : Mem) (d : D) : Option (Nat × Str × List (Str × D)) := match d with
  | .loc n => match M[n]? with
    | some (some (.ins c fs)) => some (n, c, fs)
    | _ => none
  | _ => none
theorem insAt_eq {M : Mem} {d : D} {n : Nat} {c : Str} {fs : List (Str × D)} (h : insAt M d = some (n, c, fs)) : d = .loc n ∧ M[n]? = some (some (.ins c fs)) := by
  unfold insAt at h
  cases d with
  | loc m =>
    have h' : (match M[m]? with | some (some (.ins c fs)) => some (m, c, fs) | _ => none) = some (n, c, fs) := h
    cases e : M[m]? with
    | none => rw [e] at h'; cases h'
    | some o => cases o with
      | none => rw [e] at h'; cases h'
      | some k => cases k with
        | lst xs => rw [e] at h'; cases h'
        | dic xs => rw [e] at h'; cases h'
        | ins c2 fs2 => rw [e] at h'; cases h'; exact ⟨rfl, e⟩
  | _ => cases h
def putD (f : Str) (v : D) : List (Str × D) → List (Str × D)
  | [] => [(f, v)]
  | (g, x) :: r => if g = f then (g, v) :: r else (g, x) :: putD f v r
def gFld (cs fs : List Str) (f : Str) (d : D) (M : Mem) : Res D := match insAt M d with
  | some (_, c, as) => if cs.contains c && fs.contains f then (match as.lookup f with | some v => .ok v M | none => .bad) else .bad
  | none => .bad
def sFldSet (cs fs : List Str) (f : Str) (fv fo : FE D) : FS := fun env M => toS (fv env M) env fun v M1 => toS (fo env M1) env fun o M2 => match insAt M2 o with
  | some (n, c, as) => if cs.contains c && fs.contains f && decide (as.length < 1000) then .nx env (M2.set n (some (.ins c (putD f v as)))) else .bad
  | none => .bad
/-- C(..): a new instance, its __init__ g -/
def gMake (c : Str) (n : Nat) (g : List D → Mem → Res D) (ds : List D) (M : Mem) : Res D :=
  (gCall n g (.loc M.length :: ds) (M ++ [some (.ins c [])])).bind fun d M1 => match d with | .non => .ok (.loc M.length) M1 | _ => .bad

section
variable {S : Sur} {R : Addr → Prop} {W : WX} {σ : L2.St} {F : Ads} {M : Mem} {H : Hp}
theorem look_rel : ∀ {fs : List (Str × D)} {gs : List (Str × V)} {f : Str} {d : D}, gs.map (·.1) = fs.map (·.1) → Rels S R F M H (fs.map (·.2)) (gs.map (·.2)) → fs.lookup f = some d → ∃ v, gs.lookup f = some v ∧ RelD S R F M H d v
  | [], [], f, d, _, _, h => by cases h
  | [], _ :: _, _, _, e, _, _ => by cases e
  | _ :: _, [], _, _, e, _, _ => by cases e
  | (a, x) :: fs, (b, y) :: gs, f, d, e, r, h => by
    injection e with e1 e2
    have e1 : b = a := e1
    subst e1
    rw [List.lookup_cons] at h ⊢
    cases q : f == b with
    | true =>
      rw [q] at h
      cases h
      exact ⟨y, rfl, r.2 0 x y rfl rfl⟩
    | false =>
      rw [q] at h
      exact look_rel (fs := fs) (gs := gs) e2 ⟨by have := r.1; simpa using this, fun i d v p1 p2 => r.2 (i + 1) d v p1 p2⟩ h
theorem put_rel : ∀ {fs : List (Str × D)} {gs : List (Str × V)} {f : Str} {d : D} {v : V}, gs.map (·.1) = fs.map (·.1) → Rels S R F M H (fs.map (·.2)) (gs.map (·.2)) → RelD S R F M H d v → (putF f v gs).map (·.1) = (putD f d fs).map (·.1) ∧ Rels S R F M H ((putD f d fs).map (·.2)) ((putF f v gs).map (·.2))
  | [], [], f, d, v, _, _, h => ⟨rfl, rfl, fun i d' v' p1 p2 => by
      cases i with
      | zero => cases p1; cases p2; exact h
      | succ i => cases p1⟩
  | [], _ :: _, _, _, _, e, _, _ => by cases e
  | _ :: _, [], _, _, _, e, _, _ => by cases e
  | (a, x) :: fs, (b, y) :: gs, f, d, v, e, r, h => by
    injection e with e1 e2
    have e1 : b = a := e1
    subst e1
    have r2 : Rels S R F M H (fs.map (·.2)) (gs.map (·.2)) := ⟨by have := r.1; simpa using this, fun i d v p1 p2 => r.2 (i + 1) d v p1 p2⟩
    unfold putF putD
    by_cases q : b = f
    · rw [if_pos q, if_pos q]
      refine ⟨by simp only [List.map_cons, e2], by simpa using r2.1, fun i d' v' p1 p2 => ?_⟩
      cases i with
      | zero => cases p1; cases p2; exact h
      | succ i => exact r2.2 i d' v' p1 p2
    · rw [if_neg q, if_neg q]
      obtain ⟨k1, k2⟩ := put_rel (f := f) e2 r2 h
      refine ⟨by simp only [List.map_cons, k1], by simpa using k2.1, fun i d' v' p1 p2 => ?_⟩
      cases i with
      | zero => cases p1; cases p2; exact r.2 0 x y rfl rfl
      | succ i => exact k2.2 i d' v' p1 p2
theorem ins_at {n : Nat} {v : V} {c : Str} {fs : List (Str × D)} (s : Sim S R F M H) (r : RelD S R F M H (.loc n) v) (e : M[n]? = some (some (.ins c fs))) : ∃ a C dx gs, v = .ref a ∧ F[n]? = some a ∧ S.cls c = some C ∧ H a = some (.ins C dx gs) ∧ H dx = some (.own a) ∧ gs.map (·.1) = fs.map (·.1) ∧ Rels S R F M H (fs.map (·.2)) (gs.map (·.2)) := by
  cases r with
  | loc n a f =>
    obtain ⟨b, f', _, C, dx, gs, h⟩ := s.cell n _ e
    rw [f] at f'; cases f'
    exact ⟨a, C, dx, gs, rfl, f, h⟩
end
section
variable {S : Sur} {X : Cx} {W : WX} {e o : Expr} {cs fs : List Str} {f : Str} {pos pos' p : Pos} {fe fo : FE D}
theorem ge_fld (he : GE S X W e fe) (I : InsOk S X.K cs fs) (hb : attributeBase e f X.env (eval e X.env) = eval e X.env) : GE S X W (.Attribute e f pos) (fUn (gFld cs fs f) fe) := fun R =>
  PE_imp (pe_fld (he R) hb) fun σ H Q ⟨F, M, env, s, re, h⟩ => ⟨F, M, env, s, re, (Post.bind h).mono fun F1 M1 H1 d l s1 k v r => by
    have k' : Post S R W σ F1 M1 H1 (KE S R Q) (match insAt M1 d with
      | some (_, c, as) => if cs.contains c && fs.contains f then (match as.lookup f with | some v => .ok v M1 | none => .bad) else .bad
      | none => .bad) := k
    cases q : insAt M1 d with
    | none => rw [q] at k'; exact k'.elim
    | some t =>
      obtain ⟨n, c, as⟩ := t
      rw [q] at k'
      obtain ⟨rfl, hn⟩ := insAt_eq q
      have k2 : Post S R W σ F1 M1 H1 (KE S R Q) (if cs.contains c && fs.contains f then (match as.lookup f with | some v => .ok v M1 | none => .bad) else .bad) := k'
      cases hc : cs.contains c && fs.contains f with
      | false => rw [hc] at k2; exact k2.elim
      | true =>
        rw [hc] at k2
        obtain ⟨h1, h2⟩ := Bool.and_eq_true_iff.mp hc
        have k3 : Post S R W σ F1 M1 H1 (KE S R Q) (match as.lookup f with | some v => .ok v M1 | none => .bad) := k2
        obtain ⟨a, C, dx, gs, rfl, hF, hC, ha, _, e1, e2⟩ := ins_at s1 r hn
        cases lk : as.lookup f with
        | none => rw [lk] at k3; exact k3.elim
        | some w =>
          rw [lk] at k3
          obtain ⟨u, lu, ru⟩ := look_rel e1 e2 lk
          obtain ⟨c1, c2⟩ := I c C h1 hC
          exact ⟨a, C, dx, gs, u, rfl, ha, c1, c2 f h2, lu, Post.val k3 s1 ru⟩⟩
theorem gs_fld (ho : GE S X W o fo) (hv : GE S X W e fe) (I : InsOk S X.K cs fs) (hs : swapsWith e (some (.Attribute o f pos')) pos.line X.env = pure false) : GS S X W (.Assign [.Attribute o f pos'] e pos) (sFldSet cs fs f fe fo) := fun R => by
  refine PS_imp (ps_fld (ho R) (hv R) hs) fun T σ H ⟨F, M, env, s, r, h⟩ => ⟨F, M, env, s, r, (PostS.part h r).mono fun F1 M1 H1 dv l1 s1 h1 v rv => ⟨F1, M1, env, s1, r.mono l1, (PostS.part h1 (r.mono l1)).mono fun F2 M2 H2 d l2 s2 h2 u ru => ?_⟩⟩
  have k' : PostS S R W F2 M2 H2 T (match insAt M2 d with
    | some (n, c, as) => if cs.contains c && fs.contains f && decide (as.length < 1000) then .nx env (M2.set n (some (.ins c (putD f dv as)))) else .bad
    | none => .bad) := h2
  cases q : insAt M2 d with
  | none => rw [q] at k'; exact k'.elim
  | some t =>
    obtain ⟨n, c, as⟩ := t
    rw [q] at k'
    obtain ⟨rfl, hn⟩ := insAt_eq q
    have k2 : PostS S R W F2 M2 H2 T (if cs.contains c && fs.contains f && decide (as.length < 1000) then .nx env (M2.set n (some (.ins c (putD f dv as)))) else .bad) := k'
    cases hc : cs.contains c && fs.contains f && decide (as.length < 1000) with
    | false => rw [hc] at k2; exact k2.elim
    | true =>
      rw [hc] at k2
      obtain ⟨h12, h3⟩ := Bool.and_eq_true_iff.mp hc
      obtain ⟨h1', h2'⟩ := Bool.and_eq_true_iff.mp h12
      obtain ⟨a, C, dx, gs, rfl, hF, hC, ha, hd, e1, e2⟩ := ins_at s2 ru hn
      obtain ⟨c1, c2⟩ := I c C h1' hC
      have len : gs.length < 1000 := by
        have : gs.length = as.length := by simpa using congrArg List.length e1
        rw [this]; exact of_decide_eq_true h3
      refine ⟨a, C, dx, gs, rfl, ha, c1, c2 f h2', len, ?_⟩
      have ne : dx ≠ a := fun z => by rw [z, ha] at hd; cases hd
      obtain ⟨s3, l3⟩ := s2.put (c' := .ins c (putD f dv as)) (o := .ins C dx (putF f v gs)) hn hF fun le => by
        obtain ⟨p1, p2⟩ := put_rel (f := f) e1 (e2.mono le) ((rv.mono l2).mono le)
        exact ⟨C, dx, putF f v gs, hC, upd_same, by rw [upd_ne ne]; exact hd, p1, p2⟩
      have k3 : PostS S R W F2 M2 H2 T (.nx env (M2.set n (some (.ins c (putD f dv as))))) := k2
      exact k3 F2 _ σ l3 s3 (((r.mono l1).mono l2).mono l3)
end
section
variable {S : Sur} {X : Cx} {W : WX} {a : Expr} {es : List Expr} {fs : FE (List D)} {pos p : Pos} {k n : Nat} {f C : Addr} {fd : FuncData} {ps : List Str} {x c : Str} {g : List D → Mem → Res D}
theorem make_guards {A : Around} (gd : A.guards = some []) (C : Addr) (us : List Value) (kw : List (Str × Value)) : (A.under (.builtin "type.__call__" ⟨.ref C :: us, kw⟩)).guards = some [] := by
  first | (rw [show (A.under (.builtin "type.__call__" ⟨.ref C :: us, kw⟩)).guards = A.guards from by cases A; rename_i g _; cases g <;> rfl]; exact gd) | (simp [Around.under, Code.guards, Code.isGuard, guardIds, pushGuards, gd])
theorem run_makeS {pins : List (Addr × Obj)} {σ : L2.St} {H : Hp} {s : Shared} {Q : VK} {us : List Value} {vs : List V} {sp : Sp} {E : XK} (M : Mk X.K C f) (F : FnG X.prog X.w X.K X.mg X.base (L2.CX X.prog X.w) k f fd ps sp) (gd : X.A.guards = some []) (hr : Room (k + 1) X.A) (hb : Binds X.K fd ps [])
    (hx : PassesAt (L2.CX X.prog X.w) X σ E) (I : Inv X pins σ H s) (r : Vals vs us)
    (h : ∀ x dx, H x = none → H dx = none → dx ≠ x → sp (.ref x :: vs) (upd (upd H dx (.own x)) x (.ins C dx [])) (fun v H2 => v = .non ∧ Q (.ref x) H2) E) :
    wpAny (model X.prog X.w) X.A (call (.ref C) us) (EP X pins σ Q) X.xe s := by
  have hq := h (s.heap.objs.size + 1) s.heap.objs.size (I.hok.fresh (Nat.le_succ _)) (I.hok.fresh (Nat.le_refl _)) (Nat.ne_of_lt (Nat.lt_succ_self _))
  have I2 := Inv.made (C := C) I
  have r2 : Vals (V.ref (s.heap.objs.size + 1) :: vs) (Value.ref (s.heap.objs.size + 1) :: us) := .cons rfl r
  have hl : (Value.ref (s.heap.objs.size + 1) :: us).length = ps.length := by
    have e := r2.length
    rw [F.len _ _ _ _ hq] at e
    exact e.symm
  have hb2 := hb _ (Value.ref (s.heap.objs.size + 1) :: us) I2.kIn (by rw [List.append_nil]; exact hl)
  rw [List.append_nil] at hb2
  refine wpAny_call (make_map (f := f) I.kIn M.makes M.init (beq_iff_eq.mp M.fn) (codeAny_mono (F.run (make_guards gd C us []) (hr.make C us [])
    (I2.env0.make C us []) hb2 r2 hq) fun r s' hq' => ?_))
  cases r with
  | error e => exact hx pins _ _ e s' I2 hq'
  | ok fl =>
    cases fl with
    | ret u =>
      obtain ⟨v, H', I3, rv, ev, q3⟩ := I2.after hq'
      subst ev
      exact ⟨rv, ⟨V.ref (s.heap.objs.size + 1), H', I3, rfl, q3⟩⟩
    | next => exact False.elim hq'
    | brk => exact False.elim hq'
    | cont => exact False.elim hq'
def tMakeS (C : Addr) (sp : Sp) (E : L2.St → XK) (t : TA) : TE := fun σ H Q => t σ H fun vs H1 => ∀ x dx, H1 x = none → H1 dx = none → dx ≠ x → sp (.ref x :: vs) (upd (upd H1 dx (.own x)) x (.ins C dx [])) (fun v H2 => v = .non ∧ Q (.ref x) H2) (E σ)
theorem pe_makeS {sp : Sp} {E : L2.St → XK} {t : TA} (M : Mk X.K C f) (F : FnG X.prog X.w X.K X.mg X.base (L2.CX X.prog X.w) k f fd ps sp) (gd : X.A.guards = some []) (hr : Room (k + 1) X.A) (hg : Gl X x) (hm : X.mg x = some (.ref C)) (hb : Binds X.K fd ps []) (hx : ∀ σ, PassesAt (L2.CX X.prog X.w) X σ (E σ))
    (ha : PA X (a :: es) t) (hdb : (x == ("__debug__" : Str)) = false) (he : starEach (a :: es) X.env = (false, eval a X.env) :: starEach es X.env) (hpl : (backTo pos (starEach es X.env)).any (·.1) = false) :
    PE X (.Call (.Name x p) (a :: es) [] pos) (tMakeS C sp E t) := by
  refine ⟨fun pins s σ H Q I h => ?_⟩
  refine wpAny_Call_Name_kw (ld_glob I hg hm ?_ hdb)
  refine PySem.W.callWith_K (h₀ := X.base) I.ok.mod.kin M.kp (thn (ha.run pos pins s σ H _ I h) fun us s1 ⟨vs, H1, I1, r, q⟩ => ⟨I1.kIn, ?_⟩) he hpl
  exact run_makeS M F gd hr hb (hx σ) I1 r q
theorem ge_make (hS : S.cls c = some C) (Mc : Mk X.K C f) (F : FnG X.prog X.w X.K X.mg X.base (L2.CX X.prog X.w) k f fd ps (spOf S n g)) (tk : Takes X W) (gd : X.A.guards = some []) (hr : Room (k + 1) X.A) (hg : Gl X x) (hm : X.mg x = some (.ref C)) (hb : Binds X.K fd ps []) (hd : (x == ("__debug__" : Str)) = false)
    (ha : GA S X W (a :: es) fs) (he : starEach (a :: es) X.env = (false, eval a X.env) :: starEach es X.env) (hpl : (backTo pos (starEach es X.env)).any (·.1) = false) : GE S X W (.Call (.Name x p) (a :: es) [] pos) (fCl (gMake c n g) fs) := fun R =>
  PE_imp (pe_makeS Mc F gd hr hg hm hb (fun σ => passAt tk σ) (ha R) hd he hpl) fun σ H Q h => rd_args h fun F M H ds vs s r h => fun xa dx hx hdx ne => by
    have l1 : Le F M H F M (upd H dx (.own xa)) := Le.new hdx
    have s1 : Sim S R F M (upd H dx (.own xa)) := s.new hdx
    have hx1 : (upd H dx (HO.own xa)) xa = none := by rw [upd_ne ne.symm]; exact hx
    have l2 : Le F M (upd H dx (.own xa)) (F ++ [xa]) (M ++ [some (.ins c [])]) (upd (upd H dx (.own xa)) xa (.ins C dx [])) := Le.cell s1 hx1
    have s2 : Sim S R (F ++ [xa]) (M ++ [some (.ins c [])]) (upd (upd H dx (.own xa)) xa (.ins C dx [])) := s1.cellNew hx1 ⟨C, dx, [], hS, upd_same, by rw [upd_ne ne, upd_same], rfl, .nil⟩
    have rl : RelD S R (F ++ [xa]) (M ++ [some (.ins c [])]) (upd (upd H dx (.own xa)) xa (.ins C dx [])) (.loc M.length) (.ref xa) := .loc _ _ (by rw [← s.len, List.getElem?_append_right (Nat.le_refl _)]; simp)
    have r2 : Rels S R (F ++ [xa]) (M ++ [some (.ins c [])]) (upd (upd H dx (.own xa)) xa (.ins C dx [])) (.loc M.length :: ds) (.ref xa :: vs) := .cons rl ((r.mono l1).mono l2)
    have h2 := Post.bind (Post.from (show Post S R W σ F M H (KE S R Q) ((gCall n g (.loc M.length :: ds) (M ++ [some (.ins c [])])).bind fun d M1 => match d with | .non => .ok (.loc M.length) M1 | _ => .bad) from h) (l1.trans l2))
    refine call_sp s2 r2 (h2.mono fun F3 M3 H3 d l3 s3 k v rv => ?_)
    cases rv with
    | non => exact ⟨rfl, (show Post S R W σ F3 M3 H3 (KE S R Q) (.ok (.loc M.length) M3) from k).val s3 (rl.mono l3)⟩
    | _ => exact k.elim
end
/-! ### isinstance -/
def baseTys : List String := ["NoneType", "bool", "int", "str", "list", "tuple", "dict"]
/-- what the classes cs must be for isinstance -/
structure IsiOk (S : Sur) (K : PySem.W.Frag) (cs : List Str) : Prop where
  cl : ∀ c C, cs.contains c = true → S.cls c = some C → Cls K C ∧ PySem.W.findIn K (.ref C) "__class__" = some (some (.builtin "object.__class__")) ∧ PySem.W.specialIn K (.builtin "object.__class__") "__get__" = some (some (.builtin "getset_descriptor.__get__")) ∧ PySem.W.takesIn K (.builtin "object.__class__") = some true ∧ PySem.W.mroIn K C (.type "object") = some true
  ty : ∀ c C, cs.contains c = true → S.cls c = some C → ∀ n ∈ tyNames, PySem.W.kitOne K (.ref C) (.type n) = some false
  own : ∀ c C c' C', cs.contains c = true → S.cls c = some C → cs.contains c' = true → S.cls c' = some C' → PySem.W.kitOne K (.ref C) (.ref C') = some (c == c')
  bas : ∀ c C, cs.contains c = true → S.cls c = some C → ∀ n ∈ baseTys, PySem.W.kitOne K (.type n) (.ref C) = some false
def gIsiC (cs : List Str) (d : D) (c' : Str) (M : Mem) : Res D := if cs.contains c' = true then (match insAt M d with
    | some (_, c, _) => if cs.contains c = true then .ok (.bl (c == c')) M else .bad
    | none => match tyName M d with
      | some t => if baseTys.contains t = true then .ok (.bl false) M else .bad
      | none => .bad) else .bad
def gIsiT (cs : List Str) (c : Str) (t : D) (M : Mem) : Res D := if cs.contains c = true then (match t with
    | .ty n => if tyNames.contains n = true then .ok (.bl false) M else .bad
    | .tup ts => if allTy ts = true then .ok (.bl false) M else .bad
    | _ => .bad) else .bad
def gIsiO (cs : List Str) (ds : List D) (M : Mem) : Res D := match ds with
  | [d, .cls c'] => gIsiC cs d c' M
  | [d, t] => (match insAt M d with
    | some (_, c, _) => gIsiT cs c t M
    | none => gIsiE [d, t] M)
  | ds => gIsiE ds M
theorem kitNo_all {K : PySem.W.Frag} {t : Value} : ∀ {us : List Value}, (∀ u ∈ us, PySem.W.kitOne K t u = some false) → PySem.W.kitAny K t us = some false
  | [], _ => rfl
  | u :: us, h => by
    show (match PySem.W.kitOne K t u with | some true => some true | some false => PySem.W.kitAny K t us | none => none) = _
    rw [h u List.mem_cons_self]
    exact kitNo_all fun v m => h v (List.mem_cons_of_mem _ m)
section
variable {S : Sur} {R : Addr → Prop} {W : WX} {σ : L2.St} {F : Ads} {M : Mem} {H : Hp} {cs : List Str}
theorem IsiOk.tyx {c : Str} {n : Nat} {fs : List (Str × D)} {v : V} (I : IsiOk S S.K cs) (hc : cs.contains c = true) (s : Sim S R F M H) (r : RelD S R F M H (.loc n) v) (e : M[n]? = some (some (.ins c fs))) : ∃ C, S.cls c = some C ∧ TyX S.K H v (.ref C) := by
  obtain ⟨a, C, dx, gs, rfl, _, hC, ha, _⟩ := ins_at s r e
  obtain ⟨k1, k2, k3, k4, k5⟩ := I.cl c C hc hC
  exact ⟨C, hC, .base (.ins ha k1 k2 k3 k4 k5)⟩
theorem isiC_ok {d : D} {v u : V} {c' : Str} {Q : VK} (I : IsiOk S S.K cs) (s : Sim S R F M H) (rv : RelD S R F M H d v) (ru : RelD S R F M H (.cls c') u) (h : Post S R W σ F M H (KE S R Q) (gIsiC cs d c' M)) : rIsiE S.K [v, u] H Q := by
  unfold gIsiC at h
  cases ru with
  | cls c' C' hC' =>
    cases hc' : cs.contains c' with
    | false => rw [hc'] at h; exact h.elim
    | true =>
      rw [hc', if_pos rfl] at h
      cases q : insAt M d with
      | some t =>
        obtain ⟨n, c, as⟩ := t
        rw [q] at h
        obtain ⟨rfl, hn⟩ := insAt_eq q
        have h2 : Post S R W σ F M H (KE S R Q) (if cs.contains c = true then .ok (.bl (c == c')) M else .bad) := h
        cases hc : cs.contains c with
        | false => rw [hc] at h2; exact h2.elim
        | true =>
          rw [hc, if_pos rfl] at h2
          obtain ⟨C, hC, ty⟩ := I.tyx hc s rv hn
          exact .inl (.inl ⟨v, _, _, _, c == c', rfl, .own C', ty, I.own c C c' C' hc hC hc' hC', h2.val s (.bl _)⟩)
      | none =>
        rw [q] at h
        have h2 : Post S R W σ F M H (KE S R Q) (match tyName M d with | some t => if baseTys.contains t = true then .ok (.bl false) M else .bad | none => .bad) := h
        cases e : tyName M d with
        | none => rw [e] at h2; exact h2.elim
        | some t =>
          rw [e] at h2
          have h3 : Post S R W σ F M H (KE S R Q) (if baseTys.contains t = true then .ok (.bl false) M else .bad) := h2
          cases hb : baseTys.contains t with
          | false => rw [hb] at h3; exact h3.elim
          | true =>
            rw [hb, if_pos rfl] at h3
            exact .inl (.inl ⟨v, _, _, _, false, rfl, .own C', ty_at s rv e, I.bas c' C' hc' hC' t (by simpa using hb), h3.val s (.bl _)⟩)
theorem isiT_ok {n : Nat} {c : Str} {as : List (Str × D)} {t : D} {v u : V} {Q : VK} (I : IsiOk S S.K cs) (s : Sim S R F M H) (rv : RelD S R F M H (.loc n) v) (hn : M[n]? = some (some (.ins c as))) (ru : RelD S R F M H t u) (h : Post S R W σ F M H (KE S R Q) (gIsiT cs c t M)) : rIsiE S.K [v, u] H Q := by
  unfold gIsiT at h
  cases hc : cs.contains c with
  | false => rw [hc] at h; exact h.elim
  | true =>
    rw [hc, if_pos rfl] at h
    obtain ⟨C, hC, ty⟩ := I.tyx hc s rv hn
    cases t with
    | ty m =>
      have h2 : Post S R W σ F M H (KE S R Q) (if tyNames.contains m = true then .ok (.bl false) M else .bad) := h
      cases ru
      cases hm : tyNames.contains m with
      | false => rw [hm] at h2; exact h2.elim
      | true =>
        rw [hm, if_pos rfl] at h2
        exact .inl (.inl ⟨v, _, _, _, false, rfl, .ty m, ty, I.ty c C hc hC m (by simpa using hm), h2.val s (.bl _)⟩)
    | tup ts =>
      have h2 : Post S R W σ F M H (KE S R Q) (if allTy ts = true then .ok (.bl false) M else .bad) := h
      obtain ⟨b, us, rfl, hb, rs⟩ := tup_at ru
      cases hm : allTy ts with
      | false => rw [hm] at h2; exact h2.elim
      | true =>
        rw [hm, if_pos rfl] at h2
        obtain ⟨ns, e3, k3⟩ := allTy_ok hm rs
        subst e3
        have pr : ∀ l : List String, Paired ClsV (l.map V.ty) (l.map Value.type) := fun l => by
          induction l with
          | nil => exact .nil
          | cons x l ih => exact .cons (.ty x) ih
        exact .inl (.inr ⟨v, b, _, _, ns.map Value.type, false, rfl, hb, pr ns, ty, kitNo_all fun w m => by
          obtain ⟨x, mx, rfl⟩ := List.mem_map.mp m
          exact I.ty c C hc hC x (k3 x mx), h2.val s (.bl _)⟩)
    | _ => exact h.elim
theorem isiOOk (I : IsiOk S S.K cs) : ClOk S (rIsiE S.K) (gIsiO cs) := by
  intro R W σ F M H ds vs Q s r h
  unfold gIsiO at h
  split at h
  · obtain ⟨v, u, rfl, rv, ru⟩ := rels2 r
    exact isiC_ok I s rv ru h
  · rename_i d t _
    obtain ⟨v, u, rfl, rv, ru⟩ := rels2 r
    cases q : insAt M d with
    | some z =>
      obtain ⟨n, c, as⟩ := z
      rw [q] at h
      obtain ⟨rfl, hn⟩ := insAt_eq q
      exact isiT_ok I s rv hn ru h
    | none =>
      rw [q] at h
      exact isiEOk R W σ F M H _ _ Q s r h
  · exact isiEOk R W σ F M H _ vs Q s r h
end
end En

set_option Elab.async false
set_option linter.all false
set_option maxRecDepth 100000
/-! E25: == of two instances of one class, by its own __eq__. -/
namespace En
open PySem PySem.Spec L2
def noX (r : Res D) : Res D := match r with | .ok (.bl b) M => .ok (.bl b) M | _ => .bad
theorem noX_post {S : Sur} {R : Addr → Prop} {W W' : WX} {σ σ' : L2.St} {F : Ads} {M : Mem} {H : Hp} {Q : VK} {r : Res D} (h : Post S R W σ F M H (KE S R Q) (noX r)) : Post S R W' σ' F M H (KE S R fun v H2 => ∃ k, v = .bl k ∧ Q (.bl k) H2) r := by
  cases r with
  | ok d M' =>
    cases d with
    | bl b => exact fun F' H' l s v rv => by cases rv; exact ⟨b, rfl, h F' H' l s _ (.bl b)⟩
    | _ => exact h.elim
  | exc c fs M' => exact h.elim
  | bad => exact h
section
variable {X : Cx} {S : Sur} {C f : Addr} {fd : FuncData} {ps : List Str} {sp : Sp} {n : Nat}
def rEqI (C : Addr) (sp : Sp) : R2 := fun x y H Q => ∃ a b dx dy fs gs, x = .ref a ∧ y = .ref b ∧ H a = some (.ins C dx fs) ∧ H b = some (.ins C dy gs) ∧ sp [.ref a, .ref b] H (fun v H2 => ∃ k, v = .bl k ∧ Q (.bl k) H2) (fun _ _ _ => False)
theorem op_eqIns (F : FnG X.prog X.w X.K X.mg X.base (L2.CX X.prog X.w) n f fd ps sp) (gd : X.A.guards = some [])
    (hs : PySem.W.findIn X.K (.ref C) "__eq__" = some (some (.ref f))) (hf : PySem.W.isFn X.K (.ref f) = true) (hb : Binds X.K fd ps []) (room : Room n X.A) (hx : ∀ σ, PassesAt (L2.CX X.prog X.w) X σ (fun _ _ _ => False)) : OpR X (compareOp .Eq) (rEqI C sp) := by
  intro pins s σ H x y v u Q I rx ry hq
  obtain ⟨a, b, dx, dy, fs, gs, rfl, rfl, ha, hb', hsp⟩ := hq
  cases rx
  cases ry
  obtain ⟨mA, J, _⟩ := ins_get I.hok ha
  obtain ⟨mB, J', _⟩ := ins_get I.hok hb'
  obtain ⟨od, J, _⟩ := J.look
  obtain ⟨od', J', _⟩ := J'.look
  obtain ⟨m, hF⟩ := I.fr
  show wpAny (model X.prog X.w) X.A (richCompare .Eq (.ref a) (.ref b)) (EP X pins σ Q) X.xe s
  refine PySem.W.cmp_K (op := .Eq) (tb := .ref C) room.units0 hF I.ok.mod.kin J J'.type (by simp [PySem.W.notFirst]) hs hf ?_
  have hl := F.len _ _ _ _ hsp
  have r2 : Vals [V.ref a, V.ref b] [Value.ref a, Value.ref b] := .cons rfl (.cons rfl .nil)
  refine wpAny_call (codeAny_mono (F.run (args := ⟨[.ref a, .ref b], []⟩) (us := [.ref a, .ref b]) (vs := [V.ref a, V.ref b]) gd room I.env0 (by
    have := hb s [.ref a, .ref b] I.kIn (by simpa using hl)
    simpa using this) r2 hsp) fun r s' hq => ?_)
  cases r with
  | error e => exact hx σ pins H s e s' I hq
  | ok fl =>
    cases fl with
    | ret w =>
      obtain ⟨z, H', I', rz, ⟨k, ez, q⟩⟩ := I.after hq
      subst ez
      cases rz
      exact ⟨.bl k, H', I', rfl, q⟩
    | next => exact False.elim hq
    | brk => exact False.elim hq
    | cont => exact False.elim hq
/-- == of two instances of the class c, by the function g of its __eq__ -/
def gEqI (c : Str) (g : List D → Mem → Res D) (d e : D) (M : Mem) : Res D := match insAt M d, insAt M e with
  | some (_, c1, _), some (_, c2, _) => if c1 = c ∧ c2 = c then noX (gCall 2 g [d, e] M) else .bad
  | _, _ => .bad
theorem eqI_ok {c : Str} {g : List D → Mem → Res D} (hC : S.cls c = some C) : OpOk S (rEqI C (spOf S 2 g)) (gEqI c g) := by
  intro R W σ F M H d e v u Q s rd re h
  unfold gEqI at h
  cases q : insAt M d with
  | none => rw [q] at h; exact h.elim
  | some t =>
    obtain ⟨n, c1, as⟩ := t
    cases q2 : insAt M e with
    | none => rw [q, q2] at h; exact h.elim
    | some t2 =>
      obtain ⟨m, c2, bs⟩ := t2
      rw [q, q2] at h
      have h2 : Post S R W σ F M H (KE S R Q) (if c1 = c ∧ c2 = c then noX (gCall 2 g [d, e] M) else .bad) := h
      by_cases hc : c1 = c ∧ c2 = c
      · rw [if_pos hc] at h2
        obtain ⟨rfl, rfl⟩ := hc
        obtain ⟨rfl, hn⟩ := insAt_eq q
        obtain ⟨rfl, hm⟩ := insAt_eq q2
        obtain ⟨a, C1, dx, gs, rfl, _, hC1, ha, _⟩ := ins_at s rd hn
        obtain ⟨b, C2, dy, gs2, rfl, _, hC2, hb, _⟩ := ins_at s re hm
        rw [hC] at hC1 hC2
        cases hC1
        cases hC2
        have h3 : Post S R (fun _ _ _ _ => False) σ F M H (KE S R fun v H2 => ∃ k, v = .bl k ∧ Q (.bl k) H2) (gCall 2 g [.loc n, .loc m] M) := noX_post h2
        exact ⟨a, b, dx, dy, gs, gs2, rfl, rfl, ha, hb, call_sp (W := fun _ _ _ _ => False) s (.cons rd (.cons re .nil)) h3⟩
      · rw [if_neg hc] at h2; exact h2.elim
end
end En

set_option Elab.async false
set_option linter.all false
set_option maxRecDepth 100000
/-! E8e: dicts with written texts as keys, in cells. -/
namespace En
open PySem PySem.Spec L2
def gDsp (ks : List Str) (ds : List D) (M : Mem) : Res D := if ks.length = ds.length ∧ ks.length ≤ 15 ∧ ks.Nodup then .ok (.loc M.length) (M ++ [some (.dic (ks.zip ds))]) else .bad
def fDsp (ks : List Str) (f : FE (List D)) : FE D := fun env M => match f env M with | .ok ds M1 => gDsp ks ds M1 | _ => .bad
section
variable {S : Sur} {X : Cx} {W : WX} {pos : Pos}
def rdP (S : Sur) (R : Addr → Prop) (W : WX) (ks : List Str) (f : FE (List D)) (σ : L2.St) (H : Hp) (Q : List (V × V) → Hp → Prop) : Prop := ∃ F M env, Sim S R F M H ∧ RelE S R F M H env σ ∧ Post S R W σ F M H (fun F' M' H' ds => ∀ vs, Rels S R F' M' H' ds vs → Q ((ks.map V.str).zip vs) H') (f env M)
def GP (S : Sur) (X : Cx) (W : WX) (pos : Pos) (keys : List (Option Expr)) (values : List Expr) (ks : List Str) (f : FE (List D)) : Prop := ∃ trs, PPs X pos keys values trs ∧ ∀ R σ H Q, rdP S R W ks f σ H Q → tPairs trs σ H Q
theorem gp_nil : GP S X W pos [] [] [] fNil := ⟨[], pps_nil, fun R σ H Q ⟨F, M, env, s, e, h⟩ => h F H .refl s [] .nil⟩
theorem gp_cons {k e : Expr} {x : Str} {ks : List Str} {keys : List (Option Expr)} {es : List Expr} {fe : FE D} {fr : FE (List D)} (hk : PE X k (tC (.str x))) (he : GE S X W e fe) (hr : GP S X W pos keys es ks fr) : GP S X W pos (some k :: keys) (e :: es) (x :: ks) (fCons fe fr) := by
  obtain ⟨trs, hp, hq⟩ := hr
  refine ⟨(tC (.str x), fun σ H Q => ∃ R, rdE S R W fe σ H Q) :: trs, pps_cons hk ⟨fun pins s σ H Q I ⟨R, q⟩ => (he R).run pins s σ H Q I q⟩ hp, fun R σ H Q ⟨F, M, env, s, r, h⟩ => ?_⟩
  show ∃ R, rdE S R W fe σ H fun y H2 => tPairs trs σ H2 fun ps H3 => Q ((.str x, y) :: ps) H3
  refine ⟨R, F, M, env, s, r, (Post.bind h).mono fun F1 M1 H1 d l1 s1 h1 v rv => hq R _ _ _ ⟨F1, M1, env, s1, r.mono l1, (Post.bind h1).mono fun F2 M2 H2 ds l2 s2 h2 vs rs => ?_⟩⟩
  exact h2 F2 H2 .refl s2 (v :: vs) (.cons (rv.mono l2) rs)
theorem valV_none {kvs : List (Key × V)} {k : Key} (h : ¬ k ∈ kvs.map (·.1)) : valV kvs k = none := by
  induction kvs with
  | nil => rfl
  | cons p r ih =>
    have h1 : ¬ p.1 = k := fun e => h (by rw [List.map_cons, e]; exact List.mem_cons_self)
    rw [valV_neg h1]
    exact ih fun m => h (List.mem_cons_of_mem _ m)
theorem mergeK_new : ∀ (more acc : List (Key × V)), ((acc ++ more).map (·.1)).Nodup → mergeK acc more = acc ++ more
  | [], acc, _ => by rw [List.append_nil]; rfl
  | p :: r, acc, h => by
    show mergeK (putK acc p.1 p.2) r = _
    have hn : valV acc p.1 = none := by
      refine valV_none fun m => ?_
      rw [List.map_append, List.nodup_append] at h
      exact h.2.2 _ m _ List.mem_cons_self rfl
    rw [putK_new p.2 hn]
    have e : acc ++ [(p.1, p.2)] ++ r = acc ++ p :: r := by simp
    rw [mergeK_new r (acc ++ [(p.1, p.2)]) (by rw [e]; exact h), e]
theorem ge_dsp {keys : List (Option Expr)} {es : List Expr} {ks : List Str} {f : FE (List D)} (h : GP S X W pos keys es ks f) (hall : keys.all (·.isSome) = true) (hl : keys.length = es.length) (h0 : keys ≠ []) (h15 : keys.length ≤ 15) : GE S X W (.Dict keys es pos) (fDsp ks f) := fun R => by
  obtain ⟨trs, hP, hq⟩ := h
  refine PE_imp (pe_disp hP hall hl h0 h15) fun σ H Q ⟨F, M, env, s, r, h⟩ p hp => ?_
  refine hq (fun a => R a ∨ a = p) _ _ _ ⟨F, M, env, s.reserve hp, ⟨r.1, fun j d e => ?_⟩, ?_⟩
  · obtain ⟨v, e1, rv⟩ := r.2 j d e
    have q := Rels.later (Rels.cons rv .nil) (fun a (z : R a ∨ a = p) => z.imp id fun e => by rw [e]; exact hp) (Le.new (o := .dK []) hp)
    exact ⟨v, e1, q.2 0 d v rfl rfl⟩
  · unfold fDsp at h
    cases q : f env M with
    | bad => rw [q] at h; exact h.elim
    | exc => rw [q] at h; exact h.elim
    | ok ds M1 =>
      rw [q] at h
      have h' : Post S R W σ F M H (KE S R Q) (gDsp ks ds M1) := h
      intro F1 H1 l1 s1 vs rs
      unfold gDsp at h'
      split at h'
      · rename_i hc
        obtain ⟨c1, c2, c3⟩ := hc
        have np : ¬ Liv F1 M1 p := fun ⟨n, c, f1, f2⟩ => by
          obtain ⟨a, f3, nr, _⟩ := s1.cell n c f2
          rw [f1] at f3; cases f3
          exact nr (.inr rfl)
        have nr : ¬ R p := fun z => by
          obtain ⟨o, e⟩ := s.res p z
          rw [hp] at e; cases e
        have hp1 : H1 p = some (.dK []) := l1.keep p _ upd_same (s.nonew hp).1
        have lv : ks.length = vs.length := c1.trans rs.1
        have keys1 : (((ks.zip vs).map fun z => ((Sum.inr z.1 : Key), z.2)).map (·.1)) = (ks.zip ds).map (fun p => Sum.inr p.1) := by
          rw [List.map_map]
          have e1 : ∀ {β : Type} (us : List β), ks.length = us.length → (ks.zip us).map (fun p => (Sum.inr p.1 : Key)) = ks.map Sum.inr := fun us hu => by
            have : (ks.zip us).map (fun p => (Sum.inr p.1 : Key)) = ((ks.zip us).map Prod.fst).map Sum.inr := by rw [List.map_map]; rfl
            rw [this, List.map_fst_zip (Nat.le_of_eq hu)]
          exact (e1 vs lv).trans (e1 ds c1).symm
        have mk : mergeK [] ((ks.zip vs).map fun z => ((Sum.inr z.1 : Key), z.2)) = (ks.zip vs).map fun z => ((Sum.inr z.1 : Key), z.2) := by
          rw [mergeK_new _ [] ?_, List.nil_append]
          rw [List.nil_append, keys1]
          have : (ks.zip ds).map (fun p => (Sum.inr p.1 : Key)) = ((ks.zip ds).map Prod.fst).map Sum.inr := by rw [List.map_map]; rfl
          rw [this, List.map_fst_zip (Nat.le_of_eq c1)]
          exact List.pairwise_map.mpr (List.Pairwise.imp (fun h e => h (Sum.inr.inj e)) c3)
        refine ⟨hp1, (ks.zip vs).map (fun z => ((Sum.inr z.1 : Key), z.2)), ?_, ?_, ?_⟩
        · rw [List.map_map, List.zip_map_left]; rfl
        · rw [List.length_map, List.length_zip]; omega
        · rw [mk]
          have s2 := s1.offS (o := .dK ((ks.zip vs).map fun z => ((Sum.inr z.1 : Key), z.2))) (p := p) (.inr rfl) (fun b e => by rw [hp1] at e; cases e)
          have rs2 := rs.off (o := .dK ((ks.zip vs).map fun z => ((Sum.inr z.1 : Key), z.2))) (p := p) (.inr rfl)
          have vals1 : ((ks.zip ds).map (·.2)) = ds := List.map_snd_zip (Nat.le_of_eq c1.symm)
          have vals2 : (((ks.zip vs).map fun z => ((Sum.inr z.1 : Key), z.2)).map (·.2)) = vs := by
            rw [List.map_map]
            exact List.map_snd_zip (Nat.le_of_eq lv.symm)
          have atp : (F1 ++ [p])[M1.length]? = some p := by rw [← s1.len, List.getElem?_append_right (Nat.le_refl _)]; simp
          refine h' (F1 ++ [p]) _ ?_ (Sim.adoptC s2 np nr fun up => ⟨_, upd_same, keys1, by rw [vals1, vals2]; exact up rs2⟩) _ (.loc _ _ atp)
          refine ⟨fun n a e => ?_, fun a ⟨n, d, e1, e2⟩ => ?_, fun a o e nl => ?_, fun a ⟨o, e⟩ => ?_⟩
          · have z := l1.pre n a e
            rw [List.getElem?_append_left (List.getElem?_eq_some_iff.mp z).1]; exact z
          · by_cases hn : n < M1.length
            · rw [List.getElem?_append_left hn] at e2
              rw [List.getElem?_append_left (s1.len ▸ hn)] at e1
              rcases l1.liv a ⟨n, d, e1, e2⟩ with z | z
              · exact .inl z
              · by_cases ha : a = p
                · exact .inr (by rw [ha]; exact hp)
                · rw [upd_ne ha] at z; exact .inr z
            · rw [List.getElem?_append_right (by have := s1.len; omega)] at e1
              cases hk : n - F1.length with
              | zero => rw [hk] at e1; simp at e1; rw [← e1]; exact .inr hp
              | succ j => rw [hk] at e1; simp at e1
          · have ne : a ≠ p := ne_of_none e hp
            rw [upd_ne ne]
            exact l1.keep a o (by rw [upd_ne ne]; exact e) nl
          · have ne : a ≠ p := ne_of_none e hp
            rw [upd_ne ne]
            exact l1.there a ⟨o, by rw [upd_ne ne]; exact e⟩
      · exact h'.elim
end
end En

set_option Elab.async false
set_option linter.all false
set_option maxRecDepth 100000
/-! E9: the engine's own syntax, what it does, and how the program's text is read into it. -/
namespace En
open PySem PySem.Spec L2

inductive Bop where
  | add (c : Bool) | sub | mul (c : Bool) | div | mod | pow
  | lt | le | gt | ge | eq | ne | isT | isN | inT | ninT | addI | subI | mulI
  deriving DecidableEq
inductive Blt where
  | len | abs | int | max2 | min2 | sum | all | any | list (c : Bool) | tuple | isi | dict | sorted (c : Bool) | maxL | minL | revL (c : Bool) | lenU | isiO (cs : List Str) | repr | comb | maxD | max3 | lenR | rng3L (c : Bool)
  deriving DecidableEq
inductive Mth where
  | append | extend | popAt | pop | reverse | clear
  deriving DecidableEq
def gAddI (x y : D) (M : Mem) : Res D := match x, y with | .int i, .int j => .ok (.int (i + j)) M | _, _ => .bad
def gSubI (x y : D) (M : Mem) : Res D := match x, y with | .int i, .int j => .ok (.int (i - j)) M | _, _ => .bad
def gMulI (x y : D) (M : Mem) : Res D := match x, y with | .int i, .int j => if i.natAbs.log2 + j.natAbs.log2 < 1000000 then .ok (.int (i * j)) M else .bad | _, _ => .bad
/-- max(i, j, k) -/
def gMax3 (ds : List D) (M : Mem) : Res D := match ds with | [.int i, .int j, .int k] => .ok (.int (if k > (if j > i then j else i) then k else (if j > i then j else i))) M | _ => .bad
def Bop.g : Bop → D → D → Mem → Res D
  | .add c => gAdd c
  | .sub => gSub
  | .mul c => gMul c
  | .div => gDiv
  | .mod => gMod
  | .pow => gPow
  | .lt => gCmpI fun i j => decide (i < j)
  | .le => gCmpI fun i j => decide (i ≤ j)
  | .gt => gCmpI fun i j => decide (j < i)
  | .ge => gCmpI fun i j => decide (j ≤ i)
  | .eq => gEq
  | .ne => gNe
  | .isT => gIs false
  | .isN => gIs true
  | .inT => gIn false
  | .ninT => gIn true
  | .addI => gAddI
  | .subI => gSubI
  | .mulI => gMulI
def Blt.g : Blt → List D → Mem → Res D
  | .len => gLen
  | .abs => gAbs
  | .int => gInt
  | .max2 => gMax2
  | .min2 => gMin2
  | .sum => gSum
  | .all => gAll
  | .any => gAny
  | .list c => gList c
  | .tuple => gTuple
  | .isi => gIsiE
  | .dict => gDict
  | .sorted c => gSorted c
  | .maxL => gMaxL
  | .minL => gMinL
  | .revL c => gRevL c
  | .lenU => gLenU
  | .isiO cs => gIsiO cs
  | .repr => gRepr
  | .comb => gComb
  | .maxD => gMaxD
  | .max3 => gMax3
  | .lenR => gLenR
  | .rng3L c => gRngL3 c
/-- its list is a cell, or stays as it is -/
def Blt.at (c : Bool) : Blt → Blt
  | .sorted _ => .sorted c
  | b => b
def Blt.io (cs : List Str) : Blt → Blt
  | .isi => if cs.isEmpty = true then .isi else .isiO cs
  | b => b
def Mth.g : Mth → D → List D → Mem → Res D
  | .append => gAppend
  | .extend => gExtend
  | .popAt => gPopAt
  | .pop => gPop
  | .reverse => gReverse
  | .clear => gClear

mutual
inductive Ex where
  | var (i : Nat)
  | cst (d : D)
  | op (o : Bop) (a b : Ex)
  | neg (a : Ex)
  | and (a b : Ex)
  | or (a b : Ex)
  | not (a : Ex)
  | ife (c a b : Ex)
  | chain (o p : Bop) (a b c : Ex)
  | blt (b : Blt) (es : Exs)
  | rngL (c : Bool) (es : Exs)
  | call (f : Str) (n : Nat) (es : Exs)
  | callK (f : Str) (n : Nat) (ord : List Nat) (es : Exs)
  | ix (a b : Ex)
  | sl (c : Bool) (a : Ex) (lo hi : Exo)
  | tup (es : Exs)
  | lst (c : Bool) (es : Exs)
  | lc (c : Bool) (w : Wx) (t : Tn) (cond : Exo) (e : Ex) (own : List Nat)
  | mt (m : Mth) (o : Ex) (es : Exs)
  | d0
  | exv (c fld : Str) (es : Exs)
  | fld (cs fs : List Str) (f : Str) (e : Ex)
  | make (c key : Str) (n : Nat) (es : Exs)
  | dsp (ks : List Str) (es : Exs)
inductive Exs where
  | nil
  | cons (e : Ex) (es : Exs)
  | star (e : Ex) (es : Exs)
inductive Exo where
  | none
  | some (e : Ex)
inductive Wx where
  | seq (e : Ex)
  | rng1 (es : Exs)
  | rng2 (es : Exs)
  | rng3 (es : Exs)
  | rev (e : Ex)
  | enum (es : Exs)
  | zip (es : Exs)
end
/-- the ints of a range, in a new list -/
def gRngL (c : Bool) (ds : List D) (M : Mem) : Res D :=
  match ds with
  | [.int j] => if -1000000 ≤ j ∧ j ≤ 1000000 then fin c (rngD 0 j.toNat) M else .bad
  | [.int i, .int j] => if -1000000 ≤ i ∧ i ≤ 1000000 ∧ -1000000 ≤ j ∧ j ≤ 1000000 then fin c (rngD i (j - i).toNat) M else .bad
  | _ => .bad
/-- a o b p c -/
def fChain (g h : D → D → Mem → Res D) (fa fb fc : FE D) : FE D := fun env M => (fa env M).bind fun x M1 => (fb env M1).bind fun y M2 => (g x y M2).bind fun z M3 =>
  match z with
  | .bl true => (fc env M3).bind fun u M4 => h y u M4
  | .bl false => .ok (.bl false) M3
  | _ => .bad
abbrev CT := Str → List D → Mem → Res D
def isTestOp : Ex → Bool
  | .and _ _ => true
  | .or _ _ => true
  | .not _ => true
  | .ife _ _ _ => true
  | _ => false
mutual
noncomputable def iE (C : CT) : Ex → FE D
  | .var i => fVar i
  | .cst d => fC d
  | .op o a b => fOp o.g (iE C a) (iE C b)
  | .neg a => fUn gNeg (iE C a)
  | .and a b => fAnd (iE C a) (iE C b)
  | .or a b => fOr (iE C a) (iE C b)
  | .not a => fNot (iE C a)
  | .ife c a b => fIf (iT C c) (iE C a) (iE C b)
  | .chain o p a b c => fChain o.g p.g (iE C a) (iE C b) (iE C c)
  | .blt b es => fCl b.g (iEs C es)
  | .rngL c es => fCl (gRngL c) (iEs C es)
  | .call f n es => fCl (gCall n (C f)) (iEs C es)
  | .callK f n ord es => fCallK n (C f) ord (iEs C es)
  | .ix a b => fOp gIx (iE C a) (iE C b)
  | .sl c a lo hi => fSl c (iE C a) (iO C lo) (iO C hi)
  | .tup es => fCl gTup (iEs C es)
  | .lst c es => fCl (gLst c) (iEs C es)
  | .lc c w t cond e own => fLc c (iW C w) t (iC C cond) (iE C e) own
  | .mt m o es => fMt m.g (iE C o) (iEs C es)
  | .d0 => fD0
  | .exv c fld es => fCl (gExv c fld) (iEs C es)
  | .fld cs fs f e => fUn (gFld cs fs f) (iE C e)
  | .make c key n es => fCl (gMake c n (C key)) (iEs C es)
  | .dsp ks es => fDsp ks (iEs C es)
noncomputable def iT (C : CT) : Ex → FE Bool
  | .and a b => fAndT (iT C a) (iT C b)
  | .or a b => fOrT (iT C a) (iT C b)
  | .not a => fNotT (iT C a)
  | .var i => fTru (fVar i)
  | .cst d => fTru (fC d)
  | .op o a b => fTru (fOp o.g (iE C a) (iE C b))
  | .neg a => fTru (fUn gNeg (iE C a))
  | .ife c a b => fun _ _ => .bad
  | .chain o p a b c => fTru (fChain o.g p.g (iE C a) (iE C b) (iE C c))
  | .blt b es => fTru (fCl b.g (iEs C es))
  | .rngL c es => fTru (fCl (gRngL c) (iEs C es))
  | .call f n es => fTru (fCl (gCall n (C f)) (iEs C es))
  | .callK f n ord es => fTru (fCallK n (C f) ord (iEs C es))
  | .ix a b => fTru (fOp gIx (iE C a) (iE C b))
  | .sl c a lo hi => fTru (fSl c (iE C a) (iO C lo) (iO C hi))
  | .tup es => fTru (fCl gTup (iEs C es))
  | .lst c es => fTru (fCl (gLst c) (iEs C es))
  | .lc c w t cond e own => fTru (fLc c (iW C w) t (iC C cond) (iE C e) own)
  | .mt m o es => fTru (fMt m.g (iE C o) (iEs C es))
  | .d0 => fTru fD0
  | .exv c fld es => fTru (fCl (gExv c fld) (iEs C es))
  | .fld cs fs f e => fTru (fUn (gFld cs fs f) (iE C e))
  | .make c key n es => fTru (fCl (gMake c n (C key)) (iEs C es))
  | .dsp ks es => fTru (fDsp ks (iEs C es))
noncomputable def iEs (C : CT) : Exs → FE (List D)
  | .nil => fNil
  | .cons e es => fCons (iE C e) (iEs C es)
  | .star e es => fConsS (iE C e) (iEs C es)
noncomputable def iO (C : CT) : Exo → FE (Option Int)
  | .none => fNo
  | .some e => fPart (iE C e)
noncomputable def iC (C : CT) : Exo → FE Bool
  | .none => fun _ M => .ok true M
  | .some e => iT C e
noncomputable def iW (C : CT) : Wx → FE Wd
  | .seq e => fWd (iE C e)
  | .rng1 es => fWds gRng1 (iEs C es)
  | .rng2 es => fWds gRng2 (iEs C es)
  | .rng3 es => fWds gRng3 (iEs C es)
  | .rev e => fRev (iE C e)
  | .enum es => fWds gEnum (iEs C es)
  | .zip es => fWds gZip (iEs C es)
end
mutual
inductive Tg where
  | nm (i : Nat)
  | tup (n : Nat) (ts : Tgs)
  | sub (o i : Ex)
inductive Tgs where
  | nil
  | cons (t : Tg) (ts : Tgs)
end
mutual
noncomputable def iG (C : CT) : Tg → FG
  | .nm i => gName i
  | .tup n ts => gTupT n (iGs C ts)
  | .sub o i => gSubT (iE C o) (iE C i)
noncomputable def iGs (C : CT) : Tgs → List D → Ev → Mem → SR
  | .nil => gNil
  | .cons t ts => gCons (iG C t) (iGs C ts)
end
mutual
inductive Sx where
  | pass
  | asg (t : Tg) (e : Ex)
  | par (i j : Nat) (es : Exs)
  | par3 (i j k : Nat) (es : Exs)
  | aug (o : Bop) (i : Nat) (e : Ex)
  | expr (e : Ex)
  | ret (e : Ex)
  | retN
  | ife (c : Ex) (a b : Sxs)
  | whl (c : Ex) (b : Sxs)
  | forr (w : Wx) (t : Tg) (b : Sxs)
  | brk
  | cnt
  | raise (c fld : Str) (es : Exs)
  | fset (cs fs : List Str) (f : Str) (o e : Ex)
  | tri (b : Sxs) (hs : List Hd)
inductive Sxs where
  | nil
  | one (s : Sx)
  | cons (s : Sx) (r : Sxs)
end
mutual
noncomputable def iS (C : CT) (sub : Str → Str → Bool) : Sx → FS
  | .pass => sNext
  | .asg t e => sAsg (iE C e) (iG C t)
  | .par i j es => sPar i j (iEs C es)
  | .par3 i j k es => sPar3 i j k (iEs C es)
  | .aug o i e => sAug o.g i (iE C e)
  | .expr e => sExpr (iE C e)
  | .ret e => sRet (iE C e)
  | .retN => sRetN
  | .ife c a b => sIf (iT C c) (iSs C sub a) (iSs C sub b)
  | .whl c b => sWhile (iT C c) (iSs C sub b)
  | .forr w t b => sFor (iW C w) (iG C t) (iSs C sub b)
  | .brk => sBreak
  | .cnt => sCont
  | .raise c fld es => sRaise c fld (iEs C es)
  | .fset cs fs f o e => sFldSet cs fs f (iE C e) (iE C o)
  | .tri b hs => sTry sub (iSs C sub b) hs
noncomputable def iSs (C : CT) (sub : Str → Str → Bool) : Sxs → FS
  | .nil => sNext
  | .one s => iS C sub s
  | .cons s r => sSeq (iS C sub s) (iSs C sub r)
end

/-! ### reading the text -/
structure Tb where
  N : List Str
  defs : Str → Option (List Str)
  consts : Str → Option D
  excs : Str → Option Str
  clss : List Str
  cells : List Pos
  ics : List Str := []
  ifs : List Str := []
  mks : Str → Option (Str × Nat) := fun _ => none
  mods : List Str := []
def slotOf (N : List Str) (x : Str) : Option Nat := let i := N.idxOf x; if i < N.length then some i else none
def visB (sc : Scope) (x : Str) : Bool := match sc.names.lookup x with | some .local => true | some .cell => true | some .free => true | _ => false
def glB (sc : Scope) (x : Str) : Bool := sc.names.lookup x == some .globalImplicit
def okN (x : Str) : Bool := !(x == ("__debug__" : Str)) && !(x == ("__classdict__" : Str))
def isStarred : Expr → Bool | .Starred _ _ => true | _ => false
def isSetE : Expr → Bool | .Set _ _ _ => true | _ => false
def isSlice : Expr → Bool | .Slice _ _ _ _ => true | _ => false
def plainT : Expr → Bool
  | .UnaryOp _ _ _ => false
  | .BoolOp _ _ _ => false
  | .IfExp _ _ _ _ => false
  | .Compare _ _ _ _ => false
  | _ => true
/-- what a method is called on: a name, a part -/
def plainO : Expr → Bool
  | .Name _ _ => true
  | .Subscript _ _ _ => true
  | .Attribute _ _ _ => true
  | .List _ _ => true
  | _ => false
def isComp : Expr → Bool
  | .ListComp _ _ _ _ => true
  | .SetComp _ _ _ _ => true
  | .DictComp _ _ _ _ _ => true
  | _ => false
def bopOf (c : Bool) : Operator → Option Bop
  | .Add => some (.add c)
  | .Sub => some .sub
  | .Mult => some (.mul c)
  | .FloorDiv => some .div
  | .Mod => some .mod
  | .Pow => some .pow
  | _ => none
def cmpOf : CmpOp → Option Bop
  | .Lt => some .lt
  | .LtE => some .le
  | .Gt => some .gt
  | .GtE => some .ge
  | .Eq => some .eq
  | .NotEq => some .ne
  | .Is => some .isT
  | .IsNot => some .isN
  | .In => some .inT
  | .NotIn => some .ninT
/-- the built-in functions and types that are known -/
def bltF0 (x : Str) (n : Nat) : Option Blt :=
  if x = "len" ∧ n = 1 then some .len
  else if x = "abs" ∧ n = 1 then some .abs
  else if x = "max" ∧ n = 2 then some .max2
  else if x = "min" ∧ n = 2 then some .min2
  else if x = "sum" ∧ n = 1 then some .sum
  else if x = "all" ∧ n = 1 then some .all
  else if x = "any" ∧ n = 1 then some .any
  else if x = "isinstance" ∧ n = 2 then some .isi
  else if x = "sorted" ∧ n = 1 then some (.sorted false)
  else if x = "max" ∧ n = 1 then some .maxL
  else if x = "min" ∧ n = 1 then some .minL
  else none
def bltF (x : Str) (n : Nat) : Option Blt := if x = "repr" ∧ n = 1 then some .repr else if x = "max" ∧ n = 3 then some .max3 else bltF0 x n
def bltT (c : Bool) (x : Str) (n : Nat) : Option Blt :=
  if x = "int" ∧ n = 1 then some .int
  else if x = "list" ∧ n = 1 then some (.list c)
  else if x = "tuple" ∧ n = 1 then some .tuple
  else if x = "dict" ∧ n = 1 then some .dict
  else none
def tyOfN (x : Str) : Option String :=
  if x = "int" then some "int" else if x = "bool" then some "bool" else if x = "str" then some "str" else if x = "list" then some "list" else if x = "tuple" then some "tuple" else if x = "dict" then some "dict" else none
def mthOf (m : Str) (n : Nat) : Option Mth :=
  if m = "append" ∧ n = 1 then some .append
  else if m = "extend" ∧ n = 1 then some .extend
  else if m = "pop" ∧ n = 1 then some .popAt
  else if m = "pop" ∧ n = 0 then some .pop
  else if m = "reverse" ∧ n = 0 then some .reverse
  else if m = "clear" ∧ n = 0 then some .clear
  else none
def Exs.ofList : List Ex → Exs
  | [] => .nil
  | e :: es => .cons e (ofList es)
/-- read each -/
def rdAll {α : Type} (f : Expr → Option α) : List Expr → Option (List α)
  | [] => some []
  | e :: es => match f e, rdAll f es with
    | some x, some xs => some (x :: xs)
    | _, _ => none
/-- items of a display, some of them starred -/
def rdStar (f : Expr → Option Ex) : List Expr → Option Exs
  | [] => some .nil
  | .Starred e _ :: es => match f e, rdStar f es with
    | some x, some xs => some (.star x xs)
    | _, _ => none
  | e :: es => match f e, rdStar f es with
    | some x, some xs => if isStarred e = true then none else some (.cons x xs)
    | _, _ => none
/-- a and b and .., from the right -/
def rdBool (f : Expr → Option Ex) (op : Ex → Ex → Ex) : List Expr → Option Ex
  | [] => none
  | [e] => f e
  | e :: es => match f e, rdBool f op es with
    | some x, some y => some (op x y)
    | _, _ => none
def rdOpt {α : Type} (f : Expr → Option α) : Option Expr → Option (Option α)
  | none => some none
  | some e => (f e).map some
def toExo : Option Ex → Exo | none => .none | some e => .some e
/-- the names of a comprehension's targets and their slots -/
def nmSlot (N : List Str) : Expr → Option Nat
  | .Name x _ => slotOf N x
  | _ => none
def nmName : Expr → Option Str
  | .Name x _ => some x
  | _ => none
def tnOf (N : List Str) : Expr → Option Tn
  | .Name x _ => (slotOf N x).map .nm
  | .Tuple es _ _ => (rdAll (nmSlot N) es).map .tup
  | _ => none
/-- list(range(..)): range's arguments -/
def rngArgs (sc : Scope) (x : Str) : Expr → List Expr → Option (List Expr)
  | .Call (.Name y _) [a] [] _, [] => if x = "list" ∧ y = "range" ∧ glB sc y = true ∧ isStarred a = false then some [a] else none
  | .Call (.Name y _) [a, b] [] _, [] => if x = "list" ∧ y = "range" ∧ glB sc y = true ∧ isStarred a = false ∧ isStarred b = false then some [a, b] else none
  | _, _ => none
/-- list(range(i, j, k)) and len(range(i, j, k)): range's arguments -/
def rng3Args (sc : Scope) (x : Str) : Expr → List Expr → Option (List Expr)
  | .Call (.Name y _) [a, b, c] [] _, [] => if (x = "list" ∨ x = "len") ∧ y = "range" ∧ glB sc y = true ∧ isStarred a = false ∧ isStarred b = false ∧ isStarred c = false then some [a, b, c] else none
  | _, _ => none
/-- pairs are gone over: the target is a tuple -/
def wTg : Wx → Expr → Bool
  | .enum _, .Tuple _ _ _ => true
  | .zip _, .Tuple _ _ _ => true
  | .enum _, _ => false
  | .zip _, _ => false
  | _, _ => true
def tgNames : Expr → List Str
  | .Name x _ => [x]
  | .Tuple es _ _ => es.filterMap nmName
  | _ => []
/-- the block's own names: its targets -/
def ownOf (N : List Str) (tg : Expr) : List (Str × Nat) := (tgNames tg).filterMap fun x => (slotOf N x).map fun i => (x, i)
def kwNames (kws : List Keyword) : List Str := kws.filterMap fun k => k.arg
def ordOf (ps ks : List Str) : List Nat := ps.map fun p => ks.idxOf p
def kwOk (ps ks : List Str) : Bool := (ordOf ps ks).all (fun i => decide (i < ks.length)) && ks.all (fun x => ps.contains x) && decide ks.Nodup
def cellAt (tb : Tb) (p : Pos) : Bool := tb.cells.contains p
def rdKws (f : Expr → Option Ex) : List Keyword → Option (List Ex)
  | [] => some []
  | ⟨some _, e, _⟩ :: ks => match f e, rdKws f ks with
    | some x, some xs => some (x :: xs)
    | _, _ => none
  | ⟨none, _, _⟩ :: _ => none
def cConst : Const → Option D
  | .none => some .non
  | .bool b => some (.bl b)
  | .int i => some (.int i)
  | .str s => some (.str s)
  | _ => none

/-- what is gone over, read; f reads expressions -/
def cW (f : Expr → Option Ex) (sc : Scope) : Expr → Option Wx
  | .Call (.Name x p) [a] [] pos =>
    if glB sc x = true ∧ isStarred a = false ∧ x = "range" then (f a).map fun a => .rng1 (.cons a .nil)
    else if glB sc x = true ∧ isStarred a = false ∧ x = "reversed" then (f a).map .rev
    else if glB sc x = true ∧ isStarred a = false ∧ x = "enumerate" then (f a).map fun a => .enum (.cons a .nil)
    else (f (.Call (.Name x p) [a] [] pos)).map .seq
  | .Call (.Name x p) [a, b] [] pos =>
    if glB sc x = true ∧ isStarred a = false ∧ isStarred b = false ∧ x = "range" then match f a, f b with | some a, some b => some (.rng2 (.cons a (.cons b .nil))) | _, _ => none
    else if glB sc x = true ∧ isStarred a = false ∧ isStarred b = false ∧ x = "zip" then match f a, f b with | some a, some b => some (.zip (.cons a (.cons b .nil))) | _, _ => none
    else (f (.Call (.Name x p) [a, b] [] pos)).map .seq
  | .Call (.Name x p) [a, b, c] [] pos =>
    if glB sc x = true ∧ isStarred a = false ∧ isStarred b = false ∧ isStarred c = false ∧ x = "range" then match f a, f b, f c with | some a, some b, some c => some (.rng3 (.cons a (.cons b (.cons c .nil)))) | _, _, _ => none
    else (f (.Call (.Name x p) [a, b, c] [] pos)).map .seq
  | it => if isSetE it = true then none else (f it).map .seq
/-- the items of {e for x in xs if c}, as a list -/
def lcX (N : List Str) (f g : Expr → Option Ex) (sc : Scope) (elt tg it : Expr) (ifs : List Expr) (scope : Scope) : Option Ex :=
  if blkC N sc scope (ownOf N tg) = true ∧ (tgNames tg).all (fun x => scope.names.lookup x == some .local || scope.names.lookup x == some .cell) = true then
    match cW f sc it, tnOf N tg, g elt, ifs with
    | some w, some t, some e, [] => if wTg w tg = true then some (.lc false w t .none e ((ownOf N tg).map (·.2))) else none
    | some w, some t, some e, [c] => if wTg w tg = true then (g c).map fun c => .lc false w t (.some c) e ((ownOf N tg).map (·.2)) else none
    | _, _, _, _ => none
  else none
/-- keys that are written texts -/
def keyTxts : List (Option Expr) → Option (List Str)
  | [] => some []
  | some (.Constant (.str s) _ _) :: r => (keyTxts r).map (s :: ·)
  | _ => none
/-- an expression read -/
def cE (tb : Tb) : Nat → Scope → Expr → Option Ex
  | 0, _, _ => none
  | n + 1, sc, e =>
    match e with
    | .Name x _ => if okN x = true then (match slotOf tb.N x with
        | some i => if visB sc x = true then some (.var i) else none
        | none => if glB sc x = true then (match tb.consts x with | some d => some (.cst d) | none => (tyOfN x).map fun t => .cst (.ty t)) else none) else none
    | .Constant c _ _ => (cConst c).map .cst
    | .Dict [] [] _ => some .d0
    | .Dict (k :: ks) es _ => match keyTxts (k :: ks), rdAll (cE tb n sc) es with
      | some ts, some xs => if es.length = ts.length ∧ ts.length ≤ 15 then some (.dsp ts (.ofList xs)) else none
      | _, _ => none
    | .BinOp a o b pos => match cE tb n sc a, cE tb n sc b, bopOf (cellAt tb pos) o with
      | some a, some b, some o => some (.op o a b)
      | _, _, _ => none
    | .UnaryOp .USub a _ => (cE tb n sc a).map .neg
    | .UnaryOp .Not a _ => (cE tb n sc a).map .not
    | .BoolOp .And es _ => rdBool (cE tb n sc) .and es
    | .BoolOp .Or es _ => rdBool (cE tb n sc) .or es
    | .IfExp c a b _ => match cE tb n sc c, cE tb n sc a, cE tb n sc b with
      | some c, some a, some b => some (.ife c a b)
      | _, _, _ => none
    | .Compare a [o] [b] _ => if isSetE b = true then none else match cE tb n sc a, cE tb n sc b, cmpOf o with
      | some a, some b, some o => some (.op o a b)
      | _, _, _ => none
    | .Compare a [o, p] [b, c] _ => if isSetE b = true ∨ isSetE c = true then none else match cE tb n sc a, cE tb n sc b, cE tb n sc c, cmpOf o, cmpOf p with
      | some a, some b, some c, some o, some p => some (.chain o p a b c)
      | _, _, _, _, _ => none
    | .Call (.Name x _) [.SetComp elt [⟨tg, it, ifs, 0⟩] scope _] [] _ =>
      if glB sc x = true ∧ x = "len" then (lcX tb.N (cE tb n sc) (cE tb n (relS scope sc)) sc elt tg it ifs scope).map fun y => .blt .lenU (.cons y .nil) else none
    | .Call (.Name x _) (a :: es) [] pos =>
      if glB sc x = true ∧ okN x = true ∧ (a :: es).all (fun e => !isStarred e) = true then
        match tb.defs x with
        | some ps => (rdAll (cE tb n sc) (a :: es)).map fun xs => .call x ps.length (.ofList xs)
        | none => match rng3Args sc x a es with
         | some args => (rdAll (cE tb n sc) args).map fun xs => .blt (if x = "list" then .rng3L (cellAt tb pos) else .lenR) (.ofList xs)
         | none => match bltF x (es.length + 1) with
          | some b => (rdAll (cE tb n sc) (a :: es)).map fun xs => .blt ((b.at (cellAt tb pos)).io tb.ics) (.ofList xs)
          | none => match bltT (cellAt tb pos) x (es.length + 1) with
            | some b => match rngArgs sc x a es with
              | some args => (rdAll (cE tb n sc) args).map fun xs => .rngL (cellAt tb pos) (.ofList xs)
              | none => (rdAll (cE tb n sc) (a :: es)).map fun xs => .blt b (.ofList xs)
            | none => match tb.mks x with
              | some (key, m) => (rdAll (cE tb n sc) (a :: es)).map fun xs => .make x key m (.ofList xs)
              | none => match tb.excs x, es with
                | some fld, [] => (cE tb n sc a).map fun y => .exv x fld (.cons y .nil)
                | _, _ => if x = "comb" ∧ tb.mods.contains x = true then (rdAll (cE tb n sc) (a :: es)).map fun xs => .blt .comb (.ofList xs) else none
      else none
    | .Call (.Name x _) [a] [⟨some d, .Constant .none _ _, _⟩] _ =>
      if x = "max" ∧ d = "default" ∧ glB sc x = true ∧ isStarred a = false then (cE tb n sc a).map fun y => .blt .maxD (.cons y .nil) else none
    | .Call (.Name x _) [] (k :: ks) _ =>
      if glB sc x = true ∧ okN x = true then match tb.defs x with
        | some ps => if kwOk ps (kwNames (k :: ks)) = true then (rdKws (cE tb n sc) (k :: ks)).map fun xs => .callK x ps.length (ordOf ps (kwNames (k :: ks))) (.ofList xs) else none
        | none => none
      else none
    | .Call (.Attribute o m apos) es [] pos => if plainO o = true ∧ (apos.endLine == pos.line) = true ∧ es.all (fun e => !isStarred e) = true ∧ es.length < 20 then match cE tb n sc o, rdAll (cE tb n sc) es, mthOf m es.length with
        | some o, some xs, some m => some (.mt m o (.ofList xs))
        | _, _, _ => none
      else none
    | .Attribute o f _ => if plainO o = true ∧ tb.ifs.contains f = true then (cE tb n sc o).map (.fld tb.ics tb.ifs f) else none
    | .Subscript a (.Slice none none (some (.UnaryOp .USub (.Constant (.int 1) _ _) _)) _) pos => (cE tb n sc a).map fun a => .blt (.revL (cellAt tb pos)) (.cons a .nil)
    | .Subscript a (.Slice lo hi none _) pos => match cE tb n sc a, rdOpt (cE tb n sc) lo, rdOpt (cE tb n sc) hi with
      | some a, some lo, some hi => some (.sl (cellAt tb pos) a (toExo lo) (toExo hi))
      | _, _, _ => none
    | .Subscript a b _ => if isSlice b = true then none else match cE tb n sc a, cE tb n sc b with
      | some a, some b => some (.ix a b)
      | _, _ => none
    | .Tuple es _ _ => if es.all (fun e => !isStarred e) = true then (rdAll (cE tb n sc) es).map fun xs => .tup (.ofList xs) else none
    | .List es pos => if es.all (fun e => !isStarred e) = true then (rdAll (cE tb n sc) es).map fun xs => .lst (cellAt tb pos) (.ofList xs) else (rdStar (cE tb n sc) es).map fun xs => .lst (cellAt tb pos) xs
    | .ListComp elt [⟨tg, it, ifs, 0⟩] scope pos =>
      let sc2 := relS scope sc
      if blkC tb.N sc scope (ownOf tb.N tg) = true ∧ (tgNames tg).all (fun x => scope.names.lookup x == some .local || scope.names.lookup x == some .cell) = true then
        match cW (cE tb n sc) sc it, tnOf tb.N tg, cE tb n sc2 elt, ifs with
        | some w, some t, some e, [] => if wTg w tg = true then some (.lc (cellAt tb pos) w t .none e ((ownOf tb.N tg).map (·.2))) else none
        | some w, some t, some e, [c] => if wTg w tg = true then (cE tb n sc2 c).map fun c => .lc (cellAt tb pos) w t (.some c) e ((ownOf tb.N tg).map (·.2)) else none
        | _, _, _, _ => none
      else none
    | _ => none
end En

set_option Elab.async false
set_option linter.all false
set_option maxRecDepth 100000
set_option maxHeartbeats 2000000
/-! E10: what is read is what the text does: expressions. -/
namespace En
open PySem PySem.Spec L2

/-- a def of the table, as it stands -/
structure DefAt (S : Sur) (X : Cx) (C : CT) (k : Nat) (x : Str) (ps : List Str) (f : Addr) (fd : FuncData) : Prop where
  mg : X.mg x = some (.ref f)
  kp : PySem.W.keepIn X.K (.ref f) = true
  bd : Binds X.K fd ps []
  kw : ∀ (ks : List Str), kwOk ps ks = true → ∀ (s : Shared) (ws : List Value), X.K.In s.heap → (pick (ordOf ps ks) ws).length = ps.length → BindsTo s fd ⟨[], ks.zip ws⟩ (ps.zip (pick (ordOf ps ks) ws))
  ok : FnG X.prog X.w X.K X.mg X.base (L2.CX X.prog X.w) k f fd ps (spOf S ps.length (C x))
/-- an own exception class that keeps one value -/
structure ExcAt (S : Sur) (X : Cx) (x fld : Str) (C fI : Addr) (fd : FuncData) : Prop where
  mg : X.mg x = some (.ref C)
  cls : S.cls x = some C
  ek : extK X.K C = true
  ox : OexC X.K C
  xf : XfC X.K C
  no : PySem.W.findIn X.K (.ref C) fld = some none
  iC : PySem.W.findIn X.K (.ref C) "__init__" = some (some (.ref fI))
  tI : PySem.W.typeIn X.K (.ref fI) = some (.type "function")
  ok : FnOk X.prog X.w X.K X.mg X.base CX0 1 fI fd ["self", fld] (spKeep X.K C fld)
  bd : Binds X.K fd ["self", fld] []
/-- an own class whose instances are made: its __init__ is the def key of n arguments -/
structure MkAt (S : Sur) (X : Cx) (C : CT) (k : Nat) (x key : Str) (n : Nat) (Ca f : Addr) (fd : FuncData) (ps : List Str) : Prop where
  mg : X.mg x = some (.ref Ca)
  cls : S.cls x = some Ca
  makes : Mk X.K Ca f
  ok : FnG X.prog X.w X.K X.mg X.base (L2.CX X.prog X.w) k f fd ps (spOf S n (C key))
  bd : Binds X.K fd ps []
structure CtxE (S : Sur) (tb : Tb) (C : CT) (k : Nat) (W : WX) (X : Cx) : Prop where
  K : S.K = X.K
  N : X.N = tb.N
  nd : X.N.Nodup
  calm : X.calm = true
  tk : Takes X W
  hr : Room k X.A
  blt : ∀ x, (tyOfN x).isSome = true ∨ (∃ n, (bltF x n).isSome = true) ∨ x = "range" ∨ x = "reversed" ∨ x = "enumerate" ∨ x = "zip" → X.mg x = none
  defs : ∀ x ps, tb.defs x = some ps → ∃ f fd, DefAt S X C k x ps f fd
  consts : ∀ x d, tb.consts x = some d → ∃ v u, X.mg x = some u ∧ RelV v u ∧ ∀ R F M H, RelD S R F M H d v
  r2 : Room 2 X.A
  exc : ∀ x fld, tb.excs x = some fld → ∃ Ca fI fd, ExcAt S X x fld Ca fI fd
  hr1 : Room (k + 1) X.A
  ins : InsOk S X.K tb.ics tb.ifs
  isi : IsiOk S X.K tb.ics
  mks : ∀ x key n, tb.mks x = some (key, n) → ∃ Ca f fd ps, MkAt S X C k x key n Ca f fd ps
  gd : X.A.guards = some []
  mods : ∀ x : Str, x = "comb" → tb.mods.contains x = true → X.mg x = some (.builtin "math.comb")
section
variable {S : Sur} {tb : Tb} {C : CT} {k : Nat} {W : WX} {X : Cx} {sc : Scope}
theorem CtxE.hu (c : CtxE S tb C k W X) : X.A.units + 65 < cLine := by have := c.hr.un; omega
theorem CtxE.blk (c : CtxE S tb C k W X) (s : Shared) (H : Hp) (scope : Scope) (cl : List (Str × Addr)) (Ca : Addr) (fp : List Addr) : CtxE S tb C k W0 (X.blk s H scope (compEnvC scope cl Ca X.env) fp) :=
  ⟨c.K, c.N, c.nd, c.calm, takes0, c.hr, c.blt, fun x ps h => let ⟨f, fd, D⟩ := c.defs x ps h; ⟨f, fd, D.mg, D.kp, D.bd, D.kw, D.ok⟩, c.consts, c.r2, fun x fld h => let ⟨Ca, fI, fd, E⟩ := c.exc x fld h; ⟨Ca, fI, fd, E.mg, E.cls, E.ek, E.ox, E.xf, E.no, E.iC, E.tI, E.ok, E.bd⟩, c.hr1, c.ins, c.isi, fun x key n h => let ⟨Ca, f, fd, ps, E⟩ := c.mks x key n h; ⟨Ca, f, fd, ps, E.mg, E.cls, E.makes, E.ok, E.bd⟩, c.gd, c.mods⟩
theorem vis_of {x : Str} (h : visB sc x = true) : Vis sc x := by
  unfold visB at h
  split at h
  · exact .inl (by assumption)
  · exact .inr (.inl (by assumption))
  · exact .inr (.inr (by assumption))
  · cases h
theorem gl_of {x : Str} (hs : X.env.scope = sc) (h : glB sc x = true) : Gl X x := by
  unfold glB at h
  have h' : sc.names.lookup x = some .globalImplicit := by simpa using h
  show X.env.scope.names.lookup x = _
  rw [hs]; exact h'
theorem slot_of {N : List Str} {x : Str} {i : Nat} (h : slotOf N x = some i) : N[i]? = some x := by
  unfold slotOf at h
  simp only at h
  split at h
  · rename_i hl
    cases h
    rw [List.getElem?_eq_getElem hl, List.getElem_idxOf]
  · cases h
theorem okN_1 {x : Str} (h : okN x = true) : (x == ("__debug__" : Str)) = false := by
  unfold okN at h
  cases q : (x == ("__debug__" : Str)) with
  | false => rfl
  | true => rw [q] at h; cases h
theorem okN_2 {x : Str} (h : okN x = true) : (x == ("__classdict__" : Str)) = false := by
  unfold okN at h
  cases q : (x == ("__classdict__" : Str)) with
  | false => rfl
  | true => rw [q, Bool.and_comm] at h; cases h
theorem star_ok {e : Expr} {es : List Expr} {env : Env} (h : isStarred e = false) : starEach (e :: es) env = (false, eval e env) :: starEach es env := by
  cases e <;> first | rfl | cases h
theorem plain_ok {e : Expr} {env : Env} (h : plainT e = true) : ∀ whole, isTrue e env whole = (do let v ← whole; standAt e.pos; holding [v] (truthy v)) := by
  intro whole
  cases e <;> first | rfl | cases h
theorem slice_ok {b : Expr} (h : isSlice b = false) : PlainIx b := by
  intro o i
  cases b <;> first | rfl | cases h
theorem set_ok {e : Expr} {env : Env} (h : isSetE e = false) : ∀ x, foldedSetIterable e env x = pure x := by
  intro x
  cases e <;> first | rfl | cases h
theorem mark_ok {o : CmpOp} {b : Expr} (h : isSetE b = false) : behindInMarks o b = false := by
  cases b <;> first | rfl | cases h
theorem base_ok {o : Expr} {m : Str} {env : Env} {w : Sem Value} (h : plainO o = true) : attributeBase o m env w = w := by
  cases o <;> first | rfl | cases h
theorem noStar : ∀ {es : List Expr} {env : Env} {pos : Pos}, es.all (fun e => !isStarred e) = true → (backTo pos (starEach es env)).any (·.1) = false
  | [], _, _, _ => rfl
  | e :: es, env, pos, h => by
    rw [List.all_cons, Bool.and_eq_true] at h
    have h1 : isStarred e = false := by simpa using h.1
    rw [star_ok h1]
    show (false || (backTo pos (starEach es env)).any (·.1)) = false
    rw [noStar h.2]; rfl
theorem allPlain : ∀ {es : List Expr} {env : Env} {pos : Pos}, es.all (fun e => !isStarred e) = true → (backTo pos (starEach es env)).all (fun x => !x.1) = true
  | [], _, _, _ => rfl
  | e :: es, env, pos, h => by
    rw [List.all_cons, Bool.and_eq_true] at h
    have h1 : isStarred e = false := by simpa using h.1
    rw [star_ok h1]
    show (!false && (backTo pos (starEach es env)).all (fun x => !x.1)) = true
    rw [allPlain h.2]; rfl
/-- e does what x does, as a value and as a test -/
def Good (S : Sur) (X : Cx) (W : WX) (C : CT) (e : Expr) (x : Ex) : Prop := GE S X W e (iE C x) ∧ GT S X W e (iT C x)
theorem good_plain {e : Expr} {x : Ex} (hK : S.K = X.K) (hp : plainT e = true) (hi : isTestOp x = false) (h : GE S X W e (iE C x)) : Good S X W C e x := by
  refine ⟨h, ?_⟩
  have q := gt_tru hK (plain_ok hp) h
  cases x <;> first | exact q | cases hi
theorem args_ok {f : Expr → Option Ex} : ∀ {es : List Expr} {xs : List Ex}, (∀ e x, e ∈ es → f e = some x → GE S X W e (iE C x)) → es.all (fun e => !isStarred e) = true → rdAll f es = some xs → GA S X W es (iEs C (.ofList xs))
  | [], xs, _, _, h => by cases h; exact ga_nil
  | e :: es, xs, k, st, h => by
    unfold rdAll at h
    rw [List.all_cons, Bool.and_eq_true] at st
    have h1 : isStarred e = false := by simpa using st.1
    cases q : f e with
    | none => rw [q] at h; cases h
    | some y =>
      cases q2 : rdAll f es with
      | none => rw [q, q2] at h; cases h
      | some ys =>
        rw [q, q2] at h
        cases h
        exact ga_cons (k e y List.mem_cons_self q) (args_ok (fun e x m => k e x (List.mem_cons_of_mem _ m)) st.2 q2) (star_ok h1)
theorem dsp_ok {f : Expr → Option Ex} {pos : Pos} : ∀ {keys : List (Option Expr)} {es : List Expr} {ts : List Str} {xs : List Ex}, (∀ e x, e ∈ es → f e = some x → GE S X W e (iE C x)) → keyTxts keys = some ts → rdAll f es = some xs → es.length = ts.length → GP S X W pos keys es ts (iEs C (.ofList xs))
  | [], [], ts, xs, _, h1, h2, _ => by cases h1; cases h2; exact gp_nil
  | [], _ :: _, ts, xs, _, h1, _, h3 => by cases h1; cases h3
  | some (.Constant (.str s) k p) :: keys, [], ts, xs, _, h1, _, h3 => by
    unfold keyTxts at h1
    cases q : keyTxts keys with
    | none => rw [q] at h1; cases h1
    | some us => rw [q] at h1; cases h1; cases h3
  | some (.Constant (.str s) k p) :: keys, e :: es, ts, xs, g, h1, h2, h3 => by
    unfold keyTxts at h1
    unfold rdAll at h2
    cases q : keyTxts keys with
    | none => rw [q] at h1; cases h1
    | some us =>
      rw [q] at h1; cases h1
      cases q1 : f e with
      | none => rw [q1] at h2; cases h2
      | some y =>
        cases q2 : rdAll f es with
        | none => rw [q1, q2] at h2; cases h2
        | some ys =>
          rw [q1, q2] at h2
          cases h2
          exact gp_cons pe_str (g e y List.mem_cons_self q1) (dsp_ok (fun e x m => g e x (List.mem_cons_of_mem _ m)) q q2 (by simpa using h3))
theorem keyTxts_len : ∀ {keys : List (Option Expr)} {ts : List Str}, keyTxts keys = some ts → keys.length = ts.length ∧ keys.all (·.isSome) = true
  | [], ts, h => by cases h; exact ⟨rfl, rfl⟩
  | some (.Constant (.str s) k p) :: keys, ts, h => by
    unfold keyTxts at h
    cases q : keyTxts keys with
    | none => rw [q] at h; cases h
    | some us =>
      rw [q] at h; cases h
      have ih := keyTxts_len q
      exact ⟨by simp [ih.1], by simp [ih.2]⟩
theorem stars_ok {f : Expr → Option Ex} (hK : S.K = X.K) (k : ∀ e x, f e = some x → GE S X W e (iE C x)) : ∀ {es : List Expr} {xs : Exs}, rdStar f es = some xs → GA S X W es (iEs C xs)
  | [], xs, h => by cases h; exact ga_nil
  | e :: es, xs, h => by
    by_cases hs : isStarred e = true
    · cases e with
      | Starred e p =>
        have h' : (match f e, rdStar f es with | some x, some xs => some (Exs.star x xs) | _, _ => none) = some xs := h
        cases q : f e with
        | none => rw [q] at h'; cases h'
        | some y =>
          cases q2 : rdStar f es with
          | none => rw [q, q2] at h'; cases h'
          | some ys =>
            rw [q, q2] at h'
            cases h'
            exact ga_star hK (k _ _ q) (stars_ok hK k q2)
      | _ => cases hs
    · have h' : (match f e, rdStar f es with | some x, some xs => if isStarred e = true then none else some (Exs.cons x xs) | _, _ => none) = some xs := by
        cases e <;> first | exact h | exact absurd rfl hs
      cases q : f e with
      | none => rw [q] at h'; cases h'
      | some y =>
        cases q2 : rdStar f es with
        | none => rw [q, q2] at h'; cases h'
        | some ys =>
          rw [q, q2] at h'
          simp only [if_neg hs] at h'
          cases h'
          exact ga_cons (k _ _ q) (stars_ok hK k q2) (star_ok (by simpa using hs))
theorem and_ok {f : Expr → Option Ex} {pos : Pos} (hK : S.K = X.K) : ∀ {es : List Expr} {x : Ex}, (∀ e x, f e = some x → Good S X W C e x) → rdBool f .and es = some x → GE S X W (.BoolOp .And es pos) (iE C x) ∧ GW S X W (.BoolOp .And es pos) (iT C x)
  | [], x, _, h => by cases h
  | [e], x, k, h => ⟨ge_bool1 (fun t ht => pe_one ht) (k e x h).1, gw_and1 (k e x h).2⟩
  | e :: e2 :: es, x, k, h => by
    unfold rdBool at h
    cases q : f e with
    | none => rw [q] at h; cases h
    | some y =>
      cases q2 : rdBool f .and (e2 :: es) with
      | none => rw [q, q2] at h; cases h
      | some z =>
        rw [q, q2] at h
        cases h
        have ih := and_ok (pos := pos) hK k q2
        exact ⟨ge_and hK (k e y q).1 ih.1, gw_and (k e y q).2 ih.2⟩
theorem or_ok {f : Expr → Option Ex} {pos : Pos} (hK : S.K = X.K) : ∀ {es : List Expr} {x : Ex}, (∀ e x, f e = some x → Good S X W C e x) → rdBool f .or es = some x → GE S X W (.BoolOp .Or es pos) (iE C x) ∧ GW S X W (.BoolOp .Or es pos) (iT C x)
  | [], x, _, h => by cases h
  | [e], x, k, h => ⟨ge_bool1 (fun t ht => pe_one ht) (k e x h).1, gw_or1 (k e x h).2⟩
  | e :: e2 :: es, x, k, h => by
    unfold rdBool at h
    cases q : f e with
    | none => rw [q] at h; cases h
    | some y =>
      cases q2 : rdBool f .or (e2 :: es) with
      | none => rw [q, q2] at h; cases h
      | some z =>
        rw [q, q2] at h
        cases h
        have ih := or_ok (pos := pos) hK k q2
        exact ⟨ge_or hK (k e y q).1 ih.1, gw_or (k e y q).2 ih.2⟩
/-- operators -/
theorem bop_ok {c : Bool} {o : Operator} {b : Bop} (hK : S.K = X.K) (h : bopOf c o = some b) : ∃ r, OpR X (binaryOp o) r ∧ OpOk S r b.g := by
  cases o <;> cases h
  · exact ⟨_, op_addA, hK ▸ addOk⟩
  · exact ⟨_, op_sub, subOk⟩
  · exact ⟨_, op_mulA, hK ▸ mulOk⟩
  · exact ⟨_, op_mod, modOk⟩
  · exact ⟨_, op_pow, powOk⟩
  · exact ⟨_, op_fdivW, divOk⟩
theorem cmpI_bl {p : Int → Int → Bool} : ∀ x y M d M', gCmpI p x y M = .ok d M' → ∃ k, d = .bl k := fun x y M d M' h => by
  unfold gCmpI at h
  split at h
  · cases h; exact ⟨_, rfl⟩
  · cases h
theorem cmp_ok {o : CmpOp} {b : Bop} (hK : S.K = X.K) (hu : X.A.units + 65 < cLine) (h : cmpOf o = some b) : ∃ r, OpR X (compareOp o) r ∧ OpOk S r b.g ∧ ∀ x y M d M', b.g x y M = .ok d M' → ∃ k, d = .bl k := by
  cases o <;> cases h
  · refine ⟨_, op_eqA (by omega), hK ▸ eqOk, fun x y M d M' h => ?_⟩
    have h' : gEq x y M = .ok d M' := h
    unfold gEq at h'
    split at h'
    · cases h'; exact ⟨_, rfl⟩
    · cases h'; exact ⟨_, rfl⟩
    · split at h'
      · split at h'
        · cases h'; exact ⟨_, rfl⟩
        · cases h'
      · cases h'
  · refine ⟨_, op_neA (by omega), hK ▸ neOk, fun x y M d M' h => ?_⟩
    have h' : gNe x y M = .ok d M' := h
    unfold gNe at h'
    split at h'
    · cases h'; exact ⟨_, rfl⟩
    · split at h'
      · split at h'
        · cases h'; exact ⟨_, rfl⟩
        · cases h'
      · cases h'
  · exact ⟨_, op_lt, cmpOk _, cmpI_bl⟩
  · exact ⟨_, op_le, cmpOk _, cmpI_bl⟩
  · exact ⟨_, op_gt, cmpOk _, cmpI_bl⟩
  · exact ⟨_, op_ge, cmpOk _, cmpI_bl⟩
  · refine ⟨_, op_isA, isOk, fun x y M d M' h => ?_⟩
    have h' : gIs false x y M = .ok d M' := h
    unfold gIs at h'
    split at h' <;> first | (cases h'; exact ⟨_, rfl⟩) | cases h'
  · refine ⟨_, op_isNA, isNOk, fun x y M d M' h => ?_⟩
    have h' : gIs true x y M = .ok d M' := h
    unfold gIs at h'
    split at h' <;> first | (cases h'; exact ⟨_, rfl⟩) | cases h'
  · refine ⟨_, op_inD hu, hK ▸ inOk, fun x y M d M' h => ?_⟩
    have h' : gIn false x y M = .ok d M' := h
    unfold gIn at h'
    split at h'
    · split at h'
      · cases h'; exact ⟨_, rfl⟩
      · cases h'
    · cases h'
  · refine ⟨_, op_notInD hu, hK ▸ ninOk, fun x y M d M' h => ?_⟩
    have h' : gIn true x y M = .ok d M' := h
    unfold gIn at h'
    split at h'
    · split at h'
      · cases h'; exact ⟨_, rfl⟩
      · cases h'
    · cases h'
theorem max3Ok : ClOk S (rNuC3 nuMax3) gMax3 := by
  intro R W σ F M H ds vs Q s r h
  unfold gMax3 at h
  split at h
  · rename_i i j k
    obtain ⟨v, u, w, rfl, rv, ru, rw'⟩ := rels3 r
    cases int_at rv
    cases int_at ru
    cases int_at rw'
    refine ⟨_, _, _, .int (if k > (if j > i then j else i) then k else (if j > i then j else i)), rfl, ?_, ok_of s (.int _) h⟩
    have n2 : ∀ a b : Int, nuMax2 (V.int a) (V.int b) = some (.int (if b > a then b else a)) := fun a b => by
      show some (if decide (a < b) = true then V.int b else V.int a) = _
      by_cases h : a < b
      · rw [if_pos (decide_eq_true h), if_pos h]
      · rw [if_neg (by simpa using h), if_neg h]
    unfold nuMax3
    rw [n2]
    exact n2 _ _
  · exact h.elim
theorem bltF0_ok {x : Str} {n : Nat} {b : Blt} (hK : S.K = X.K) (hc : X.calm = true) (h : bltF0 x n = some b) (c : Bool) : ∃ id r, CallR X (.builtin id) r ∧ ClOk S r (b.at c).g ∧ bootBuiltins x = some (.builtin id) ∧ x ≠ "__name__" := by
  unfold bltF0 at h
  split at h
  · rename_i e; cases h; exact ⟨_, _, call_len, hK ▸ lenOk, by rw [e.1]; rfl, by rw [e.1]; decide⟩
  · split at h
    · rename_i e; cases h; exact ⟨_, _, call_abs, absOk, by rw [e.1]; rfl, by rw [e.1]; decide⟩
    · split at h
      · rename_i e; cases h; exact ⟨_, _, call_max2 hc, max2Ok, by rw [e.1]; rfl, by rw [e.1]; decide⟩
      · split at h
        · rename_i e; cases h; exact ⟨_, _, call_min2 hc, min2Ok, by rw [e.1]; rfl, by rw [e.1]; decide⟩
        · split at h
          · rename_i e; cases h; exact ⟨_, _, cr_sum hc, hK ▸ sumOk, by rw [e.1]; rfl, by rw [e.1]; decide⟩
          · split at h
            · rename_i e; cases h; exact ⟨_, _, cr_all hc, hK ▸ allOk, by rw [e.1]; rfl, by rw [e.1]; decide⟩
            · split at h
              · rename_i e; cases h; exact ⟨_, _, cr_any hc, hK ▸ anyOk, by rw [e.1]; rfl, by rw [e.1]; decide⟩
              · split at h
                · rename_i e; cases h; exact ⟨_, _, call_isiE, hK ▸ isiEOk, by rw [e.1]; rfl, by rw [e.1]; decide⟩
                · split at h
                  · rename_i e; cases h; exact ⟨_, _, cr_sortedI, hK ▸ sortedOk, by rw [e.1]; rfl, by rw [e.1]; decide⟩
                  · split at h
                    · rename_i e; cases h; exact ⟨_, _, cr_max hc, hK ▸ maxLOk, by rw [e.1]; rfl, by rw [e.1]; decide⟩
                    · split at h
                      · rename_i e; cases h; exact ⟨_, _, cr_min hc, hK ▸ minLOk, by rw [e.1]; rfl, by rw [e.1]; decide⟩
                      · cases h
theorem bltF_ok {x : Str} {n : Nat} {b : Blt} (hK : S.K = X.K) (hc : X.calm = true) (gd : X.A.guards = some []) (hu : X.A.units + 65 < cLine) (h : bltF x n = some b) (c : Bool) : ∃ id r, CallR X (.builtin id) r ∧ ClOk S r (b.at c).g ∧ bootBuiltins x = some (.builtin id) ∧ x ≠ "__name__" := by
  unfold bltF at h
  by_cases e : x = "repr" ∧ n = 1
  · rw [if_pos e] at h
    cases h
    exact ⟨_, _, call_repr gd hu, hK ▸ reprOk, by rw [e.1]; rfl, by rw [e.1]; decide⟩
  · rw [if_neg e] at h
    by_cases e : x = "max" ∧ n = 3
    · rw [if_pos e] at h
      cases h
      exact ⟨_, _, call_max3Nu hc, max3Ok, by rw [e.1]; rfl, by rw [e.1]; decide⟩
    · rw [if_neg e] at h
      exact bltF0_ok hK hc h c
theorem bltI_ok {x : Str} {n : Nat} {b : Blt} {cs : List Str} (hK : S.K = X.K) (hc : X.calm = true) (gd : X.A.guards = some []) (hu : X.A.units + 65 < cLine) (hi : IsiOk S X.K cs) (h : bltF x n = some b) (c : Bool) : ∃ id r, CallR X (.builtin id) r ∧ ClOk S r ((b.at c).io cs).g ∧ bootBuiltins x = some (.builtin id) ∧ x ≠ "__name__" := by
  by_cases e : b = .isi ∧ cs.isEmpty = false
  · obtain ⟨rfl, e2⟩ := e
    have hx : x = "isinstance" := by
      unfold bltF at h
      by_cases e : x = "repr" ∧ n = 1
      · rw [if_pos e] at h; cases h
      · rw [if_neg e] at h
        by_cases e : x = "max" ∧ n = 3
        · rw [if_pos e] at h; cases h
        rw [if_neg e] at h
        unfold bltF0 at h
        repeat' (split at h)
        all_goals first | cases h; done | (rename_i e; exact e.1)
    refine ⟨_, _, call_isiE, ?_, by rw [hx]; rfl, by rw [hx]; decide⟩
    show ClOk S (rIsiE X.K) (Blt.io cs .isi).g
    have e3 : Blt.io cs .isi = .isiO cs := by
      show (if cs.isEmpty = true then Blt.isi else .isiO cs) = _
      rw [e2]; rfl
    rw [e3, ← hK]
    exact isiOOk (hK ▸ hi)
  · have e2 : (b.at c).io cs = b.at c := by
      cases b with
      | isi =>
        show (if cs.isEmpty = true then Blt.isi else .isiO cs) = _
        cases q : cs.isEmpty with
        | true => rfl
        | false => exact (e ⟨rfl, q⟩).elim
      | _ => rfl
    rw [e2]
    exact bltF_ok hK hc gd hu h c
theorem bltT_ok {c : Bool} {x : Str} {n : Nat} {b : Blt} (hK : S.K = X.K) (hc : X.calm = true) (h : bltT c x n = some b) : ∃ id r, CallR X (.type id) r ∧ ClOk S r b.g ∧ bootBuiltins x = some (.type id) ∧ x ≠ "__name__" ∧ (tyOfN x).isSome = true := by
  unfold bltT at h
  split at h
  · rename_i e; cases h; exact ⟨_, _, call_int1, intOk, by rw [e.1]; rfl, by rw [e.1]; decide, by rw [e.1]; rfl⟩
  · split at h
    · rename_i e; cases h; exact ⟨_, _, call_list_of, hK ▸ listOk, by rw [e.1]; rfl, by rw [e.1]; decide, by rw [e.1]; rfl⟩
    · split at h
      · rename_i e; cases h; exact ⟨_, _, call_tuple_of, hK ▸ tupleOk, by rw [e.1]; rfl, by rw [e.1]; decide, by rw [e.1]; rfl⟩
      · split at h
        · rename_i e; cases h; exact ⟨_, _, call_dictP hc, hK ▸ dictOk, by rw [e.1]; rfl, by rw [e.1]; decide, by rw [e.1]; rfl⟩
        · cases h
theorem mth_ok {m : Str} {n : Nat} {b : Mth} (h : mthOf m n = some b) : ∃ id r, Slot "list" m id ∧ typeOf (.builtin id) = pure (.type "method_descriptor") ∧ MtR X id r ∧ MtOk S r b.g := by
  unfold mthOf at h
  split at h
  · rename_i e; cases h; rw [e.1]; exact ⟨_, _, PySem.F.slot_list_append, PySem.F.type_list_append, mt_append, appendOk⟩
  · split at h
    · rename_i e; cases h; rw [e.1]; exact ⟨_, _, PySem.F.slot_list_extend, PySem.F.type_list_extend, mt_extend, extendOk⟩
    · split at h
      · rename_i e; cases h; rw [e.1]; exact ⟨_, _, PySem.F.slot_list_pop, PySem.F.type_list_pop, mt_popAt, popAtOk⟩
      · split at h
        · rename_i e; cases h; rw [e.1]; exact ⟨_, _, PySem.F.slot_list_pop, PySem.F.type_list_pop, mt_pop, popOk⟩
        · split at h
          · rename_i e; cases h; rw [e.1]; exact ⟨_, _, PySem.F.slot_list_reverse, PySem.F.type_list_reverse, mt_reverse, reverseOk⟩
          · split at h
            · rename_i e; cases h; rw [e.1]; exact ⟨_, _, PySem.F.slot_list_clear, PySem.F.type_list_clear, mt_clear, clearOk⟩
            · cases h
end
end En

set_option Elab.async false
set_option linter.all false
set_option maxRecDepth 100000
/-! E11: the rules that were left: backwards, in pairs, chains, ranges as lists. -/
namespace En
open PySem PySem.Spec L2 RT RZ
section
variable {S : Sur} {X : Cx} {W : WX} {a b c e tg : Expr} {fa fb fc fe : FE D} {pos p tpos : Pos}
theorem frzL_at {R : Addr → Prop} {F : Ads} {M : Mem} {H : Hp} {d : D} {v : V} {xs : List D} (r : RelD S R F M H d v) (e : frzL d = some xs) : ∃ a vs, v = .ref a ∧ (∀ F' M' H', Le F M H F' M' H' → SqL S.K H' a vs) ∧ Rels S R F M H xs vs := by
  cases r with
  | lst a ds vs z h n k =>
    cases e
    exact ⟨a, vs, rfl, fun F' M' H' l => .of (z.at l h), n, k⟩
  | scr a ds vs z n k =>
    cases e
    refine ⟨a, vs, rfl, fun F' M' H' l => ?_, n, k⟩
    rcases z with ⟨z, q⟩ | z
    · exact .inl (z.rd l q)
    · exact z H'
  | _ => cases e
theorem gi_rev (hK : S.K = X.K) (hg : Gl X "reversed") (hm : X.mg "reversed" = none) (he : GE S X W e fe) (hs : starEach [e] X.env = (false, eval e X.env) :: starEach [] X.env) : GI S X W tg (.Call (.Name "reversed" p) [e] [] pos) (fRev fe) := fun R => by
  refine PI_imp (pi_revA hg hm (he R) hs) fun σ H Q ⟨F, M, env, s, r, h⟩ => ⟨F, M, env, s, r, (Post.bind h).mono fun F1 M1 H1 d l1 s1 h1 v rv => ?_⟩
  have lists : ∀ {xs : List D}, frzL d = some xs → Post S R W σ F1 M1 H1 (fun F' M' H' w => ∀ J, Wk S R w J F' M' H' → Q J H') (.ok ⟨none, xs.reverse⟩ M1) → ∃ (a : Addr) (xs : List V), v = .ref a ∧ ((SqL X.K H1 a xs ∧ Q (Itv X.K a xs.length) H1) ∨ (SqT X.K H1 a xs ∧ Q (ItvT X.K a xs.length) H1)) := fun {xs} ef h2 => by
    obtain ⟨a, vs, rfl, q, rs⟩ := frzL_at rv ef
    refine ⟨a, vs, rfl, .inl ⟨hK ▸ q _ _ _ .refl, h2 F1 H1 .refl s1 _ fun R' F' M' H' k1 k2 l' s' _ => ?_⟩⟩
    have qq := q F' M' H' l'
    have rs' := (Rels.later rs k2 l').reverse
    have ln : xs.reverse.length = vs.length := by rw [List.length_reverse]; exact rs.1
    refine ⟨fun i hi => ?_, fun i hi => ?_⟩
    · have hi' : i < vs.length := ln ▸ hi
      have hj : vs.length - 1 - i < vs.length := by omega
      refine ⟨⟨hi', vs, vs[vs.length - 1 - i], hK ▸ qq, List.getElem?_eq_getElem hj⟩, fun x H'' ⟨e1, e2⟩ => ?_⟩
      subst e1
      have e3 := e2 vs (hK ▸ qq)
      have e4 : vs.reverse[i]? = some x := by rw [List.getElem?_reverse hi']; exact e3
      obtain ⟨d2, e5, r5⟩ := rs'.get2 e4
      exact ⟨.refl, s', d2, e5, r5⟩
    · have hi' : xs.reverse.length ≤ i := hi
      show vs.length ≤ i
      omega
  cases d with
  | tup ds =>
    cases rv with
    | tup a ds vs z ha n k =>
      have rs : Rels S R F1 M1 H1 ds vs := ⟨n, k⟩
      have h2 : Post S R W σ F1 M1 H1 (fun F' M' H' w => ∀ J, Wk S R w J F' M' H' → Q J H') (.ok ⟨none, ds.reverse⟩ M1) := h1
      refine ⟨a, vs, rfl, .inr ⟨.of ha, h2 F1 H1 .refl s1 _ fun R' F' M' H' k1 k2 l' s' _ => ?_⟩⟩
      have qq : SqT X.K H' a vs := .of (z.at l' ha)
      have rs' := (Rels.later rs k2 l').reverse
      have ln : ds.reverse.length = vs.length := by rw [List.length_reverse]; exact rs.1
      refine ⟨fun i hi => ?_, fun i hi => ?_⟩
      · have hi' : i < vs.length := ln ▸ hi
        have hj : vs.length - 1 - i < vs.length := by omega
        refine ⟨⟨hi', vs, vs[vs.length - 1 - i], qq, List.getElem?_eq_getElem hj⟩, fun x H'' ⟨e1, e2⟩ => ?_⟩
        subst e1
        have e3 := e2 vs qq
        have e4 : vs.reverse[i]? = some x := by rw [List.getElem?_reverse hi']; exact e3
        obtain ⟨d2, e5, r5⟩ := rs'.get2 e4
        exact ⟨.refl, s', d2, e5, r5⟩
      · have hi' : ds.reverse.length ≤ i := hi
        show vs.length ≤ i
        omega
  | lst ds => exact lists rfl h1
  | scr ds => exact lists rfl h1
  | _ => exact h1.elim
/-- a new pair at each turn -/
theorem pair_new {R : Addr → Prop} {F : Ads} {M : Mem} {H : Hp} {d1 d2 : D} {v1 v2 : V} {T : Addr} (s : Sim S R F M H) (hT : H T = none) (r1 : RelD S R F M H d1 v1) (r2 : RelD S R F M H d2 v2) :
    Le F M H F M (upd H T (.tup [v1, v2])) ∧ Sim S R F M (upd H T (.tup [v1, v2])) ∧ RelD S R F M (upd H T (.tup [v1, v2])) (.tup [d1, d2]) (.ref T) := by
  have l : Le F M H F M (upd H T (.tup [v1, v2])) := Le.new hT
  have rs : Rels S R F M (upd H T (.tup [v1, v2])) [d1, d2] [v1, v2] := .cons (r1.mono l) (.cons (r2.mono l) .nil)
  exact ⟨l, s.new hT, .tup T _ _ (Fz.new s hT) upd_same rs.1 rs.2⟩
theorem enumD_len : ∀ (n : Nat) (xs : List D), (enumD n xs).length = xs.length
  | _, [] => rfl
  | n, x :: xs => by simp [enumD, enumD_len (n + 1) xs]
theorem enumD_at : ∀ {n : Nat} {xs : List D} {i : Nat} {d : D}, xs[i]? = some d → (enumD n xs)[i]? = some (.tup [.int ((n + i : Nat) : Int), d])
  | n, [], i, d, h => by simp at h
  | n, x :: xs, 0, d, h => by simp at h; subst h; rfl
  | n, x :: xs, i + 1, d, h => by
    have q := enumD_at (n := n + 1) (xs := xs) (i := i) (d := d) (by simpa using h)
    have e : n + 1 + i = n + (i + 1) := by omega
    show (enumD (n + 1) xs)[i]? = _
    rw [q, e]
theorem gi_enum {elts : List Expr} {kk : Nat} {fa : FE (List D)} (hK : S.K = X.K) (hg : Gl X "enumerate") (hm : X.mg "enumerate" = none) (ha : GA S X W [e] fa) (hs : starEach [e] X.env = [(false, eval e X.env)]) : GI S X W (.Tuple elts kk tpos) (.Call (.Name "enumerate" p) [e] [] pos) (fWds gEnum fa) := fun R => by
  refine PI_imp (pi_enumA hg hm (ha R) hs) fun σ H Q ⟨F, M, env, s, r, h⟩ => ⟨F, M, env, s, r, (Post.bind h).mono fun F1 M1 H1 ds l1 s1 h1 vs rs => ?_⟩
  unfold gEnum at h1
  split at h1
  · rename_i xs
    obtain ⟨v, rfl, rv⟩ := rels1 rs
    cases rv with
    | tup a xs vs z ha n k =>
      refine ⟨a, vs, rfl, .inr ⟨.of ha, h1 F1 H1 .refl s1 _ fun R' F' M' H' k1 k2 l' s' _ => ?_⟩⟩
      have qq : SqT X.K H' a vs := .of (z.at l' ha)
      have rs' := Rels.later (⟨n, k⟩ : Rels S R F1 M1 H1 xs vs) k2 l'
      refine ⟨fun i hi => ?_, fun i hi => ?_⟩
      · have hi' : i < xs.length := by simpa [enumD_len] using hi
        have hi2 : i < vs.length := rs'.1 ▸ hi'
        refine ⟨⟨vs, vs[i], qq, by simp [hi2]⟩, fun x H'' ⟨T, y, ex, hT, eH, ey⟩ => ?_⟩
        subst ex eH
        obtain ⟨d2, e5, r5⟩ := rs'.get2 (ey vs qq)
        obtain ⟨l3, s3, r3⟩ := pair_new s' hT (.int ((i : Nat) : Int)) r5
        refine ⟨l3, s3, _, ?_, r3⟩
        have := enumD_at (n := 0) e5
        simpa using this
      · have hi' : xs.length ≤ i := by simpa [enumD_len] using hi
        exact ⟨vs, qq, rs'.1 ▸ hi'⟩
  · rename_i d _
    obtain ⟨v, rfl, rv⟩ := rels1 rs
    split at h1
    · rename_i xs ef
      obtain ⟨a, vs, rfl, q, rx⟩ := frzL_at rv ef
      refine ⟨a, vs, rfl, .inl ⟨hK ▸ q _ _ _ .refl, h1 F1 H1 .refl s1 _ fun R' F' M' H' k1 k2 l' s' _ => ?_⟩⟩
      have qq := q F' M' H' l'
      have rs' := Rels.later rx k2 l'
      refine ⟨fun i hi => ?_, fun i hi => ?_⟩
      · have hi' : i < xs.length := by simpa [enumD_len] using hi
        have hi2 : i < vs.length := rs'.1 ▸ hi'
        refine ⟨⟨vs, vs[i], hK ▸ qq, by simp [hi2]⟩, fun x H'' ⟨T, y, ex, hT, eH, ey⟩ => ?_⟩
        subst ex eH
        obtain ⟨d2, e5, r5⟩ := rs'.get2 (ey vs (hK ▸ qq))
        obtain ⟨l3, s3, r3⟩ := pair_new s' hT (.int ((i : Nat) : Int)) r5
        refine ⟨l3, s3, _, ?_, r3⟩
        have := enumD_at (n := 0) e5
        simpa using this
      · have hi' : xs.length ≤ i := by simpa [enumD_len] using hi
        exact ⟨vs, hK ▸ qq, rs'.1 ▸ hi'⟩
    · exact h1.elim
  · exact h1.elim
theorem zipD_len : ∀ (xs ys : List D), (zipD xs ys).length = min xs.length ys.length
  | [], ys => by simp [zipD]
  | x :: xs, [] => by simp [zipD]
  | x :: xs, y :: ys => by simp [zipD, zipD_len xs ys]
theorem zipD_at : ∀ {xs ys : List D} {i : Nat} {d e : D}, xs[i]? = some d → ys[i]? = some e → (zipD xs ys)[i]? = some (.tup [d, e])
  | [], ys, i, d, e, h, _ => by simp at h
  | x :: xs, [], i, d, e, _, h => by simp at h
  | x :: xs, y :: ys, 0, d, e, h, h2 => by simp at h h2; subst h h2; rfl
  | x :: xs, y :: ys, i + 1, d, e, h, h2 => by
    show (zipD xs ys)[i]? = _
    exact zipD_at (by simpa using h) (by simpa using h2)
theorem gi_zip {elts : List Expr} {kk : Nat} {fa : FE (List D)} (hK : S.K = X.K) (hg : Gl X "zip") (hm : X.mg "zip" = none) (ha : GA S X W [a, b] fa) (hs : starEach [a, b] X.env = (false, eval a X.env) :: starEach [b] X.env) (hpl : (backTo pos (starEach [b] X.env)).any (·.1) = false) :
    GI S X W (.Tuple elts kk tpos) (.Call (.Name "zip" p) [a, b] [] pos) (fWds gZip fa) := fun R => by
  refine PI_imp (pi_zipA hg hm (ha R) hs hpl) fun σ H Q ⟨F, M, env, s, r, h⟩ => ⟨F, M, env, s, r, (Post.bind h).mono fun F1 M1 H1 ds l1 s1 h1 vs rs => ?_⟩
  unfold gZip at h1
  split at h1
  · rename_i xs ys
    obtain ⟨v, u, rfl, rv, ru⟩ := rels2 rs
    cases rv with
    | tup a xs vs z ha n k =>
      cases ru with
      | tup b ys us z2 hb n2 k2 =>
        refine ⟨a, b, vs, us, rfl, .inr ⟨.of ha, .of hb, h1 F1 H1 .refl s1 _ fun R' F' M' H' k1 k2' l' s' _ => ?_⟩⟩
        have q1 : SqT X.K H' a vs := .of (z.at l' ha)
        have q2 : SqT X.K H' b us := .of (z2.at l' hb)
        have rs1 := Rels.later (⟨n, k⟩ : Rels S R F1 M1 H1 xs vs) k2' l'
        have rs2 := Rels.later (⟨n2, k2⟩ : Rels S R F1 M1 H1 ys us) k2' l'
        refine ⟨fun i hi => ?_, fun i hi => ?_⟩
        · rw [zipD_len] at hi
          have h3 : i < vs.length := by rw [← rs1.1]; omega
          have h4 : i < us.length := by rw [← rs2.1]; omega
          refine ⟨⟨vs, us, vs[i], us[i], q1, q2, by simp [h3], by simp [h4]⟩, fun x H'' ⟨T, y1, y2, ex, hT, eH, e1, e2⟩ => ?_⟩
          subst ex eH
          obtain ⟨d1, f1, g1⟩ := rs1.get2 (e1 vs q1)
          obtain ⟨d2, f2, g2⟩ := rs2.get2 (e2 us q2)
          obtain ⟨l3, s3, r3⟩ := pair_new s' hT g1 g2
          exact ⟨l3, s3, _, zipD_at f1 f2, r3⟩
        · rw [zipD_len] at hi
          refine ⟨vs, us, q1, q2, ?_⟩
          rw [← rs1.1, ← rs2.1]
          omega
  · rename_i x y _
    obtain ⟨v, u, rfl, rv, ru⟩ := rels2 rs
    split at h1
    · rename_i xs ys e1 e2
      obtain ⟨a, vs, rfl, q1, rx⟩ := frzL_at rv e1
      obtain ⟨b, us, rfl, q2, ry⟩ := frzL_at ru e2
      refine ⟨a, b, vs, us, rfl, .inl ⟨hK ▸ q1 _ _ _ .refl, hK ▸ q2 _ _ _ .refl, h1 F1 H1 .refl s1 _ fun R' F' M' H' k1 k2' l' s' _ => ?_⟩⟩
      have p1 := q1 F' M' H' l'
      have p2 := q2 F' M' H' l'
      rw [hK] at p1 p2
      have rs1 := Rels.later rx k2' l'
      have rs2 := Rels.later ry k2' l'
      refine ⟨fun i hi => ?_, fun i hi => ?_⟩
      · rw [zipD_len] at hi
        have h3 : i < vs.length := by rw [← rs1.1]; omega
        have h4 : i < us.length := by rw [← rs2.1]; omega
        refine ⟨⟨vs, us, vs[i], us[i], p1, p2, by simp [h3], by simp [h4]⟩, fun x H'' ⟨T, y1, y2, ex, hT, eH, e1, e2⟩ => ?_⟩
        subst ex eH
        obtain ⟨d1, f1, g1⟩ := rs1.get2 (e1 vs p1)
        obtain ⟨d2, f2, g2⟩ := rs2.get2 (e2 us p2)
        obtain ⟨l3, s3, r3⟩ := pair_new s' hT g1 g2
        exact ⟨l3, s3, _, zipD_at f1 f2, r3⟩
      · rw [zipD_len] at hi
        refine ⟨vs, us, p1, p2, ?_⟩
        rw [← rs1.1, ← rs2.1]
        omega
    · exact h1.elim
  · exact h1.elim
/-! chains -/
theorem rd_chain {R : Addr → Prop} {σ : L2.St} {H : Hp} {Q : VK} {r r' : R2} {g h : D → D → Mem → Res D} (hg : OpOk S r g) (hh : OpOk S r' h) (q : rdE S R W (fChain g h fa fb fc) σ H Q) : tChain r r' (rdE S R W fa) (rdE S R W fb) (rdE S R W fc) σ H Q := by
  obtain ⟨F, M, env, s, e, h0⟩ := q
  refine ⟨F, M, env, s, e, (Post.bind h0).mono fun F1 M1 H1 dx l1 s1 h1 x rx => ?_⟩
  refine ⟨F1, M1, env, s1, e.mono l1, (Post.bind h1).mono fun F2 M2 H2 dy l2 s2 h2 y ry => ?_⟩
  refine hg R W σ F2 M2 H2 dx dy x y _ s2 (rx.mono l2) ry ((Post.bind h2).mono fun F3 M3 H3 dz l3 s3 h3 z rz => ?_)
  split at h3
  · cases bl_at rz
    refine ⟨true, rfl, ?_⟩
    refine iteT ⟨F3, M3, env, s3, ((e.mono l1).mono l2).mono l3, (Post.bind h3).mono fun F4 M4 H4 du l4 s4 h4 u ru => ?_⟩
    exact hh R W σ F4 M4 H4 dy du y u Q s4 ((ry.mono l3).mono l4) ru h4
  · cases bl_at rz
    exact ⟨false, rfl, iteF (ok_of s3 (.bl _) h3)⟩
  · exact h3.elim
theorem ge_chain {o o' : CmpOp} {r r' : R2} {g h : D → D → Mem → Res D} (ho : OpR X (compareOp o) r) (ho' : OpR X (compareOp o') r') (hg : OpOk S r g) (hh : OpOk S r' h) (ha : GE S X W a fa) (hb : GE S X W b fb) (hc : GE S X W c fc) (hm : lastMarks [o, o'] [b, c] = false) :
    GE S X W (.Compare a [o, o'] [b, c] pos) (fChain g h fa fb fc) := fun R => PE_imp (pe_chain ho ho' (ha R) (hb R) (hc R) hm) fun σ H Q q => rd_chain hg hh q
theorem chain_bl {g h : D → D → Mem → Res D} (hh : ∀ x y M d M', h x y M = .ok d M' → ∃ k, d = .bl k) : ∀ env M d M', fChain g h fa fb fc env M = .ok d M' → ∃ k, d = .bl k := fun env M d M' q => by
  unfold fChain at q
  cases e1 : fa env M with
  | ok x M1 =>
    rw [e1, Res.bind_ok] at q
    cases e2 : fb env M1 with
    | ok y M2 =>
      rw [e2, Res.bind_ok] at q
      cases e3 : g x y M2 with
      | ok z M3 =>
        rw [e3, Res.bind_ok] at q
        split at q
        · cases e4 : fc env M3 with
          | ok u M4 => rw [e4, Res.bind_ok] at q; exact hh _ _ _ _ _ q
          | exc => rw [e4] at q; cases q
          | bad => rw [e4] at q; cases q
        · cases q; exact ⟨_, rfl⟩
        · cases q
      | exc => rw [e3] at q; cases q
      | bad => rw [e3] at q; cases q
    | exc => rw [e2] at q; cases q
    | bad => rw [e2] at q; cases q
  | exc => rw [e1] at q; cases q
  | bad => rw [e1] at q; cases q
theorem gt_chain {o o' : CmpOp} {r r' : R2} {g h : D → D → Mem → Res D} (ho : OpR X (compareOp o) r) (ho' : OpR X (compareOp o') r') (hg : OpOk S r g) (hh : OpOk S r' h) (hb' : ∀ x y M d M', h x y M = .ok d M' → ∃ k, d = .bl k) (ha : GE S X W a fa) (hb : GE S X W b fb) (hc : GE S X W c fc) (hm : lastMarks [o, o'] [b, c] = false) :
    GT S X W (.Compare a [o, o'] [b, c] pos) (fTru (fChain g h fa fb fc)) := fun R => by
  refine PT_imp (pt_chain ho ho' (ha R) (hb R) (hc R) hm) fun σ H Q ⟨F, M, env, s, e, q⟩ => ?_
  refine rd_chain (Q := fun v H' => ∃ k, v = .bl k ∧ Q k H') hg hh ⟨F, M, env, s, e, ?_⟩
  have q' := Post.bind q
  cases e1 : fChain g h fa fb fc env M with
  | ok d M' =>
    obtain ⟨k, ek⟩ := chain_bl hb' env M d M' e1
    rw [e1] at q'
    subst ek
    intro F' H' l s' v rv
    cases bl_at rv
    exact ⟨k, rfl, q' F' H' l s' F' H' .refl s'⟩
  | exc c fs M' => rw [e1] at q'; exact q'
  | bad => rw [e1] at q'; exact q'
/-! list(range(..)) -/
theorem rgV_rel {R : Addr → Prop} {F : Ads} {M : Mem} {H : Hp} (lo hi : Int) : Rels S R F M H (rngD lo (hi - lo).toNat) (rgV lo hi) := by
  have e : rgV lo hi = (List.range (hi - lo).toNat).map fun (i : Nat) => V.int (lo + (i : Int)) := rfl
  rw [e]
  unfold rngD
  refine ⟨by simp, fun i d v h1 h2 => ?_⟩
  rw [List.getElem?_map] at h1 h2
  cases q : (List.range (hi - lo).toNat)[i]? with
  | none => rw [q] at h1; cases h1
  | some j => rw [q] at h1 h2; cases h1; cases h2; exact .int _
theorem ge_rng1 {cl : Bool} (hc : X.calm = true) (hg : Gl X "list") (hm : X.mg "list" = none) (hg2 : Gl X "range") (hm2 : X.mg "range" = none) (ha : GE S X W a fa) {p2 pos2 : Pos} (na : starEach [a] X.env = (false, eval a X.env) :: starEach [] X.env) :
    GE S X W (.Call (.Name "list" p) [.Call (.Name "range" p2) [a] [] pos2] [] pos) (fCl (gRngL cl) (fCons fa fNil)) := fun R => by
  refine PE_imp (pe_listRg hc hg hm (prg_1 hg2 hm2 (ha R) na) rfl) fun σ H Q ⟨F, M, env, s, e, h⟩ => ?_
  have h' := Post.bind (Post.bind h)
  refine ⟨F, M, env, s, e, h'.mono fun F1 M1 H1 d l1 s1 h1 v rv => ?_⟩
  have h2 : Post S R W σ F1 M1 H1 (KE S R Q) (gRngL cl [d] M1) := Post.bind1 h1 s1
  unfold gRngL at h2
  split at h2
  · rename_i j e0
    cases e0
    cases int_at rv
    split at h2
    · refine ⟨j, rfl, ⟨by omega, by omega, by omega, by omega, by omega⟩, fun q hq => ?_⟩
      have rr := rgV_rel (S := S) (R := R) (F := F1) (M := M1) (H := H1) 0 j
      rw [Int.sub_zero] at rr
      exact fin_ok s1 rr h2 hq
    · exact h2.elim
  · rename_i e0; cases e0
  · exact h2.elim
theorem ge_rng2 {cl : Bool} (hc : X.calm = true) (hg : Gl X "list") (hm : X.mg "list" = none) (hg2 : Gl X "range") (hm2 : X.mg "range" = none) (ha : GE S X W a fa) (hb : GE S X W b fb) {p2 pos2 : Pos} (na : starEach [a, b] X.env = (false, eval a X.env) :: starEach [b] X.env) (nb : starEach [b] X.env = (false, eval b X.env) :: starEach [] X.env) (hp : (backTo pos2 (starEach [b] X.env)).any (·.1) = false) (hn : starEach [.Call (.Name "range" p2) [a, b] [] pos2] X.env = (false, eval (.Call (.Name "range" p2) [a, b] [] pos2) X.env) :: starEach [] X.env) :
    GE S X W (.Call (.Name "list" p) [.Call (.Name "range" p2) [a, b] [] pos2] [] pos) (fCl (gRngL cl) (fCons fa (fCons fb fNil))) := fun R => by
  refine PE_imp (pe_listRg hc hg hm (prg_2 hg2 hm2 (ha R) (hb R) na nb hp) hn) fun σ H Q ⟨F, M, env, s, e, h⟩ => ?_
  have h' := Post.bind (Post.bind h)
  refine ⟨F, M, env, s, e, h'.mono fun F1 M1 H1 d l1 s1 h1 v rv => ?_⟩
  have h2 := Post.bind (Post.bind h1)
  refine ⟨F1, M1, env, s1, e.mono l1, h2.mono fun F2 M2 H2 d2 l2 s2 h3 u ru => ?_⟩
  have h4 : Post S R W σ F2 M2 H2 (KE S R Q) (gRngL cl [d, d2] M2) := h3 F2 H2 .refl s2 F2 H2 .refl s2
  have rv2 := rv.mono l2
  unfold gRngL at h4
  split at h4
  · rename_i e0; cases e0
  · rename_i i j e0
    cases e0
    cases int_at rv2
    cases int_at ru
    split at h4
    · exact ⟨i, j, rfl, rfl, ⟨by omega, by omega, by omega, by omega, by omega⟩, fun q hq => fin_ok s2 (rgV_rel i j) h4 hq⟩
    · exact h4.elim
  · exact h4.elim
end
end En

set_option Elab.async false
set_option linter.all false
set_option maxRecDepth 100000
/-! E12: what is read is what the text does: all expressions. -/
namespace En
open PySem PySem.Spec L2 RT RZ
section
variable {S : Sur} {tb : Tb} {C : CT} {k : Nat}
theorem opt_ok {X : Cx} {W : WX} {f : Expr → Option Ex} {o : Option Expr} {y : Option Ex} (k : ∀ e x, f e = some x → GE S X W e (iE C x)) (h : rdOpt f o = some y) : GO S X W o (iO C (toExo y)) := by
  cases o with
  | none => cases h; exact go_no
  | some e =>
    have h : (f e).map some = some y := h
    cases q : f e with
    | none => rw [q] at h; cases h
    | some x => rw [q] at h; cases h; exact go_part (k e x q)
theorem kws_ok {X : Cx} {W : WX} {f : Expr → Option Ex} (k : ∀ e x, f e = some x → GE S X W e (iE C x)) : ∀ {kws : List Keyword} {xs : List Ex}, rdKws f kws = some xs → GK S X W kws (iEs C (.ofList xs)) ∧
    (∀ (env : Env) (pos : Pos), (backToKw pos (keywordEach kws env)).all (·.1.isSome) = true ∧ (backToKw pos (keywordEach kws env)).filterMap (·.1) = kwNames kws ∧ (backToKw pos (keywordEach kws env)).any (·.1.isNone) = false) ∧ kws.length = xs.length ∧ (kwNames kws).length = kws.length
  | [], xs, h => by cases h; exact ⟨gk_nil, fun _ _ => ⟨rfl, rfl, rfl⟩, rfl, rfl⟩
  | ⟨some nm, e, p⟩ :: kws, xs, h => by
    unfold rdKws at h
    cases q : f e with
    | none => rw [q] at h; cases h
    | some y =>
      cases q2 : rdKws f kws with
      | none => rw [q, q2] at h; cases h
      | some ys =>
        rw [q, q2] at h
        cases h
        obtain ⟨h1, h2, h3, h4⟩ := kws_ok k q2
        refine ⟨gk_cons (k e y q) h1, fun env pos => ?_, by simp [h3], (by show (kwNames kws).length + 1 = kws.length + 1; rw [h4])⟩
        obtain ⟨g1, g2, g3⟩ := h2 env pos
        refine ⟨?_, ?_, ?_⟩
        · show (true && (backToKw pos (keywordEach kws env)).all (·.1.isSome)) = true
          rw [g1]; rfl
        · show nm :: (backToKw pos (keywordEach kws env)).filterMap (·.1) = nm :: kwNames kws
          rw [g2]
        · show (false || (backToKw pos (keywordEach kws env)).any (·.1.isNone)) = false
          rw [g3]; rfl
  | ⟨none, e, p⟩ :: kws, xs, h => by cases h
theorem cW_ok {X : Cx} {W : WX} {sc : Scope} {f : Expr → Option Ex} (c : CtxE S tb C k W X) (hs : X.env.scope = sc) (hf : ∀ e x, f e = some x → GE S X W e (iE C x)) {it : Expr} {w : Wx} (h : cW f sc it = some w) (tg : Expr) (htg : ∀ es, (w = .enum es ∨ w = .zip es) → ∃ elts kk tp, tg = .Tuple elts kk tp) : GI S X W tg it (iW C w) ∧ ∀ x, foldedSetIterable it X.env x = pure x := by
  have sq : ∀ {it : Expr} {w : Wx}, isSetE it = false → (f it).map Wx.seq = some w → GI S X W tg it (iW C w) ∧ ∀ x, foldedSetIterable it X.env x = pure x := fun {it w} hset q => by
    cases q1 : f it with
    | none => rw [q1] at q; cases q
    | some y => rw [q1] at q; cases q; exact ⟨gi_seq c.K (hf it y q1), set_ok hset⟩
  unfold cW at h
  split at h
  · rename_i x p a pos
    split at h
    · rename_i hx
      obtain ⟨hg, ha, hx⟩ := hx
      subst hx
      cases q : f a with
      | none => rw [q] at h; cases h
      | some y =>
        rw [q] at h
        cases h
        exact ⟨gi_rng1 (gl_of hs hg) (c.blt _ (.inr (.inr (.inl rfl)))) (ga_cons (hf a y q) ga_nil (star_ok ha)) (star_ok ha), fun x => rfl⟩
    · split at h
      · rename_i hx
        obtain ⟨hg, ha, hx⟩ := hx
        subst hx
        cases q : f a with
        | none => rw [q] at h; cases h
        | some y =>
          rw [q] at h
          cases h
          exact ⟨gi_rev c.K (gl_of hs hg) (c.blt _ (.inr (.inr (.inr (.inl rfl))))) (hf a y q) (star_ok ha), fun x => rfl⟩
      · split at h
        · rename_i hx
          obtain ⟨hg, ha, hx⟩ := hx
          subst hx
          cases q : f a with
          | none => rw [q] at h; cases h
          | some y =>
            rw [q] at h
            cases h
            obtain ⟨elts, kk, tp, rfl⟩ := htg _ (.inl rfl)
            exact ⟨gi_enum c.K (gl_of hs hg) (c.blt _ (.inr (.inr (.inr (.inr (.inl rfl)))))) (ga_cons (hf a y q) ga_nil (star_ok ha)) (star_ok ha), fun x => rfl⟩
        · exact sq rfl h
  · rename_i x p a b pos
    split at h
    · rename_i hx
      obtain ⟨hg, ha, hb, hx⟩ := hx
      subst hx
      cases q : f a with
      | none => rw [q] at h; cases h
      | some y =>
        cases q2 : f b with
        | none => rw [q, q2] at h; cases h
        | some z =>
          rw [q, q2] at h
          cases h
          refine ⟨gi_rng2 (gl_of hs hg) (c.blt _ (.inr (.inr (.inl rfl)))) (ga_cons (hf a y q) (ga_cons (hf b z q2) ga_nil (star_ok hb)) (star_ok ha)) ?_ (star_ok hb), fun x => rfl⟩
          rw [star_ok ha, star_ok hb]; rfl
    · split at h
      · rename_i hx
        obtain ⟨hg, ha, hb, hx⟩ := hx
        subst hx
        cases q : f a with
        | none => rw [q] at h; cases h
        | some y =>
          cases q2 : f b with
          | none => rw [q, q2] at h; cases h
          | some z =>
            rw [q, q2] at h
            cases h
            obtain ⟨elts, kk, tp, rfl⟩ := htg _ (.inr rfl)
            refine ⟨gi_zip c.K (gl_of hs hg) (c.blt _ (.inr (.inr (.inr (.inr (.inr rfl)))))) (ga_cons (hf a y q) (ga_cons (hf b z q2) ga_nil (star_ok hb)) (star_ok ha)) (star_ok ha) ?_, fun x => rfl⟩
            rw [star_ok hb]; rfl
      · exact sq rfl h
  · rename_i x p a b d pos
    split at h
    · rename_i hx
      obtain ⟨hg, ha, hb, hd, hx⟩ := hx
      subst hx
      cases q : f a with
      | none => rw [q] at h; cases h
      | some y =>
        cases q2 : f b with
        | none => rw [q, q2] at h; cases h
        | some z =>
          cases q3 : f d with
          | none => rw [q, q2, q3] at h; cases h
          | some u =>
            rw [q, q2, q3] at h
            cases h
            refine ⟨gi_rng3 (gl_of hs hg) (c.blt _ (.inr (.inr (.inl rfl)))) (ga_cons (hf a y q) (ga_cons (hf b z q2) (ga_cons (hf d u q3) ga_nil (star_ok hd)) (star_ok hb)) (star_ok ha)) (star_ok ha) ?_, fun x => rfl⟩
            rw [star_ok hb, star_ok hd]; rfl
    · exact sq rfl h
  · split at h
    · cases h
    · rename_i hset
      exact sq (by simpa using hset) h
theorem tn_slots {N : List Str} {tg : Expr} {t : Tn} (h : tnOf N tg = some t) : ∀ i ∈ t.slots, i ∈ (ownOf N tg).map (·.2) := by
  unfold tnOf at h
  split at h
  · rename_i x p
    cases q : slotOf N x with
    | none => rw [q] at h; cases h
    | some i =>
      rw [q] at h
      cases h
      intro j hj
      have : j = i := by simpa [Tn.slots] using hj
      subst this
      simp [ownOf, tgNames, q]
  · rename_i es kk p
    cases q : rdAll (nmSlot N) es with
    | none => rw [q] at h; cases h
    | some is =>
      rw [q] at h
      cases h
      have go : ∀ {es : List Expr} {is : List Nat}, rdAll (nmSlot N) es = some is → ∀ i ∈ is, i ∈ ((es.filterMap nmName).filterMap fun x => (slotOf N x).map fun i => (x, i)).map (·.2) := by
        intro es
        induction es with
        | nil => intro is h i hi; cases h; cases hi
        | cons e es ih =>
          intro is h i hi
          unfold rdAll at h
          cases e with
          | Name x p =>
            have e1 : nmSlot N (.Name x p) = slotOf N x := rfl
            rw [e1] at h
            cases q1 : slotOf N x with
            | none => rw [q1] at h; cases h
            | some j =>
              cases q2 : rdAll (nmSlot N) es with
              | none => rw [q1, q2] at h; cases h
              | some js =>
                rw [q1, q2] at h
                cases h
                have e2 : ((Expr.Name x p :: es).filterMap nmName) = x :: es.filterMap nmName := rfl
                rw [e2, List.filterMap_cons, q1]
                rcases List.mem_cons.mp hi with rfl | hi
                · exact List.mem_cons_self
                · exact List.mem_cons_of_mem _ (ih q2 i hi)
          | _ => cases h
      exact go q
  · cases h
/-- a comprehension's targets in its block -/
theorem tn_pg {X : Cx} {N : List Str} {tg : Expr} {t : Tn} {s : Shared} {H : Hp} {scope : Scope} {cl : List (Str × Addr)} {Ca : Addr} {fp : List Addr} (hN : X.N = N) (nd : X.N.Nodup) (calm : X.calm = true) (h : tnOf N tg = some t)
    (hl : (tgNames tg).all (fun x => scope.names.lookup x == some .local || scope.names.lookup x == some .cell) = true) : PG (X.blk s H scope (compEnvC scope cl Ca X.env) fp) tg (tnG X.K t) := by
  have one : ∀ {x : Str} {p : Pos} {i : Nat}, slotOf N x = some i → (scope.names.lookup x == some NameKind.local || scope.names.lookup x == some NameKind.cell) = true → PG (X.blk s H scope (compEnvC scope cl Ca X.env) fp) (.Name x p) (L2.gName i) := fun {x p i} q hx => by
    have loc : scope.names.lookup x = some .local ∨ scope.names.lookup x = some .cell := by simpa using hx
    have loc2 : (relS scope X.env.scope).names.lookup x = scope.names.lookup x := by
      show List.lookup x (scope.names.map _) = _
      have gen : ∀ (ns : List (Str × NameKind)), (ns.lookup x = some .local ∨ ns.lookup x = some .cell) → List.lookup x (ns.map fun (n, k) => if (k == .free && X.env.scope.kind == .function && X.env.scope.names.lookup n == some .cell) then (n, .cell) else (n, k)) = ns.lookup x := by
        intro ns
        induction ns with
        | nil => intro _; rfl
        | cons p ns ih =>
          obtain ⟨n, k⟩ := p
          intro hq
          rw [List.lookup_cons] at hq
          show List.lookup x ((if (k == .free && X.env.scope.kind == .function && X.env.scope.names.lookup n == some .cell) then (n, .cell) else (n, k)) :: ns.map fun (n, k) => if (k == .free && X.env.scope.kind == .function && X.env.scope.names.lookup n == some .cell) then (n, .cell) else (n, k)) = _
          cases e : x == n with
          | true =>
            rw [e] at hq
            have hk : (k == .free && X.env.scope.kind == .function && X.env.scope.names.lookup n == some .cell) = false := by
              rcases hq with hq | hq <;> (cases hq; rfl)
            rw [if_neg (by rw [hk]; exact Bool.false_ne_true), List.lookup_cons, List.lookup_cons, e]
          | false =>
            rw [e] at hq
            have e3 : List.lookup x ((n, k) :: ns) = List.lookup x ns := by rw [List.lookup_cons, e]
            rw [e3]
            refine Eq.trans ?_ (ih hq)
            by_cases hc : (k == NameKind.free && X.env.scope.kind == .function && X.env.scope.names.lookup n == some NameKind.cell) = true
            · rw [if_pos hc, List.lookup_cons, e]
            · rw [if_neg hc, List.lookup_cons, e]
      exact gen scope.names loc
    refine pg_name (X := X.blk s H scope (compEnvC scope cl Ca X.env) fp) nd (by rw [hN]; exact slot_of q) ?_ ?_
    · show L2.Loc (relS scope X.env.scope) x
      unfold L2.Loc
      rw [loc2]; exact loc
    · rcases loc with z | z
      · exact .inr (show (relS scope X.env.scope).names.lookup x = _ from loc2.trans z)
      · refine .inl ?_
        show (scope.names.lookup x == some .cell) = true
        rw [z]; rfl
  unfold tnOf at h
  split at h
  · rename_i x p
    cases q : slotOf N x with
    | none => rw [q] at h; cases h
    | some i =>
      rw [q] at h
      cases h
      exact one q (by simpa [tgNames] using hl)
  · rename_i es kk p
    cases q : rdAll (nmSlot N) es with
    | none => rw [q] at h; cases h
    | some is =>
      rw [q] at h
      cases h
      have go : ∀ {es : List Expr} {is : List Nat}, rdAll (nmSlot N) es = some is → ((es.filterMap nmName).all fun x => scope.names.lookup x == some .local || scope.names.lookup x == some .cell) = true →
          PGs (X.blk s H scope (compEnvC scope cl Ca X.env) fp) es (tnGs is) ∧ (∀ env : Env, (assignEach es env).length = is.length ∧ (assignEach es env).findIdx? (·.1) = none) := by
        intro es
        induction es with
        | nil => intro is h _; cases h; exact ⟨pgs_nil, fun _ => ⟨rfl, rfl⟩⟩
        | cons e es ih =>
          intro is h hl
          unfold rdAll at h
          cases e with
          | Name x p =>
            have e1 : nmSlot N (.Name x p) = slotOf N x := rfl
            rw [e1] at h
            cases q1 : slotOf N x with
            | none => rw [q1] at h; cases h
            | some j =>
              cases q2 : rdAll (nmSlot N) es with
              | none => rw [q1, q2] at h; cases h
              | some js =>
                rw [q1, q2] at h
                cases h
                have e2 : ((Expr.Name x p :: es).filterMap nmName) = x :: es.filterMap nmName := rfl
                rw [e2, List.all_cons, Bool.and_eq_true] at hl
                obtain ⟨g1, g2⟩ := ih q2 hl.2
                refine ⟨pgs_cons (one q1 hl.1) g1, fun env => ?_⟩
                obtain ⟨f1, f2⟩ := g2 env
                refine ⟨?_, ?_⟩
                · show (assignEach es env).length + 1 = js.length + 1
                  rw [f1]
                · show List.findIdx? (·.1) ((false, assign (.Name x p) env) :: assignEach es env) = none
                  rw [List.findIdx?_cons]
                  simp [f2]
          | _ => cases h
      obtain ⟨g1, g2⟩ := go q hl
      exact pg_tup (X := X.blk s H scope (compEnvC scope cl Ca X.env) fp) calm g1 (g2 _).1 (g2 _).2
  · cases h
theorem rng3Args_ok {sc : Scope} {x : Str} {a : Expr} {es args : List Expr} (h : rng3Args sc x a es = some args) :
    ∃ a1 a2 a3 p2 pos2, (x = "list" ∨ x = "len") ∧ a = .Call (.Name "range" p2) [a1, a2, a3] [] pos2 ∧ es = [] ∧ glB sc "range" = true ∧ isStarred a1 = false ∧ isStarred a2 = false ∧ isStarred a3 = false ∧ args = [a1, a2, a3] := by
  unfold rng3Args at h
  split at h
  · split at h
    · rename_i e
      obtain ⟨e1, rfl, e3, e4, e5, e6⟩ := e
      cases h
      exact ⟨_, _, _, _, _, e1, rfl, rfl, e3, e4, e5, e6, rfl⟩
    · cases h
  · cases h
theorem rngArgs_ok {sc : Scope} {x : Str} {a : Expr} {es args : List Expr} (h : rngArgs sc x a es = some args) :
    (∃ a1 p2 pos2, x = "list" ∧ a = .Call (.Name "range" p2) [a1] [] pos2 ∧ es = [] ∧ glB sc "range" = true ∧ isStarred a1 = false ∧ args = [a1]) ∨
    (∃ a1 a2 p2 pos2, x = "list" ∧ a = .Call (.Name "range" p2) [a1, a2] [] pos2 ∧ es = [] ∧ glB sc "range" = true ∧ isStarred a1 = false ∧ isStarred a2 = false ∧ args = [a1, a2]) := by
  unfold rngArgs at h
  split at h
  · split at h
    · rename_i e
      obtain ⟨rfl, rfl, e3, e4⟩ := e
      cases h
      exact .inl ⟨_, _, _, rfl, rfl, rfl, e3, e4, rfl⟩
    · cases h
  · split at h
    · rename_i e
      obtain ⟨rfl, rfl, e3, e4, e5⟩ := e
      cases h
      exact .inr ⟨_, _, _, _, rfl, rfl, rfl, e3, e4, e5, rfl⟩
    · cases h
  · cases h
structure LcOk (S : Sur) (X : Cx) (W : WX) (C : CT) (elt tg it : Expr) (ifs : List Expr) (scope : Scope) (own : List (Str × Nat)) (w : Wx) (t : Tn) (cond : Exo) (e : Ex) : Prop where
  hi : GI S X W tg it (iW C w)
  ok : BlkOk X.N X.env.scope scope own
  hv : ∀ i ∈ t.slots, i ∈ own.map (·.2)
  hg : ∀ (s : Shared) (H : Hp) (Ca : Addr) (cl : List (Str × Addr)) (fp : List Addr), PG (X.blk s H scope (compEnvC scope cl Ca X.env) fp) tg (tnG X.K t)
  ht : ∀ (s : Shared) (H : Hp) (Ca : Addr) (cl : List (Str × Addr)) (fp : List Addr), GTs S (X.blk s H scope (compEnvC scope cl Ca X.env) fp) W0 ifs (iC C cond)
  he : ∀ (s : Shared) (H : Hp) (Ca : Addr) (cl : List (Str × Addr)) (fp : List Addr), GE S (X.blk s H scope (compEnvC scope cl Ca X.env) fp) W0 elt (iE C e)
  hs : ∀ x, foldedSetIterable it X.env x = pure x
theorem wTg_ok {w : Wx} {tg : Expr} (h : wTg w tg = true) : ∀ es, (w = .enum es ∨ w = .zip es) → ∃ elts kk tp, tg = .Tuple elts kk tp := by
  intro es e
  rcases e with rfl | rfl <;> (cases tg <;> first | exact ⟨_, _, _, rfl⟩ | cases h)
/-- the parts of a comprehension -/
theorem lc_parts {X : Cx} {W : WX} {sc : Scope} {n : Nat} (c : CtxE S tb C k W X) (hs : X.env.scope = sc) (ih : ∀ (sc : Scope) (e : Expr) (x : Ex), cE tb n sc e = some x → ∀ (X : Cx) (W : WX), CtxE S tb C k W X → X.env.scope = sc → Good S X W C e x) {elt tg it : Expr} {ifs : List Expr} {scope : Scope}
    (hb : blkC tb.N sc scope (ownOf tb.N tg) = true) (hl : (tgNames tg).all (fun x => scope.names.lookup x == some .local || scope.names.lookup x == some .cell) = true) {w : Wx} {t : Tn} {e : Ex} {cond : Exo} (qw : cW (cE tb n sc) sc it = some w) (qt : tnOf tb.N tg = some t)
    (qe : cE tb n (relS scope sc) elt = some e) (hw : wTg w tg = true) (hc : (ifs = [] ∧ cond = .none) ∨ ∃ c1 c', ifs = [c1] ∧ cond = .some c' ∧ cE tb n (relS scope sc) c1 = some c') :
    LcOk S X W C elt tg it ifs scope (ownOf tb.N tg) w t cond e := by
  have hi := cW_ok c hs (fun e x q => (ih sc e x q X W c hs).1) qw tg (wTg_ok hw)
  have sb : ∀ (s : Shared) (H : Hp) (Ca : Addr) (cl : List (Str × Addr)) (fp : List Addr), (X.blk s H scope (compEnvC scope cl Ca X.env) fp).env.scope = relS scope sc := fun s H Ca cl fp => by rw [← hs]; rfl
  refine ⟨hi.1, by rw [c.N, hs]; exact blkOk_by hb, tn_slots qt, fun s H Ca cl fp => tn_pg c.N c.nd c.calm qt hl, fun s H Ca cl fp => ?_, fun s H Ca cl fp => (ih _ _ _ qe _ _ (c.blk s H scope cl Ca fp) (sb s H Ca cl fp)).1, hi.2⟩
  rcases hc with ⟨rfl, rfl⟩ | ⟨c1, c', rfl, rfl, qc⟩
  · exact gts_nil
  · exact gts_one (ih _ _ _ qc _ _ (c.blk s H scope cl Ca fp) (sb s H Ca cl fp)).2
theorem lc_read {n : Nat} {sc : Scope} {elt tg it : Expr} {ifs : List Expr} {scope : Scope} {pos : Pos} {x : Ex} (h : cE tb (n + 1) sc (.ListComp elt [⟨tg, it, ifs, 0⟩] scope pos) = some x) :
    ∃ w t e cond, x = .lc (cellAt tb pos) w t cond e ((ownOf tb.N tg).map (·.2)) ∧ blkC tb.N sc scope (ownOf tb.N tg) = true ∧ (tgNames tg).all (fun x => scope.names.lookup x == some .local || scope.names.lookup x == some .cell) = true ∧
      cW (cE tb n sc) sc it = some w ∧ tnOf tb.N tg = some t ∧ cE tb n (relS scope sc) elt = some e ∧ wTg w tg = true ∧ ((ifs = [] ∧ cond = .none) ∨ ∃ c1 c', ifs = [c1] ∧ cond = .some c' ∧ cE tb n (relS scope sc) c1 = some c') := by
  unfold cE at h
  simp only at h
  split at h
  · rename_i hb
    split at h
    · rename_i w t e qw qt qe
      split at h
      · rename_i hw
        cases h
        exact ⟨w, t, e, .none, rfl, hb.1, hb.2, qw, qt, qe, hw, .inl ⟨rfl, rfl⟩⟩
      · cases h
    · rename_i w t e c1 qw qt qe
      split at h
      · rename_i hw
        cases q : cE tb n (relS scope sc) c1 with
        | none => rw [q] at h; cases h
        | some c' =>
          rw [q] at h
          cases h
          exact ⟨w, t, e, .some c', rfl, hb.1, hb.2, qw, qt, qe, hw, .inr ⟨c1, c', rfl, rfl, q⟩⟩
      · cases h
    · cases h
  · cases h
theorem lcX_read {N : List Str} {f g : Expr → Option Ex} {sc : Scope} {elt tg it : Expr} {ifs : List Expr} {scope : Scope} {x : Ex} (h : lcX N f g sc elt tg it ifs scope = some x) :
    ∃ w t e cond, x = .lc false w t cond e ((ownOf N tg).map (·.2)) ∧ blkC N sc scope (ownOf N tg) = true ∧ (tgNames tg).all (fun x => scope.names.lookup x == some .local || scope.names.lookup x == some .cell) = true ∧
      cW f sc it = some w ∧ tnOf N tg = some t ∧ g elt = some e ∧ wTg w tg = true ∧ ((ifs = [] ∧ cond = .none) ∨ ∃ c1 c', ifs = [c1] ∧ cond = .some c' ∧ g c1 = some c') := by
  unfold lcX at h
  split at h
  · rename_i hb
    split at h
    · rename_i w t e qw qt qe
      split at h
      · rename_i hw
        cases h
        exact ⟨w, t, e, .none, rfl, hb.1, hb.2, qw, qt, qe, hw, .inl ⟨rfl, rfl⟩⟩
      · cases h
    · rename_i w t e c1 qw qt qe
      split at h
      · rename_i hw
        cases q : g c1 with
        | none => rw [q] at h; cases h
        | some c' =>
          rw [q] at h
          cases h
          exact ⟨w, t, e, .some c', rfl, hb.1, hb.2, qw, qt, qe, hw, .inr ⟨c1, c', rfl, rfl, q⟩⟩
      · cases h
    · cases h
  · cases h
theorem cE_ok : ∀ (n : Nat) (sc : Scope) (e : Expr) (x : Ex), cE tb n sc e = some x → ∀ (X : Cx) (W : WX), CtxE S tb C k W X → X.env.scope = sc → Good S X W C e x := by
  intro n
  induction n with
  | zero => intro sc e x h; cases h
  | succ n ih =>
    intro sc e x h X W c hs
    have ihE : ∀ e x, cE tb n sc e = some x → GE S X W e (iE C x) := fun e x q => (ih sc e x q X W c hs).1
    have ihG : ∀ e x, cE tb n sc e = some x → Good S X W C e x := fun e x q => ih sc e x q X W c hs
    unfold cE at h
    split at h
    · -- a name
      rename_i x p
      split at h
      · rename_i hok
        refine good_plain c.K rfl ?_ ?_
        · split at h
          · split at h
            · cases h; rfl
            · cases h
          · split at h
            · split at h
              · cases h; rfl
              · cases q : tyOfN x with
                | none => rw [q] at h; cases h
                | some t => rw [q] at h; cases h; rfl
            · cases h
        · split at h
          · rename_i i hi
            split at h
            · rename_i hv
              cases h
              exact ge_var (by rw [c.N]; exact slot_of hi) (by rw [hs]; exact vis_of hv) (okN_1 hok) (okN_2 hok)
            · cases h
          · split at h
            · rename_i hg
              split at h
              · rename_i d hd
                cases h
                obtain ⟨v, u, h1, h2, h3⟩ := c.consts x d hd
                exact ge_c (pe_glob (gl_of hs hg) h1 h2 (okN_1 hok)) h3
              · cases q : tyOfN x with
                | none => rw [q] at h; cases h
                | some t =>
                  rw [q] at h
                  cases h
                  have hm := c.blt x (.inl (by rw [q]; rfl))
                  have hb : bootBuiltins x = some (.type t) ∧ x ≠ "__name__" := by
                    unfold tyOfN at q
                    split at q
                    · rename_i e; cases q; rw [e]; exact ⟨rfl, by decide⟩
                    · split at q
                      · rename_i e; cases q; rw [e]; exact ⟨rfl, by decide⟩
                      · split at q
                        · rename_i e; cases q; rw [e]; exact ⟨rfl, by decide⟩
                        · split at q
                          · rename_i e; cases q; rw [e]; exact ⟨rfl, by decide⟩
                          · split at q
                            · rename_i e; cases q; rw [e]; exact ⟨rfl, by decide⟩
                            · split at q
                              · rename_i e; cases q; rw [e]; exact ⟨rfl, by decide⟩
                              · cases q
                  exact ge_c (v := .ty t) (pe_bltn (gl_of hs hg) hm hb.1 rfl hb.2 (okN_1 hok)) fun _ _ _ _ => .ty t
            · cases h
      · cases h
    · -- a constant
      rename_i c0 k0 p
      cases c0 <;> cases h
      · exact good_plain c.K rfl rfl (ge_c pe_non fun _ _ _ _ => .non)
      · exact good_plain c.K rfl rfl (ge_c pe_bl fun _ _ _ _ => .bl _)
      · exact good_plain c.K rfl rfl (ge_c pe_int fun _ _ _ _ => .int _)
      · exact good_plain c.K rfl rfl (ge_c pe_str fun _ _ _ _ => .str _)
    · cases h; exact good_plain c.K rfl rfl ge_d0
    · -- a dict with written keys
      rename_i k0 ks0 es0 p0
      split at h
      · rename_i ts xs q1 q2
        split at h
        · rename_i hl
          cases h
          have g := dsp_ok (W := W) (C := C) (X := X) (pos := p0) (fun e x _ => ihE e x) q1 q2 hl.1
          have k1 := keyTxts_len q1
          exact good_plain c.K rfl rfl (ge_dsp g k1.2 (by rw [k1.1, hl.1]) (by simp) (by rw [k1.1]; exact hl.2))
        · cases h
      · cases h
    · -- an operator
      rename_i a o b pos
      split at h
      · rename_i a' b' o' qa qb qo
        cases h
        obtain ⟨r, h1, h2⟩ := bop_ok c.K qo
        exact good_plain c.K rfl rfl (ge_op h1 h2 (ihE a a' qa) (ihE b b' qb))
      · cases h
    · rename_i a pos
      cases q : cE tb n sc a with
      | none => rw [q] at h; cases h
      | some y =>
        rw [q] at h; cases h
        have gt : GT S X W (.UnaryOp .USub a pos) (fTru (fUn gNeg (iE C y))) := gt_tru c.K (fun _ => rfl) (ge_un un_neg negOk (ihE a y q))
        exact ⟨ge_un un_neg negOk (ihE a y q), gt⟩
    · rename_i a pos
      cases q : cE tb n sc a with
      | none => rw [q] at h; cases h
      | some y =>
        rw [q] at h; cases h
        exact ⟨ge_not c.K (ihE a y q), gt_not (ihG a y q).2⟩
    · rename_i es pos
      have := and_ok (pos := pos) c.K ihG h
      exact ⟨this.1, gw_pt this.2⟩
    · rename_i es pos
      have := or_ok (pos := pos) c.K ihG h
      exact ⟨this.1, gw_pt this.2⟩
    · rename_i c1 a b pos
      split at h
      · rename_i c' a' b' qc qa qb
        cases h
        exact ⟨ge_if (ihG c1 c' qc).2 (ihE a a' qa) (ihE b b' qb), fun R => ⟨fun pins s σ H Q I ⟨F, M, env, si, r, q⟩ => q.elim⟩⟩
      · cases h
    · rename_i a o b pos
      split at h
      · cases h
      · rename_i hset
        have hb : isSetE b = false := by simpa using hset
        split at h
        · rename_i a' b' o' qa qb qo
          cases h
          obtain ⟨r, h1, h2, h3⟩ := cmp_ok c.K c.hu qo
          exact ⟨ge_cmp h1 (mark_ok hb) h2 (ihE a a' qa) (ihE b b' qb), gt_cmp h1 (mark_ok hb) h2 h3 (ihE a a' qa) (ihE b b' qb)⟩
        · cases h
    · rename_i a o p b d pos
      split at h
      · cases h
      · rename_i hset
        have hb : isSetE b = false ∧ isSetE d = false := by simpa using hset
        split at h
        · rename_i a' b' d' o' p' qa qb qd qo qp
          cases h
          obtain ⟨r, h1, h2, h3⟩ := cmp_ok c.K c.hu qo
          obtain ⟨r', g1, g2, g3⟩ := cmp_ok c.K c.hu qp
          have lm : lastMarks [o, p] [b, d] = false := by
            show behindInMarks p d = false
            exact mark_ok hb.2
          exact ⟨ge_chain h1 g1 h2 g2 (ihE a a' qa) (ihE b b' qb) (ihE d d' qd) lm, gt_chain h1 g1 h2 g2 g3 (ihE a a' qa) (ihE b b' qb) (ihE d d' qd) lm⟩
        · cases h
    · -- how many unlike ones
      rename_i x p elt tg it ifs scope p2 pos
      split at h
      · rename_i hh
        obtain ⟨hg, rfl⟩ := hh
        cases qa : lcX tb.N (cE tb n sc) (cE tb n (relS scope sc)) sc elt tg it ifs scope with
        | none => rw [qa] at h; cases h
        | some y =>
          rw [qa] at h; cases h
          obtain ⟨w, t, e, cond, rfl, hb, hl, qw, qt, qe, hw, hc⟩ := lcX_read qa
          have P := lc_parts c hs ih hb hl qw qt qe hw hc
          exact good_plain c.K rfl rfl (ge_lenSc c.K c.calm c.nd (gl_of hs hg) (c.blt _ (.inr (.inl ⟨1, rfl⟩))) P.hi P.ok P.hv P.hg P.ht P.he P.hs)
      · cases h
    · -- a call
      rename_i x p a es pos _
      split at h
      · rename_i hh
        obtain ⟨hg, hok, hst⟩ := hh
        have hst' := hst
        rw [List.all_cons, Bool.and_eq_true] at hst'
        have ha : isStarred a = false := by simpa using hst'.1
        split at h
        · rename_i ps hd
          cases q : rdAll (cE tb n sc) (a :: es) with
          | none => rw [q] at h; cases h
          | some xs =>
            rw [q] at h; cases h
            obtain ⟨f, fd, D⟩ := c.defs x ps hd
            exact good_plain c.K rfl rfl (ge_call D.ok c.tk c.gd c.hr (gl_of hs hg) D.mg D.kp D.bd (okN_1 hok) (args_ok (fun e x _ => ihE e x) hst q) (star_ok ha) (noStar hst'.2))
        · split at h
          · rename_i args qr
            obtain ⟨a1, a2, a3, p2, pos2, hx, rfl, rfl, g2, s1, s2, s3, rfl⟩ := rng3Args_ok qr
            have nn : (backTo pos2 (starEach [a2, a3] X.env)).any (·.1) = false := by rw [star_ok s2, star_ok s3]; rfl
            cases q : cE tb n sc a1 with
            | none => simp only [rdAll, q] at h; cases h
            | some y =>
              cases q2 : cE tb n sc a2 with
              | none => simp only [rdAll, q, q2] at h; cases h
              | some z =>
                cases q3 : cE tb n sc a3 with
                | none => simp only [rdAll, q, q2, q3] at h; cases h
                | some u =>
                  simp only [rdAll, q, q2, q3] at h
                  rcases hx with rfl | rfl
                  · cases h
                    obtain ⟨id, r, h1, h2, h3, h4, h5⟩ := bltT_ok c.K c.calm (show bltT false "list" 1 = some (.list false) from rfl)
                    exact good_plain c.K rfl rfl (ge_rngL3 c.calm (gl_of hs hg) (c.blt _ (.inl h5)) (gl_of hs g2) (c.blt _ (.inr (.inr (.inl rfl)))) (ihE a1 y q) (ihE a2 z q2) (ihE a3 u q3) (star_ok s1) (star_ok s2) (star_ok s3) nn rfl)
                  · cases h
                    exact good_plain c.K rfl rfl (ge_lenR (gl_of hs hg) (c.blt _ (.inr (.inl ⟨1, rfl⟩))) (gl_of hs g2) (c.blt _ (.inr (.inr (.inl rfl)))) (ihE a1 y q) (ihE a2 z q2) (ihE a3 u q3) (star_ok s1) (star_ok s2) (star_ok s3) nn rfl)
          split at h
          · rename_i b qb
            cases q : rdAll (cE tb n sc) (a :: es) with
            | none => rw [q] at h; cases h
            | some xs =>
              rw [q] at h; cases h
              obtain ⟨id, r, h1, h2, h3, h4⟩ := bltI_ok c.K c.calm c.gd c.hu c.isi qb (cellAt tb pos)
              exact good_plain c.K rfl rfl (ge_blt h1 h2 (gl_of hs hg) (c.blt x (.inr (.inl ⟨_, by rw [qb]; rfl⟩))) h3 h4 (okN_1 hok) (args_ok (fun e x _ => ihE e x) hst q) (star_ok ha) (noStar hst'.2))
          · split at h
            · rename_i b qb
              obtain ⟨id, r, h1, h2, h3, h4, h5⟩ := bltT_ok c.K c.calm qb
              split at h
              · rename_i args qa
                rcases rngArgs_ok qa with ⟨a1, p2, pos2, rfl, rfl, rfl, g2, s1, rfl⟩ | ⟨a1, a2, p2, pos2, rfl, rfl, rfl, g2, s1, s2, rfl⟩
                · cases q : cE tb n sc a1 with
                  | none => unfold rdAll at h; rw [q] at h; cases h
                  | some y =>
                    unfold rdAll at h; rw [q] at h; cases h
                    exact good_plain c.K rfl rfl (ge_rng1 c.calm (gl_of hs hg) (c.blt _ (.inl h5)) (gl_of hs g2) (c.blt _ (.inr (.inr (.inl rfl)))) (ihE a1 y q) (star_ok s1))
                · cases q : cE tb n sc a1 with
                  | none => unfold rdAll at h; rw [q] at h; cases h
                  | some y =>
                    cases q2 : cE tb n sc a2 with
                    | none => unfold rdAll at h; unfold rdAll at h; rw [q, q2] at h; cases h
                    | some z =>
                      unfold rdAll at h; unfold rdAll at h; rw [q, q2] at h; cases h
                      refine good_plain c.K rfl rfl (ge_rng2 c.calm (gl_of hs hg) (c.blt _ (.inl h5)) (gl_of hs g2) (c.blt _ (.inr (.inr (.inl rfl)))) (ihE a1 y q) (ihE a2 z q2) (star_ok s1) (star_ok s2) ?_ rfl)
                      rw [star_ok s2]; rfl
              · cases q : rdAll (cE tb n sc) (a :: es) with
                | none => rw [q] at h; cases h
                | some xs =>
                  rw [q] at h; cases h
                  exact good_plain c.K rfl rfl (ge_blty h1 h2 (gl_of hs hg) (c.blt _ (.inl h5)) h3 h4 (okN_1 hok) (args_ok (fun e x _ => ihE e x) hst q) (star_ok ha) (noStar hst'.2))
            · split at h
              · rename_i key m qm
                cases q : rdAll (cE tb n sc) (a :: es) with
                | none => rw [q] at h; cases h
                | some xs =>
                  rw [q] at h; cases h
                  obtain ⟨Ca, f, fd, ps, D⟩ := c.mks x key m qm
                  exact good_plain c.K rfl rfl (ge_make D.cls D.makes D.ok c.tk c.gd c.hr1 (gl_of hs hg) D.mg D.bd (okN_1 hok) (args_ok (fun e x _ => ihE e x) hst q) (star_ok ha) (noStar hst'.2))
              split at h
              · rename_i fld qx _ _ _ _
                cases q : cE tb n sc a with
                | none => rw [q] at h; cases h
                | some y =>
                  rw [q] at h; cases h
                  obtain ⟨Ca, fI, fd, E⟩ := c.exc x _ qx
                  exact good_plain c.K rfl rfl (ge_exv E.ox ⟨E.cls, by rw [c.K]; exact E.ek⟩ E.iC E.tI E.ok c.r2 E.bd (gl_of hs hg) E.mg (okN_1 hok) (ga_cons (ihE a y q) ga_nil (star_ok ha)) (star_ok ha))
              · split at h
                · rename_i es _ _ _ _ _ _ _ hx
                  cases q : rdAll (cE tb n sc) (a :: es) with
                  | none => rw [q] at h; cases h
                  | some xs =>
                    rw [q] at h; cases h
                    exact good_plain c.K rfl rfl (ge_bfun call_comb (gl_of hs hg) (c.mods x hx.1 hx.2) combOk (okN_1 hok) (args_ok (fun e x _ => ihE e x) hst q) (star_ok ha) (noStar hst'.2))
                · cases h
      · cases h
    · -- max with a default
      rename_i x p a d q1 p1 p2 pos
      split at h
      · rename_i hh
        obtain ⟨rfl, rfl, hg, ha⟩ := hh
        cases q : cE tb n sc a with
        | none => rw [q] at h; cases h
        | some y =>
          rw [q] at h; cases h
          exact good_plain c.K rfl rfl (ge_maxD c.K c.calm c.hu (gl_of hs hg) (c.blt _ (.inr (.inl ⟨2, rfl⟩))) (ga_cons (ihE a y q) ga_nil (star_ok ha)) (by rw [star_ok (by simpa using ha)]; rfl) (by rw [star_ok (by simpa using ha)]; rfl))
      · cases h
    · -- by name
      rename_i x p k0 ks pos
      split at h
      · rename_i hh
        obtain ⟨hg, hok⟩ := hh
        split at h
        · rename_i ps hd
          split at h
          · rename_i ho
            cases q : rdKws (cE tb n sc) (k0 :: ks) with
            | none => rw [q] at h; cases h
            | some xs =>
              rw [q] at h; cases h
              obtain ⟨f, fd, D⟩ := c.defs x ps hd
              obtain ⟨h1, h2, h3, h4⟩ := kws_ok ihE q
              obtain ⟨g1, g2, g3⟩ := h2 X.env pos
              exact good_plain c.K rfl rfl (ge_callK D.ok c.tk c.gd c.hr (gl_of hs hg) D.mg D.kp (okN_1 hok) (D.kw _ ho) h1 g1 g2 g3)
          · cases h
        · cases h
      · cases h
    · -- a method
      rename_i o m apos es pos
      split at h
      · rename_i hh
        obtain ⟨ho, hl, hst, hlen⟩ := hh
        split at h
        · rename_i o' xs m' qo qa qm
          cases h
          obtain ⟨id, r, h1, h2, h3, h4⟩ := mth_ok qm
          cases es with
          | nil =>
            cases qa
            exact good_plain c.K rfl rfl (ge_mt0 c.K h1 h2 h3 h4 (ihE o o' qo) (base_ok ho) hl)
          | cons e es =>
            have hst' := hst
            rw [List.all_cons, Bool.and_eq_true] at hst'
            have he : isStarred e = false := by simpa using hst'.1
            refine good_plain c.K rfl rfl (ge_mt c.K h1 h2 h3 h4 (ihE o o' qo) (args_ok (fun e x _ => ihE e x) hst qa) (base_ok ho) ?_ hl (star_ok he) (noStar hst'.2))
            rw [allPlain hst]
            show (true && true && decide ((e :: es).length + 0 + 0 < 30)) = true
            simp only [Bool.true_and, decide_eq_true_eq]
            omega
        · cases h
      · cases h
    · -- an attribute
      rename_i o f p
      split at h
      · rename_i hh
        cases qa : cE tb n sc o with
        | none => rw [qa] at h; cases h
        | some o' =>
          rw [qa] at h; cases h
          exact good_plain c.K rfl rfl (ge_fld (ihE o o' qa) c.ins (base_ok hh.1))
      · cases h
    · -- turned round
      rename_i a k p1 p2 p3 pos
      cases qa : cE tb n sc a with
      | none => rw [qa] at h; cases h
      | some a' =>
        rw [qa] at h; cases h
        exact good_plain c.K rfl rfl (ge_revL c.K (ihE a a' qa))
    · -- a slice
      rename_i a lo hi p2 pos
      split at h
      · rename_i a' lo' hi' qa ql qh
        cases h
        exact good_plain c.K rfl rfl (ge_sl c.K (ihE a a' qa) (opt_ok ihE ql) (opt_ok ihE qh))
      · cases h
    · rename_i a b pos _ _
      split at h
      · cases h
      · rename_i hsl
        split at h
        · rename_i a' b' qa qb
          cases h
          exact good_plain c.K rfl rfl (ge_ix ix_seq2 (slice_ok (by simpa using hsl)) (c.K ▸ ixOk) (ihE a a' qa) (ihE b b' qb))
        · cases h
    · rename_i es kk pos
      split at h
      · rename_i hst
        cases q : rdAll (cE tb n sc) es with
        | none => rw [q] at h; cases h
        | some xs =>
          rw [q] at h; cases h
          exact good_plain c.K rfl rfl (ge_tup (args_ok (fun e x _ => ihE e x) hst q))
      · cases h
    · rename_i es pos
      split at h
      · rename_i hst
        cases q : rdAll (cE tb n sc) es with
        | none => rw [q] at h; cases h
        | some xs =>
          rw [q] at h; cases h
          exact good_plain c.K rfl rfl (ge_lst (args_ok (fun e x _ => ihE e x) hst q))
      · cases q : rdStar (cE tb n sc) es with
        | none => rw [q] at h; cases h
        | some xs =>
          rw [q] at h; cases h
          exact good_plain c.K rfl rfl (ge_lst (stars_ok c.K ihE q))
    · -- a comprehension
      rename_i elt tg it ifs scope pos
      obtain ⟨w, t, e, cond, rfl, hb, hl, qw, qt, qe, hw, hc⟩ := lc_read (tb := tb) (n := n) (sc := sc) (pos := pos) (x := x) (elt := elt) (tg := tg) (it := it) (ifs := ifs) (scope := scope) (by unfold cE; exact h)
      have P := lc_parts c hs ih hb hl qw qt qe hw hc
      exact good_plain c.K rfl rfl (ge_lc c.K c.calm c.nd P.hi P.ok P.hv P.hg P.ht P.he P.hs)
    · cases h
end
end En

set_option Elab.async false
set_option linter.all false
set_option maxRecDepth 100000
/-! E13: statements read, and what is read is what the text does. -/
namespace En
open PySem PySem.Spec L2 RT RZ

/-! ### stores that are swapped -/
def fnKind (sc : Scope) : Bool := (if sc.kind.isAnnotationScope then ScopeKind.function else sc.kind) == ScopeKind.function
/-- none: the document of the language does not say; some none: one by one -/
def swD (sc : Scope) (ts vs : List Expr) : Option (Option (List Str)) :=
  if (!(ts.length == 2 || ts.length == 3) || vs.length != ts.length || !fnKind sc) = true then some none
  else if (vs.any isStarred) = true then some none
  else
    let line := (ts.head?.map (·.pos.line)).getD 0
    let names := ts.filterMap fun
      | .Name id pos => if (sc.names.lookup id == some .local && pos.line == line) = true then some id else none
      | _ => none
    if (names.length != ts.length || names.eraseDups.length != names.length) = true then some none
    else if vs.all (foldedForSure 8) = true then some none
    else if vs.all (constantsAlone 8) = true then none
    else some (some names)
theorem swD_ok {ts vs : List Expr} {k k2 : Nat} {p p2 : Pos} {env : Env} {r : Option (List Str)} (h : swD env.scope ts vs = some r) : swappedStores [.Tuple ts k p] (.Tuple vs k2 p2) env = pure r := by
  unfold swD at h
  unfold swappedStores
  simp only
  split at h
  · rename_i c
    cases h
    rw [if_pos (by exact c)]
  · rename_i c
    rw [if_neg (by exact c)]
    split at h
    · rename_i c2
      cases h
      rw [if_pos (by exact c2)]
    · rename_i c2
      rw [if_neg (by exact c2)]
      simp only at h
      split at h
      · rename_i c3
        cases h
        rw [if_pos (by exact c3)]
      · rename_i c3
        rw [if_neg (by exact c3)]
        split at h
        · rename_i c4
          cases h
          rw [if_pos (by exact c4)]
        · rename_i c4
          rw [if_neg (by exact c4)]
          split at h
          · cases h
          · rename_i c5
            cases h
            rw [if_neg (by exact c5)]
            rfl
theorem sw_none {tg e : Expr} {env : Env} (h : ∀ ts k p vs k2 p2, tg = .Tuple ts k p → e = .Tuple vs k2 p2 → swD env.scope ts vs = some none) (hl : ∀ ts p, tg ≠ .List ts p) : swappedStores [tg] e env = pure none := by
  cases tg with
  | Tuple ts k p =>
    cases e with
    | Tuple vs k2 p2 => exact swD_ok (h _ _ _ _ _ _ rfl rfl)
    | _ => rfl
  | List ts p => exact absurd rfl (hl ts p)
  | _ => rfl
/-- a comprehension that the language builds in the target's place -/
def swC (sc : Scope) (e : Expr) (tg : Expr) : Bool :=
  match e, tg with
  | .ListComp _ _ s pos, .Name t p => fnKind sc && sc.names.lookup t == some .local && p.line == pos.line && !(s.names.any fun (n, k) => n == t && (k == .local || k == .cell))
  | _, _ => false
def isComp2 : Expr → Bool
  | .SetComp _ _ _ _ => true
  | .DictComp _ _ _ _ _ => true
  | _ => false
theorem swC_ok {e tg : Expr} {env : Env} {line : Nat} (hc : isComp2 e = false) : swapsWith e (some tg) line env = pure (swC env.scope e tg) := by
  cases e with
  | ListComp elt gs s pos => cases tg <;> rfl
  | SetComp _ _ _ _ => cases hc
  | DictComp _ _ _ _ _ => cases hc
  | _ => rfl

/-! ### the reader -/
def locB (sc : Scope) (x : Str) : Bool := sc.names.lookup x == some .local || sc.names.lookup x == some .cell
def Tgs.ofList : List Tg → Tgs
  | [] => .nil
  | t :: ts => .cons t (ofList ts)
def cG (tb : Tb) : Nat → Scope → Expr → Option Tg
  | 0, _, _ => none
  | n + 1, sc, e =>
    match e with
    | .Name x _ => if locB sc x = true then (slotOf tb.N x).map .nm else none
    | .Tuple es _ _ => if es.all (fun e => !isStarred e) = true then (rdAll (cG tb n sc) es).map fun ts => .tup ts.length (.ofList ts) else none
    | .Subscript o i _ => if isSlice i = true then none else match cE tb n sc o, cE tb n sc i with
      | some o, some i => some (.sub o i)
      | _, _ => none
    | _ => none
def siOf (tb : Tb) (nm : Option Str) : Expr → Option Si
  | .Constant c _ _ => (cConst c).map .c
  | .Attribute (.Name e _) f _ => if nm = some e ∧ okN e = true then some (.f f) else none
  | _ => none
def suOf (tb : Tb) (nm : Option Str) : List Stmt → Option Su
  | [.Return (some (.Tuple es _ _)) _] => if es.all (fun e => !isStarred e) = true then (rdAll (siOf tb nm) es).map .tup else none
  | [.Return (some (.List es p)) _] => if es.all (fun e => !isStarred e) = true then (rdAll (siOf tb nm) es).map fun l => .lst (cellAt tb p) l else none
  | [.Return (some e) _] => (siOf tb nm e).map .one
  | _ => none
def siFld : Si → List Str | .c _ => [] | .f n => [n]
def suFld : Su → List Str
  | .one s => siFld s
  | .tup l => l.flatMap siFld
  | .lst _ l => l.flatMap siFld
/-- a clause -/
def cH (tb : Tb) (sc : Scope) : ExceptHandler → Option Hd
  | .ExceptHandler (some (.Name x _)) nm suite _ =>
    if x ∈ tb.clss ∧ glB sc x = true ∧ okN x = true then
      match suOf tb nm suite, nm with
      | some su, none => if su.plain = true then some ⟨x, none, su⟩ else none
      | some su, some y => match slotOf tb.N y with
        | some i => if sc.names.lookup y = some .local ∧ (suFld su).all (fun f => tb.excs x == some f) = true then some ⟨x, some i, su⟩ else none
        | none => none
      | none, _ => none
    else none
  | _ => none
def rdHs (f : ExceptHandler → Option Hd) : List ExceptHandler → Option (List Hd)
  | [] => some []
  | h :: hs => match f h, rdHs f hs with
    | some x, some xs => some (x :: xs)
    | _, _ => none
def rdSs (f : Stmt → Option Sx) : List Stmt → Option Sxs
  | [] => some .nil
  | [s] => (f s).map .one
  | s :: r => match f s, rdSs f r with
    | some x, some xs => some (.cons x xs)
    | _, _ => none
def ipOf : Operator → Option Bop
  | .Add => some .addI
  | .Sub => some .subI
  | .Mult => some .mulI
  | _ => none
def cS (tb : Tb) : Nat → Scope → Stmt → Option Sx
  | 0, _, _ => none
  | n + 1, sc, st =>
    match st with
    | .Pass _ => some .pass
    | .Break _ => some .brk
    | .Continue _ => some .cnt
    | .Return none _ => some .retN
    | .Return (some e) _ => (cE tb n sc e).map .ret
    | .Expr e _ => if isComp e = true then none else (match e with | .Constant (.str _) _ _ => some .pass | e => (cE tb n sc e).map .expr)
    | .If c a b _ => match cE tb n sc c, rdSs (cS tb n sc) a, rdSs (cS tb n sc) b with
      | some c, some a, some b => some (.ife c a b)
      | _, _, _ => none
    | .While c b [] _ => match cE tb n sc c, rdSs (cS tb n sc) b with
      | some c, some b => some (.whl c b)
      | _, _ => none
    | .For tg it b [] _ => match cW (cE tb n sc) sc it, cG tb n sc tg, rdSs (cS tb n sc) b with
      | some w, some t, some b => if wTg w tg = true then some (.forr w t b) else none
      | _, _, _ => none
    | .AugAssign (.Name x _) op e _ => if locB sc x = true then (match slotOf tb.N x, ipOf op, cE tb n sc e with
        | some i, some o, some e => some (.aug o i e)
        | _, _, _ => none) else none
    | .Assign [.Tuple ts k1 p1] (.Tuple vs k2 p2) _ => match swD sc ts vs with
      | some none => match cG tb n sc (.Tuple ts k1 p1), cE tb n sc (.Tuple vs k2 p2) with
        | some t, some e => some (.asg t e)
        | _, _ => none
      | some (some names) => match ts, vs, names.map (slotOf tb.N) with
        | [.Name x _, .Name y _], [a, b], [some i, some j] => if names = [x, y] ∧ i ≠ j ∧ sc.names.lookup x = some .local ∧ sc.names.lookup y = some .local ∧ [a, b].all (fun e => !isStarred e) = true then (rdAll (cE tb n sc) [a, b]).map fun xs => .par i j (.ofList xs) else none
        | [.Name x _, .Name y _, .Name z _], [a, b, c], [some i, some j, some l] => if names = [x, y, z] ∧ i ≠ j ∧ i ≠ l ∧ j ≠ l ∧ sc.names.lookup x = some .local ∧ sc.names.lookup y = some .local ∧ sc.names.lookup z = some .local ∧ [a, b, c].all (fun e => !isStarred e) = true then (rdAll (cE tb n sc) [a, b, c]).map fun xs => .par3 i j l (.ofList xs) else none
        | _, _, _ => none
      | none => none
    | .Assign [.Attribute o f _] e _ => if isComp2 e = true ∨ tb.ifs.contains f = false then none else match cE tb n sc o, cE tb n sc e with
      | some o, some e => some (.fset tb.ics tb.ifs f o e)
      | _, _ => none
    | .Assign [tg] e _ => if isComp2 e = true then none else match cG tb n sc tg, cE tb n sc e with
      | some t, some e => some (.asg t e)
      | _, _ => none
    | .Raise (some (.Call (.Name x _) [a] [] _)) none _ => if glB sc x = true ∧ okN x = true ∧ isStarred a = false then (match tb.excs x, cE tb n sc a with
        | some fld, some a => some (.raise x fld (.cons a .nil))
        | _, _ => none) else none
    | .Try b (h :: hs) [] [] _ => match rdSs (cS tb n sc) b, rdHs (cH tb sc) (h :: hs) with
      | some b, some hs => some (.tri b hs)
      | _, _ => none
    | _ => none
/-! ### the surroundings -/
structure CtxS (S : Sur) (tb : Tb) (C : CT) (sub : Str → Str → Bool) (k : Nat) (W : WX) (X : Cx) : Prop extends CtxE S tb C k W X where
  st : X.stack = X.env :: X.outer
  fr : X.env.frame = some X.env.locals
  fn : ∀ x, X.fn x = true
  po : PassesOwn (model X.prog X.w) X.A X.env X.xe
  clsq : ∀ x, x ∈ tb.clss → ∃ Ca, X.mg x = some (.ref Ca) ∧ S.cls x = some Ca ∧ ∀ c C', S.cls c = some C' → PySem.W.exmOne X.K (.ref C') (.ref Ca) = some (sub c x)
section
variable {S : Sur} {tb : Tb} {C : CT} {sub : Str → Str → Bool} {k : Nat} {W : WX} {X : Cx} {sc : Scope}
theorem CtxS.tr (c : CtxS S tb C sub k W X) {W' : WX} {pn : List (Addr × Obj)} {xe : Value → Shared → Prop} (tk : Takes (X.tr pn xe) W') (po : PassesOwn (model X.prog X.w) X.A X.env xe) : CtxS S tb C sub k W' (X.tr pn xe) :=
  ⟨⟨c.K, c.N, c.nd, c.calm, tk, c.hr, c.blt, fun x ps h => let ⟨f, fd, D⟩ := c.defs x ps h; ⟨f, fd, D.mg, D.kp, D.bd, D.kw, D.ok⟩, c.consts, c.r2,
    fun x fld h => let ⟨Ca, fI, fd, E⟩ := c.exc x fld h; ⟨Ca, fI, fd, E.mg, E.cls, E.ek, E.ox, E.xf, E.no, E.iC, E.tI, E.ok, E.bd⟩, c.hr1, c.ins, c.isi, fun x key n h => let ⟨Ca, f, fd, ps, E⟩ := c.mks x key n h; ⟨Ca, f, fd, ps, E.mg, E.cls, E.makes, E.ok, E.bd⟩, c.gd, c.mods⟩, c.st, c.fr, c.fn, po, c.clsq⟩
theorem loc_of {x : Str} (h : locB sc x = true) : L2.Loc sc x := by
  unfold locB at h
  unfold L2.Loc
  simpa using h
theorem ggs_ok {f : Expr → Option Tg} (hf : ∀ e x, f e = some x → GG S X W e (iG C x)) : ∀ {es : List Expr} {ts : List Tg}, es.all (fun e => !isStarred e) = true → rdAll f es = some ts → GGs S X W es (iGs C (.ofList ts)) ∧ (assignEach es X.env).length = ts.length ∧ (assignEach es X.env).findIdx? (·.1) = none
  | [], ts, _, h => by cases h; exact ⟨ggs_nil, rfl, rfl⟩
  | e :: es, ts, st, h => by
    unfold rdAll at h
    rw [List.all_cons, Bool.and_eq_true] at st
    have h1 : isStarred e = false := by simpa using st.1
    cases q : f e with
    | none => rw [q] at h; cases h
    | some y =>
      cases q2 : rdAll f es with
      | none => rw [q, q2] at h; cases h
      | some ys =>
        rw [q, q2] at h
        cases h
        have ae : assignEach (e :: es) X.env = (false, assign e X.env) :: assignEach es X.env := by cases e <;> first | rfl | cases h1
        obtain ⟨g1, g2, g3⟩ := ggs_ok hf st.2 q2
        refine ⟨ggs_cons (hf e y q) g1 (by rw [ae]; rfl), by rw [ae]; show (assignEach es X.env).length + 1 = ys.length + 1; rw [g2], ?_⟩
        rw [ae, List.findIdx?_cons]
        simp [g3]
theorem cG_ok : ∀ (n : Nat) (e : Expr) (x : Tg), cG tb n sc e = some x → ∀ (X : Cx) (W : WX), CtxS S tb C sub k W X → X.env.scope = sc → GG S X W e (iG C x) := by
  intro n
  induction n with
  | zero => intro e x h; cases h
  | succ n ih =>
    intro e x h X W c hs
    unfold cG at h
    split at h
    · rename_i x p
      split at h
      · rename_i hl
        cases q : slotOf tb.N x with
        | none => rw [q] at h; cases h
        | some i =>
          rw [q] at h
          cases h
          exact gg_name c.nd (by rw [c.N]; exact slot_of q) (hs ▸ loc_of hl) (.inl (c.fn x))
      · cases h
    · rename_i es kk p
      split at h
      · rename_i hst
        cases q : rdAll (cG tb n sc) es with
        | none => rw [q] at h; cases h
        | some ts =>
          rw [q] at h
          cases h
          obtain ⟨g1, g2, g3⟩ := ggs_ok (fun e x q => ih e x q X W c hs) hst q
          exact gg_tup c.K c.calm g1 g2 g3
      · cases h
    · rename_i o i p
      split at h
      · cases h
      · rename_i hsl
        have hsl : isSlice i = false := by simpa using hsl
        split at h
        · rename_i o' i' qo qi
          cases h
          refine gg_sub (by have := c.toCtxE.hu; omega) (cE_ok n sc o o' qo X W c.toCtxE hs).1 (cE_ok n sc i i' qi X W c.toCtxE hs).1 fun v => ?_
          cases i <;> first | rfl | cases hsl
        · cases h
    · cases h
theorem si_ok {nm : Option Str} {o : Option Nat} {x : Str} {Ca : Addr} {fld : Str} (c : CtxS S tb C sub k W X) (hs : X.env.scope = sc) (ho : SlotOf X nm o) {e : Expr} {s : Si} (h : siOf tb nm e = some s)
    (hx : siFld s = [] ∨ (XfC X.K Ca ∧ ∀ f ∈ siFld s, PySem.W.findIn X.K (.ref Ca) f = some none)) (R : Addr → Prop) (a : Addr) (oe : Obj) (cls : Value) (d : Option Addr) (pn : List (Addr × Obj)) (hz : Zc cls d oe) (hf : ∃ vs, oe.data = .fields vs) :
    PE (X.suite a ((a, oe) :: pn)) e (rdSi S R a cls d Ca o s) := by
  unfold siOf at h
  split at h
  · rename_i c0 kk p
    cases c0 <;> cases h
    · exact si_c pe_non fun _ _ _ _ => .non
    · exact si_c pe_bl fun _ _ _ _ => .bl _
    · exact si_c pe_int fun _ _ _ _ => .int _
    · exact si_c pe_str fun _ _ _ _ => .str _
  · rename_i y p f p2
    split at h
    · rename_i hy
      obtain ⟨hy, hok⟩ := hy
      cases h
      subst hy
      cases o with
      | none => exact ho.elim
      | some i =>
        obtain ⟨hi, hk⟩ := ho
        rcases hx with hx | ⟨xf, hno⟩
        · cases hx
        · exact si_f (x := y) xf (hno f List.mem_cons_self) hz hf (pe_var (X := X.suite a ((a, oe) :: pn)) hi (.inl hk) (okN_1 hok) (okN_2 hok)) rfl rfl
    · cases h
  · cases h
theorem sis_ok {nm : Option Str} {o : Option Nat} {Ca : Addr} (c : CtxS S tb C sub k W X) (hs : X.env.scope = sc) (ho : SlotOf X nm o) (R : Addr → Prop) (a : Addr) (oe : Obj) (cls : Value) (d : Option Addr) (pn : List (Addr × Obj)) (hz : Zc cls d oe) (hf : ∃ vs, oe.data = .fields vs) :
    ∀ {es : List Expr} {l : List Si}, es.all (fun e => !isStarred e) = true → rdAll (siOf tb nm) es = some l → (l.flatMap siFld = [] ∨ (XfC X.K Ca ∧ ∀ f ∈ l.flatMap siFld, PySem.W.findIn X.K (.ref Ca) f = some none)) → PA (X.suite a ((a, oe) :: pn)) es (rdSis S R a cls d Ca o l)
  | [], l, _, h, _ => by cases h; exact sis_nil
  | e :: es, l, st, h, hx => by
    unfold rdAll at h
    rw [List.all_cons, Bool.and_eq_true] at st
    have h1 : isStarred e = false := by simpa using st.1
    cases q : siOf tb nm e with
    | none => rw [q] at h; cases h
    | some y =>
      cases q2 : rdAll (siOf tb nm) es with
      | none => rw [q, q2] at h; cases h
      | some ys =>
        rw [q, q2] at h
        cases h
        rw [List.flatMap_cons] at hx
        have x1 : siFld y = [] ∨ (XfC X.K Ca ∧ ∀ f ∈ siFld y, PySem.W.findIn X.K (.ref Ca) f = some none) := hx.imp (fun z => (List.append_eq_nil_iff.mp z).1) fun z => ⟨z.1, fun f m => z.2 f (List.mem_append_left _ m)⟩
        have x2 : ys.flatMap siFld = [] ∨ (XfC X.K Ca ∧ ∀ f ∈ ys.flatMap siFld, PySem.W.findIn X.K (.ref Ca) f = some none) := hx.imp (fun z => (List.append_eq_nil_iff.mp z).2) fun z => ⟨z.1, fun f m => z.2 f (List.mem_append_right _ m)⟩
        exact sis_cons (si_ok (x := "") (fld := "") c hs ho q x1 R a oe cls d pn hz hf) (sis_ok c hs ho R a oe cls d pn hz hf st.2 q2 x2) (star_ok h1)
theorem su_ok {nm : Option Str} {o : Option Nat} {Ca : Addr} (c : CtxS S tb C sub k W X) (hs : X.env.scope = sc) (ho : SlotOf X nm o) {suite : List Stmt} {su : Su} (h : suOf tb nm suite = some su) (hx : suFld su = [] ∨ (XfC X.K Ca ∧ ∀ f ∈ suFld su, PySem.W.findIn X.K (.ref Ca) f = some none)) :
    (∃ st rest, suite = st :: rest) ∧ ∀ (R : Addr → Prop) (a : Addr) (oe : Obj) (cls : Value) (d : Option Addr) (pn : List (Addr × Obj)), Zc cls d oe → (∃ vs, oe.data = .fields vs) → PSs (X.suite a ((a, oe) :: pn)) suite (rdSu S R a cls d Ca o su) := by
  unfold suOf at h
  split at h
  · rename_i es kk p p2
    split at h
    · rename_i st
      cases q : rdAll (siOf tb nm) es with
      | none => rw [q] at h; cases h
      | some l =>
        rw [q] at h; cases h
        exact ⟨⟨_, _, rfl⟩, fun R a oe cls d pn hz hf => su_tup (sis_ok c hs ho R a oe cls d pn hz hf st q hx)⟩
    · cases h
  · rename_i es p p2
    split at h
    · rename_i st
      cases q : rdAll (siOf tb nm) es with
      | none => rw [q] at h; cases h
      | some l =>
        rw [q] at h; cases h
        exact ⟨⟨_, _, rfl⟩, fun R a oe cls d pn hz hf => su_lst (sis_ok c hs ho R a oe cls d pn hz hf st q hx)⟩
    · cases h
  · rename_i e p _ _
    cases q : siOf tb nm e with
    | none => rw [q] at h; cases h
    | some s =>
      rw [q] at h; cases h
      exact ⟨⟨_, _, rfl⟩, fun R a oe cls d pn hz hf => su_one (si_ok (x := "") (fld := "") c hs ho q hx R a oe cls d pn hz hf)⟩
  · cases h
theorem fld_plain {su : Su} (h : su.plain = true) : suFld su = [] := by
  have one : ∀ s : Si, s.plain = true → siFld s = [] := fun s h => by cases s <;> first | rfl | cases h
  have all : ∀ l : List Si, l.all Si.plain = true → l.flatMap siFld = [] := fun l h => List.flatMap_eq_nil_iff.mpr fun s m => one s (List.all_eq_true.mp h s m)
  cases su with
  | one s => exact one s h
  | tup l => exact all l h
  | lst c l => exact all l h
theorem cHs_ok (c : CtxS S tb C sub k W X) (hs : X.env.scope = sc) : ∀ {hds : List ExceptHandler} {l : List Hd}, rdHs (cH tb sc) hds = some l → ClD S X sub hds l
  | [], l, h => by cases h; exact .nil
  | h0 :: hds, l, h => by
    unfold rdHs at h
    cases q : cH tb sc h0 with
    | none => rw [q] at h; cases h
    | some y =>
      cases q2 : rdHs (cH tb sc) hds with
      | none => rw [q, q2] at h; cases h
      | some ys =>
        rw [q, q2] at h
        cases h
        have r := cHs_ok c hs q2
        unfold cH at q
        split at q
        · rename_i x p nm suite p2
          split at q
          · rename_i hx
            obtain ⟨hx, hg, hok⟩ := hx
            obtain ⟨Ca, m1, m2, m3⟩ := c.clsq x hx
            have nmx : Names X x (.ref Ca) := ⟨gl_of hs hg, okN_1 hok, .inl m1⟩
            split at q
            · rename_i su qs
              split at q
              · rename_i hp
                cases q
                obtain ⟨⟨st, rest, e⟩, f2⟩ := su_ok (nm := none) (o := none) (Ca := Ca) c hs trivial qs (.inl (fld_plain hp))
                subst e
                exact .cons (h := ⟨x, none, su⟩) nmx m2 trivial (.inl hp) m3 f2 r
              · cases q
            · rename_i su y0 qs
              split at q
              · rename_i i qi
                split at q
                · rename_i hc
                  obtain ⟨hl, hfl⟩ := hc
                  cases q
                  have so : SlotOf X (some y0) (some i) := ⟨by rw [c.N]; exact slot_of qi, by show X.env.scope.names.lookup y0 = _; rw [hs]; exact hl⟩
                  have hfx : suFld su = [] ∨ (XfC X.K Ca ∧ ∀ f ∈ suFld su, PySem.W.findIn X.K (.ref Ca) f = some none) := by
                    cases hsu : suFld su with
                    | nil => exact .inl rfl
                    | cons f0 fs =>
                      rw [hsu] at hfl
                      have all : ∀ f ∈ f0 :: fs, tb.excs x = some f := fun f m => by simpa using (List.all_eq_true.mp hfl) f m
                      obtain ⟨Cb, fI, fd, E⟩ := c.exc x f0 (all f0 List.mem_cons_self)
                      have ec : Ca = Cb := by have := E.mg; rw [m1] at this; cases this; rfl
                      subst ec
                      refine .inr ⟨E.xf, fun f m => ?_⟩
                      have e2 := (all f m).symm.trans (all f0 List.mem_cons_self)
                      cases e2
                      exact E.no
                  obtain ⟨⟨st, rest, e⟩, f2⟩ := su_ok (nm := some y0) (o := some i) (Ca := Ca) c hs so qs hfx
                  subst e
                  exact .cons (h := ⟨x, some i, su⟩) nmx m2 so (.inr ⟨i, rfl⟩) m3 f2 r
                · cases q
              · cases q
            · cases q
          · cases q
        · cases q
theorem ss_ok {f : Stmt → Option Sx} (hf : ∀ e x, f e = some x → GS S X W e (iS C sub x)) : ∀ {es : List Stmt} {xs : Sxs}, rdSs f es = some xs → GSs S X W es (iSs C sub xs)
  | [], xs, h => by cases h; exact gs_nil
  | [s], xs, h => by
    have h : (f s).map Sxs.one = some xs := h
    cases q : f s with
    | none => rw [q] at h; cases h
    | some y => rw [q] at h; cases h; exact gs_one (hf s y q)
  | s :: s2 :: r, xs, h => by
    unfold rdSs at h
    cases q : f s with
    | none => rw [q] at h; cases h
    | some y =>
      cases q2 : rdSs f (s2 :: r) with
      | none => rw [q, q2] at h; cases h
      | some ys =>
        rw [q, q2] at h
        cases h
        exact gs_cons (hf s y q) (ss_ok hf q2)
theorem gs_par3 {i j l : Nat} {x y z : Str} {a b d : Expr} {fa : FE (List D)} {px py pz pt pos : Pos} {kt k2 : Nat} {pt2 : Pos} (hc : X.calm = true) (hN : X.N.Nodup) (hi : X.N[i]? = some x) (hj : X.N[j]? = some y) (hl : X.N[l]? = some z) (hij : i ≠ j) (hil : i ≠ l) (hjl : j ≠ l)
    (hx : X.env.scope.names.lookup x = some .local) (hy : X.env.scope.names.lookup y = some .local) (hz : X.env.scope.names.lookup z = some .local) (ha : GA S X W [a, b, d] fa)
    (hw : swappedStores [.Tuple [.Name x px, .Name y py, .Name z pz] kt pt] (.Tuple [a, b, d] k2 pt2) X.env = pure (some [x, y, z]))
    (hs : swapsWithSole [.Tuple [.Name x px, .Name y py, .Name z pz] kt pt] (.Tuple [a, b, d] k2 pt2) pos.line X.env = pure false) :
    GS S X W (.Assign [.Tuple [.Name x px, .Name y py, .Name z pz] kt pt] (.Tuple [a, b, d] k2 pt2) pos) (sPar3 i j l fa) := fun R => by
  refine PS_imp (ps_par3 hc hN hi hj hl hij hil hjl hx hy hz (ha R) hw hs) fun T σ H ⟨F, M, env, s, r, h⟩ => ⟨F, M, env, s, r, (PostS.part h r).mono fun F1 M1 H1 ds l1 s1 h1 vs rs => ?_⟩
  match ds, h1, rs with
  | [a, b, d], h1, rs =>
    match vs, rs with
    | [v, u, w], rs =>
      have rv := rs.2 0 a v rfl rfl
      have ru := rs.2 1 b u rfl rfl
      have rw_ := rs.2 2 d w rfl rfl
      exact ⟨v, u, w, rfl, h1 F1 H1 _ .refl s1 ((((r.mono l1).set i rv).set j ru).set l rw_)⟩
    | [], rs => exact absurd rs.1 (by simp)
    | [_], rs => exact absurd rs.1 (by simp)
    | [_, _], rs => exact absurd rs.1 (by simp)
    | _ :: _ :: _ :: _ :: _, rs => exact absurd rs.1 (by simp)
  | [], h1, rs => exact h1.elim
  | [_], h1, rs => exact h1.elim
  | [_, _], h1, rs => exact h1.elim
  | _ :: _ :: _ :: _ :: _, h1, rs => exact h1.elim
theorem ip_ok {op : Operator} {o : Bop} (hK : S.K = X.K) (h : ipOf op = some o) : ∃ t, PIp X op t ∧ OpOk S t o.g := by
  cases op <;> cases h
  · refine ⟨_, ip_add, fun R W σ F M H d e x y Q s rx ry h => ?_⟩
    cases rx <;> cases ry <;> first | exact h.elim | exact ⟨_, _, rfl, rfl, h F H .refl s _ (.int _)⟩
  · refine ⟨_, ip_sub, fun R W σ F M H d e x y Q s rx ry h => ?_⟩
    cases rx <;> cases ry <;> first | exact h.elim | exact ⟨_, _, rfl, rfl, h F H .refl s _ (.int _)⟩
  · refine ⟨_, (show PIp X .Mult (rI CMulW fun i j => .int (i * j)) from (opI fun _ _ _ _ _ _ _ hc q => PyProof.Rows.imul_int q hc.ok : OpR X (inplaceOp .Mult) _)), fun R W σ F M H d e x y Q s rx ry h => ?_⟩
    have h : Post S R W σ F M H (KE S R Q) (gMulI d e M) := h
    unfold gMulI at h
    split at h
    · rename_i i j
      cases rx; cases ry
      split at h
      · rename_i hb
        exact ⟨_, _, rfl, rfl, hb, h F H .refl s _ (.int _)⟩
      · exact h.elim
    · exact h.elim
theorem lc_gens {n : Nat} {elt : Expr} {gs : List Comprehension} {scope : Scope} {pos : Pos} {x : Ex} (h : cE tb (n + 1) sc (.ListComp elt gs scope pos) = some x) : ∃ tg it ifs, gs = [⟨tg, it, ifs, 0⟩] := by
  unfold cE at h
  split at h
  all_goals first | contradiction | exact ⟨_, _, _, rfl⟩ | skip
  all_goals first | (rename_i e; cases e; done) | (rename_i e; cases e; exact ⟨_, _, _, rfl⟩) | skip
theorem cS_ok : ∀ (n : Nat) (st : Stmt) (x : Sx), cS tb n sc st = some x → ∀ (X : Cx) (W : WX), CtxS S tb C sub k W X → X.env.scope = sc → GS S X W st (iS C sub x) := by
  intro n
  induction n with
  | zero => intro st x h; cases h
  | succ n ih =>
    intro st x h X W c hs
    have ihE : ∀ e x, cE tb n sc e = some x → GE S X W e (iE C x) := fun e x q => (cE_ok n sc e x q X W c.toCtxE hs).1
    have ihT : ∀ e x, cE tb n sc e = some x → GT S X W e (iT C x) := fun e x q => (cE_ok n sc e x q X W c.toCtxE hs).2
    have ihG : ∀ e x, cG tb n sc e = some x → GG S X W e (iG C x) := fun e x q => cG_ok n e x q X W c hs
    have ihS : ∀ e x, cS tb n sc e = some x → GS S X W e (iS C sub x) := fun e x q => ih e x q X W c hs
    unfold cS at h
    split at h
    · cases h; exact gs_pass
    · cases h; exact gs_break
    · cases h; exact gs_cont
    · cases h; exact gs_retN
    · rename_i e p
      cases q : cE tb n sc e with
      | none => rw [q] at h; cases h
      | some y => rw [q] at h; cases h; exact gs_ret (ihE e y q)
    · rename_i e p
      split at h
      · cases h
      · rename_i hc
        have hc : isComp e = false := by simpa using hc
        split at h
        · cases h; exact gs_doc
        · cases q : cE tb n sc e with
          | none => rw [q] at h; cases h
          | some y =>
            rw [q] at h; cases h
            refine gs_expr (ihE e y q) ?_
            cases e <;> first | rfl | cases hc
    · rename_i c0 a b p
      split at h
      · rename_i c' a' b' qc qa qb
        cases h
        exact gs_if (ihT c0 c' qc) (ss_ok ihS qa) (ss_ok ihS qb)
      · cases h
    · rename_i c0 b p
      split at h
      · rename_i c' b' qc qb
        cases h
        exact gs_while c.po (ihT c0 c' qc) (ss_ok ihS qb)
      · cases h
    · rename_i tg it b p
      split at h
      · rename_i w t b' qw qt qb
        split at h
        · rename_i hw
          cases h
          have hi := cW_ok c.toCtxE hs ihE qw tg (wTg_ok hw)
          exact gs_for c.po c.calm hi.1 (ihG tg t qt) (ss_ok ihS qb) hi.2
        · cases h
      · cases h
    · rename_i x p op e p2
      split at h
      · rename_i hl
        split at h
        · rename_i i o e' qi qo qe
          cases h
          obtain ⟨t, h1, h2⟩ := ip_ok c.K qo
          exact gs_aug c.nd (by rw [c.N]; exact slot_of qi) (hs ▸ loc_of hl) (ihE e e' qe) h1 h2 (.inl (c.fn x))
        · cases h
      · cases h
    · -- a tuple to a tuple
      rename_i ts k1 p1 vs k2 p2 p3
      split at h
      · rename_i qs
        split at h
        · rename_i t e qt qe
          cases h
          exact gs_asg (ihE _ _ qe) (ihG _ _ qt) rfl (swD_ok (hs ▸ qs)) rfl
        · cases h
      · rename_i names qs
        split at h
        · rename_i x px y py a b i j en
          split at h
          · rename_i hh
            obtain ⟨en2, hij, hx, hy, hst⟩ := hh
            subst en2
            cases q : rdAll (cE tb n sc) [a, b] with
            | none => rw [q] at h; cases h
            | some xs =>
              rw [q] at h; cases h
              have en : [slotOf tb.N x, slotOf tb.N y] = [some i, some j] := en
              cases hi : slotOf tb.N x with
              | none => rw [hi] at en; cases en
              | some i' =>
                cases hj : slotOf tb.N y with
                | none => rw [hi, hj] at en; cases en
                | some j' =>
                  rw [hi, hj] at en
                  cases en
                  exact gs_par c.calm c.nd (by rw [c.N]; exact slot_of hi) (by rw [c.N]; exact slot_of hj) hij (hs ▸ hx) (hs ▸ hy) (args_ok (fun e x _ => ihE e x) hst q) (swD_ok (hs ▸ qs)) rfl
          · cases h
        · rename_i x px y py z pz a b c0 i j l en
          split at h
          · rename_i hh
            obtain ⟨en2, hij, hil, hjl, hx, hy, hz, hst⟩ := hh
            subst en2
            cases q : rdAll (cE tb n sc) [a, b, c0] with
            | none => rw [q] at h; cases h
            | some xs =>
              rw [q] at h; cases h
              have en : [slotOf tb.N x, slotOf tb.N y, slotOf tb.N z] = [some i, some j, some l] := en
              cases hi : slotOf tb.N x with
              | none => rw [hi] at en; cases en
              | some i' =>
                cases hj : slotOf tb.N y with
                | none => rw [hi, hj] at en; cases en
                | some j' =>
                  cases hl : slotOf tb.N z with
                  | none => rw [hi, hj, hl] at en; cases en
                  | some l' =>
                    rw [hi, hj, hl] at en
                    cases en
                    exact gs_par3 c.calm c.nd (by rw [c.N]; exact slot_of hi) (by rw [c.N]; exact slot_of hj) (by rw [c.N]; exact slot_of hl) hij hil hjl (hs ▸ hx) (hs ▸ hy) (hs ▸ hz) (args_ok (fun e x _ => ihE e x) hst q) (swD_ok (hs ▸ qs)) rfl
          · cases h
        · cases h
      · cases h
    · -- an attribute
      rename_i o f p1 e p
      split at h
      · cases h
      · rename_i hc
        have hc : isComp2 e = false := by
          cases q : isComp2 e with
          | false => rfl
          | true => exact (hc (.inl q)).elim
        split at h
        · rename_i o' e' qo qe
          cases h
          refine gs_fld (ihE o o' qo) (ihE e e' qe) c.ins ?_
          rw [swC_ok hc]
          cases e <;> rfl
        · cases h
    · -- one target
      rename_i tg e p nt na
      split at h
      · cases h
      · rename_i hc
        have hc : isComp2 e = false := by simpa using hc
        split at h
        · rename_i t e' qt qe
          cases h
          have sole : ∀ b, swC sc e tg = b → swapsWithSole [tg] e p.line X.env = pure b := fun b hb => by rw [← hb, ← hs]; exact swC_ok hc
          have hw : swappedStores [tg] e X.env = pure none := sw_none (fun ts k p vs k2 p2 e1 e2 => (nt ts k p vs k2 p2 e2 e1).elim) fun ts p e1 => by
            subst e1
            unfold cG at qt
            cases n <;> cases qt
          have hae : (assignEach [tg] X.env).map (·.2) = [assign tg X.env] := by
            cases tg <;> first | rfl | (cases n <;> (unfold cG at qt; cases qt))
          cases hb : swC sc e tg with
          | false => exact gs_asg (ihE e e' qe) (ihG tg t qt) (sole _ hb) hw hae
          | true =>
            cases e with
            | ListComp elt gs s2 pos =>
              cases tg with
              | Name y py =>
                cases n with
                | zero => cases qe
                | succ n =>
                  obtain ⟨tg2, it, ifs, rfl⟩ := lc_gens qe
                  · obtain ⟨w, t2, e2, cond, rfl, hb2, hl, qw, qt2, qe2, hw2, hc2⟩ := lc_read qe
                    have P := lc_parts c.toCtxE hs (fun sc e x q X W c hs => cE_ok n sc e x q X W c hs) hb2 hl qw qt2 qe2 hw2 hc2
                    have hyl : sc.names.lookup y = some .local := by
                      unfold swC at hb
                      simp only [Bool.and_eq_true, beq_iff_eq] at hb
                      exact hb.1.1.2
                    unfold cG at qt
                    simp only at qt
                    split at qt
                    · cases qi : slotOf tb.N y with
                      | none => rw [qi] at qt; cases qt
                      | some i =>
                        rw [qi] at qt
                        cases qt
                        exact gs_setLc c.K c.calm c.nd (by rw [c.N]; exact slot_of qi) (hs ▸ hyl) (sole _ hb) P.hi P.ok P.hv P.hg P.ht P.he P.hs
                    · cases qt
              | _ => cases hb
            | _ => cases hb
        · cases h
    · rename_i x p a p2 p3
      split at h
      · rename_i hh
        obtain ⟨hg, hok, hst⟩ := hh
        split at h
        · rename_i fld a' qx qa
          cases h
          obtain ⟨Ca, fI, fd, E⟩ := c.exc x fld qx
          exact gs_raise E.ox c.calm c.tk E.cls E.iC E.tI E.ok c.r2 E.bd (gl_of hs hg) E.mg (okN_1 hok) (ga_cons (ihE a a' qa) ga_nil (star_ok hst)) (star_ok hst)
        · cases h
      · cases h
    · rename_i b h0 hds p
      split at h
      · rename_i b' hs' qb qh
        cases h
        exact gs_try c.st c.fr c.nd c.tk (fun W pn xe tk po => ss_ok (fun e x q => ih e x q (X.tr pn xe) W (c.tr tk po) hs) qb) (cHs_ok c hs qh)
      · cases h
    · cases h
end
end En

set_option Elab.async false
set_option linter.all false
/-! E14: arguments bound; the table of defs; each def does what its body does. -/
namespace En
open PySem PySem.Spec L2
theorem loop_kw {f : Str × Value → List (Str × Value) × List (Str × Value) → Sem (ForInStep (List (Str × Value) × List (Str × Value)))} : ∀ (kw slots : List (Str × Value)), (∀ x ∈ kw, ∀ s : List (Str × Value), s.lookup x.1 = none → f x (s, []) = pure (.yield (s ++ [x], []))) →
    (kw.map (·.1)).Nodup → (∀ x ∈ kw, slots.lookup x.1 = none) → forIn kw (slots, []) f = pure (slots ++ kw, [])
  | [], slots, _, _, _ => by simp
  | x :: kw, slots, hf, nd, ha => by
    rw [List.forIn_cons, hf x List.mem_cons_self slots (ha x List.mem_cons_self), pure_bind]
    simp only
    rw [List.map_cons, List.nodup_cons] at nd
    rw [loop_kw kw (slots ++ [x]) (fun y m => hf y (List.mem_cons_of_mem _ m)) nd.2 fun y m => ?_]
    · rw [List.append_assoc]; rfl
    · rw [List.lookup_append, ha y (List.mem_cons_of_mem _ m)]
      have ne : (y.1 == x.1) = false := by
        cases q : (y.1 == x.1) with
        | false => rfl
        | true => exact absurd (List.mem_map.mpr ⟨y, m, by simpa using q⟩) nd.1
      show (none.or (List.lookup y.1 [x])) = none
      rw [List.lookup_cons, ne]; rfl
theorem bind_go (name qual : Str) (A : List Arg) (body : List Stmt) (scope : Scope) (kV doc pm : Value) (an : Option Addr) (cdv ct : Value) (us : List Value) (kw : List (Str × Value)) (h1 : us.length ≤ A.length)
    (hk : ∀ x ∈ kw, (A.map (·.arg)).contains x.1 = true) (nd : (kw.map (·.1)).Nodup) (ha : ∀ x ∈ kw, ((A.map (·.arg)).zip us).lookup x.1 = none) (hall : ∀ n ∈ A.map (·.arg), (((A.map (·.arg)).zip us ++ kw).lookup n).isSome = true) :
    bindArgs (PySem.W.fnOf name qual ⟨[], A, none, [], [], none, []⟩ body scope .none kV doc pm an cdv ct) ⟨us, kw⟩ = pure ((A.map (·.arg)).filterMap fun n => (((A.map (·.arg)).zip us ++ kw).lookup n).map (n, ·)) := by
  unfold bindArgs
  simp only [PySem.W.fnOf, List.map_nil, List.nil_append]
  rw [loop_kw kw _ (fun x m s hs => ?_) nd ha]
  · rw [pure_bind]
    simp only
    show (pure none >>= _ : Sem _) = _
    rw [pure_bind]
    simp only [Option.getD_none, List.drop_nil, List.length_nil, Nat.sub_zero, Nat.sub_self, List.zip_nil_right]
    have e1 : (decide (List.length us > (A.map (·.arg)).length) && (none : Option Arg).isNone) = false := by
      simp; omega
    rw [if_neg (by rw [e1]; exact Bool.false_ne_true)]
    have e2 : (List.filter (fun n => (List.lookup n ((A.map (·.arg)).zip us ++ kw)).isNone) (List.take (A.map (·.arg)).length (A.map (·.arg)))).isEmpty = true := by
      rw [List.take_length, List.isEmpty_iff, List.filter_eq_nil_iff]
      intro n hn
      have := hall n hn
      rw [Option.isSome_iff_ne_none] at this
      simpa using this
    rw [e2, if_neg (by decide), List.forIn_nil, pure_bind]
    simp only [List.forIn_nil, pure_bind, List.isEmpty_nil, Bool.not_true]
    rw [if_neg Bool.false_ne_true, List.append_nil]
  · rw [if_pos (by rw [hk x m]; rfl), if_neg (by rw [hs]; exact Bool.false_ne_true)]
theorem fm_congr {α β : Type} {f g : α → Option β} : ∀ {l : List α}, (∀ x ∈ l, f x = g x) → l.filterMap f = l.filterMap g
  | [], _ => rfl
  | x :: l, h => by
    rw [List.filterMap_cons, List.filterMap_cons, h x List.mem_cons_self, fm_congr fun y m => h y (List.mem_cons_of_mem _ m)]
theorem zip_fm : ∀ {ps : List Str} {us : List Value}, ps.Nodup → ps.length = us.length → (∀ n ∈ ps, ((ps.zip us).lookup n).isSome = true) ∧ (ps.filterMap fun n => ((ps.zip us).lookup n).map (n, ·)) = ps.zip us
  | [], [], _, _ => ⟨fun n h => (by cases h), rfl⟩
  | [], _ :: _, _, h => by cases h
  | _ :: _, [], _, h => by cases h
  | p :: ps, u :: us, nd, h => by
    rw [List.nodup_cons] at nd
    obtain ⟨h1, h2⟩ := zip_fm (us := us) nd.2 (by simpa using h)
    have hd : ((p :: ps).zip (u :: us)).lookup p = some u := by rw [List.zip_cons_cons, List.lookup_cons, beq_self_eq_true]
    have tl : ∀ n ∈ ps, ((p :: ps).zip (u :: us)).lookup n = (ps.zip us).lookup n := fun n m => by
      have ne : (n == p) = false := by
        cases q : (n == p) with
        | false => rfl
        | true => have : n = p := by simpa using q
                  subst this; exact absurd m nd.1
      rw [List.zip_cons_cons, List.lookup_cons, ne]
    refine ⟨fun n m => ?_, ?_⟩
    · rcases List.mem_cons.mp m with rfl | m
      · rw [hd]; rfl
      · rw [tl n m]; exact h1 n m
    · rw [List.filterMap_cons, hd]
      show (p, u) :: _ = (p, u) :: ps.zip us
      congr 1
      refine Eq.trans ?_ h2
      exact fm_congr fun n m => by rw [tl n m]
theorem look_zip {p : Str} {α : Type} : ∀ {ks : List Str} {ws : List α}, ks.idxOf p < ks.length → (ks.zip ws).lookup p = ws[ks.idxOf p]?
  | [], ws, h => by simp at h
  | k :: ks, [], h => by simp
  | k :: ks, w :: ws, h => by
    rw [List.zip_cons_cons, List.lookup_cons, List.idxOf_cons]
    cases q : p == k with
    | true =>
      have e : k = p := (by simpa using q : p = k).symm
      subst e
      simp
    | false =>
      have q2 : (k == p) = false := by
        cases z : k == p with
        | false => rfl
        | true =>
          have e : k = p := by simpa using z
          rw [e] at q
          simp at q
      rw [List.idxOf_cons, q2] at h
      rw [q2]
      have h' : ks.idxOf p < ks.length := by simpa using h
      exact look_zip h'
theorem zip_sub {α : Type} : ∀ (ks : List Str) (ws : List α), ((ks.zip ws).map (·.1)).Sublist ks
  | [], ws => by simp
  | k :: ks, [] => by simp
  | k :: ks, w :: ws => by
    rw [List.zip_cons_cons, List.map_cons]
    exact (zip_sub ks ws).cons_cons k
theorem pick_all {ps ks : List Str} {α : Type} {ws : List α} (h : (pick (ordOf ps ks) ws).length = ps.length) : ∀ p ∈ ps, ∃ w, ws[ks.idxOf p]? = some w := by
  unfold pick ordOf at h
  induction ps with
  | nil => intro p m; cases m
  | cons p ps ih =>
    have le : ∀ qs : List Str, (List.filterMap (fun i => ws[i]?) (qs.map fun p => ks.idxOf p)).length ≤ qs.length := fun qs => Nat.le_trans (List.length_filterMap_le _ _) (by simp)
    intro q m
    rw [List.map_cons, List.filterMap_cons] at h
    cases e : ws[ks.idxOf p]? with
    | none =>
      rw [e] at h
      have := le ps
      simp only [List.length_cons] at h
      omega
    | some w =>
      rw [e] at h
      rcases List.mem_cons.mp m with rfl | m
      · exact ⟨w, e⟩
      · exact ih (by simpa using h) q m
theorem pick_zip {ps ks : List Str} {ws : List Value} : (∀ p ∈ ps, (ks.zip ws).lookup p = ws[ks.idxOf p]?) → (∀ p ∈ ps, ∃ w, ws[ks.idxOf p]? = some w) → (ps.filterMap fun n => ((ks.zip ws).lookup n).map (n, ·)) = ps.zip (pick (ordOf ps ks) ws) := by
  induction ps with
  | nil => intro _ _; rfl
  | cons p ps ih =>
    intro h1 h2
    obtain ⟨w, e⟩ := h2 p List.mem_cons_self
    rw [List.filterMap_cons, h1 p List.mem_cons_self, e]
    unfold pick ordOf
    rw [List.map_cons, List.filterMap_cons, e]
    show (p, w) :: _ = (p, w) :: _
    congr 1
    exact ih (fun q m => h1 q (List.mem_cons_of_mem _ m)) fun q m => h2 q (List.mem_cons_of_mem _ m)
/-- a def with plain parameters alone -/
def plainArgs (A : Arguments) (ps : List Str) : Bool := (match A with | ⟨[], _, none, [], [], none, []⟩ => true | _ => false) && decide (A.args.map (·.arg) = ps) && decide ps.Nodup
theorem binds_of {K : PySem.W.Frag} {x qual : Str} {A : Arguments} {body : List Stmt} {scope : Scope} {f : Addr} {fd : FuncData} {ps : List Str} (F : FunD K x qual A body scope [] [] f fd) (hp : plainArgs A ps = true) :
    Binds K fd ps [] ∧ (∀ (s : Shared) (us : List Value), us.length = ps.length → BindsTo s fd ⟨us, []⟩ (ps.zip us)) ∧
    ∀ (ks : List Str), kwOk ps ks = true → ∀ (s : Shared) (ws : List Value), K.In s.heap → (pick (ordOf ps ks) ws).length = ps.length → BindsTo s fd ⟨[], ks.zip ws⟩ (ps.zip (pick (ordOf ps ks) ws)) := by
  unfold plainArgs at hp
  simp only [Bool.and_eq_true, decide_eq_true_eq] at hp
  obtain ⟨⟨h1, h2⟩, nd⟩ := hp
  split at h1
  · rename_i args
    have h2 : args.map (·.arg) = ps := h2
    obtain ⟨oc, od, dV, kV, doc, pm, an, cdv, ct, osl, rfl, lk, hcd, hD, hK⟩ := F.ex
    rcases hD with ⟨_, rfl⟩ | ⟨e, _⟩
    · have b0 : ∀ us : List Value, us.length = ps.length → bindArgs (PySem.W.fnOf x qual ⟨[], args, none, [], [], none, []⟩ body scope .none kV doc pm an cdv ct) ⟨us, []⟩ = pure (ps.zip us) := fun us hl => by
        have z := zip_fm (us := us) nd hl.symm
        have le : us.length ≤ args.length := by rw [hl, ← h2, List.length_map]; exact Nat.le_refl _
        rw [bind_go x qual args body scope kV doc pm an cdv ct us [] le (fun x m => by cases m) List.nodup_nil (fun x m => by cases m) (by rw [List.append_nil, h2]; exact z.1), List.append_nil, h2, z.2]
      refine ⟨.all b0, fun s us hl => .of_eq (b0 us hl), fun ks ho s ws _ hl => .of_eq ?_⟩
      unfold kwOk at ho
      simp only [Bool.and_eq_true, decide_eq_true_eq] at ho
      obtain ⟨⟨_, hc⟩, ndk⟩ := ho
      have lk2 : ∀ p, ks.idxOf p < ks.length → (ks.zip ws).lookup p = ws[ks.idxOf p]? := fun p hp => look_zip hp
      have ge : ∀ p ∈ ps, ∃ w, ws[ks.idxOf p]? = some w := pick_all hl
      have key : ∀ y ∈ ks.zip ws, y.1 ∈ ks := fun y m => (List.of_mem_zip m).1
      have lkp : ∀ p ∈ ps, (ks.zip ws).lookup p = ws[ks.idxOf p]? := fun p m => by
        by_cases hp : ks.idxOf p < ks.length
        · exact lk2 p hp
        · exact absurd (List.all_eq_true.mp (by assumption) _ (List.mem_map.mpr ⟨p, m, rfl⟩)) (by simpa using hp)
      have ndz : ((ks.zip ws).map (·.1)).Nodup := by
        exact List.Nodup.sublist (zip_sub ks ws) ndk
      rw [bind_go x qual args body scope kV doc pm an cdv ct [] (ks.zip ws) (Nat.zero_le _) (fun y m => by rw [h2]; exact List.all_eq_true.mp hc _ (key y m)) ndz (fun y m => by rw [List.zip_nil_right]; rfl)
        (fun n m => by
          rw [h2] at m
          rw [List.zip_nil_right, List.nil_append, lkp n m]
          obtain ⟨w, e⟩ := ge n m
          rw [e]; rfl)]
      rw [h2, List.zip_nil_right, List.nil_append]
      exact congrArg pure (pick_zip lkp ge)
    · exact absurd rfl e
  · cases h1
/-! ### the table of defs -/
structure Rec where
  name : Str
  ps : List Str
  N : List Str
  A : Arguments
  st : List Stmt
  sc : Scope
structure Exr where
  name : Str
  fld : Str
  qual : Str
  A : Arguments
  st : List Stmt
  sc : Scope
/-- an own class that makes instances: its __init__, a Rec whose name is the table's key -/
structure Mtr where
  cls : Str
  qual : Str
  ini : Rec
structure Prg where
  recs : List Rec
  consts : List (Str × D)
  excs : List Exr
  clss : List Str
  cells : List Pos
  sub : Str → Str → Bool
  meths : List Mtr := []
  ifs : List Str := []
  mods : List Str := []
def Prg.ics (p : Prg) : List Str := p.meths.map (·.cls)
def Prg.every (p : Prg) : List Rec := p.recs ++ p.meths.map (·.ini)
def Prg.tb (p : Prg) (N : List Str) : Tb := ⟨N, fun x => (p.recs.find? fun r => r.name == x).map (·.ps), fun x => p.consts.lookup x, fun x => (p.excs.find? fun r => r.name == x).map (·.fld), p.clss, p.cells, p.ics, p.ifs, fun x => (p.meths.find? fun m => m.cls == x).map fun m => (m.ini.name, m.ini.ps.length), p.mods⟩
def Prg.code (p : Prg) (r : Rec) : Option Sxs := rdSs (cS (p.tb r.N) 60 r.sc) r.st
abbrev Tbl := List (Str × Nat × Sxs)
noncomputable def callI (T : Tbl) (sub : Str → Str → Bool) : Nat → CT
  | 0, _, _, _ => .bad
  | k + 1, x, ds, M => match T.lookup x with
    | some (n, b) => runF n (iSs (callI T sub k) sub b) ds M
    | none => .bad
def scB (N ps : List Str) (sc : Scope) : Bool := (match sc.kind with | .function => true | _ => false) && !sc.isCoroutine && !sc.isGenerator && decide N.Nodup && decide (N.take ps.length = ps) && ps.all (fun x => locB sc x) && sc.names.all (fun y => !(y.2 == NameKind.free))
theorem scB_ok {N ps : List Str} {sc : Scope} (h : scB N ps sc = true) : FnScope N ps sc := by
  unfold scB at h
  simp only [Bool.and_eq_true, decide_eq_true_eq, Bool.not_eq_true', List.all_eq_true] at h
  obtain ⟨⟨⟨⟨⟨⟨h1, h2⟩, h3⟩, h4⟩, h5⟩, h6⟩, h7⟩ := h
  refine ⟨?_, h2, h3, h4, h5, fun x m => loc_of (h6 x m), fun y m e => ?_⟩
  · split at h1
    · assumption
    · cases h1
  · have := h7 y m
    rw [e] at this
    cases this
/-- what the code has to be like -/
def Prg.ok (p : Prg) (T : Tbl) : Prop := ∀ r ∈ p.every, (∃ b, p.code r = some b ∧ T.lookup r.name = some (r.N.length, b)) ∧ scB r.N r.ps r.sc = true ∧ plainArgs r.A r.ps = true
/-- what stands around all defs -/
structure Glob (S : Sur) (p : Prg) (P : Program) (w : World) (K : PySem.W.Frag) (mg : Str → Option Value) (base : Heap) : Prop where
  hK : S.K = K
  blt : ∀ x, (tyOfN x).isSome = true ∨ (∃ n, (bltF x n).isSome = true) ∨ x = "range" ∨ x = "reversed" ∨ x = "enumerate" ∨ x = "zip" → mg x = none
  defs : ∀ r ∈ p.recs, ∃ f fd, mg r.name = some (.ref f) ∧ FunD K r.name r.name r.A r.st r.sc [] [] f fd
  consts : ∀ x d, p.consts.lookup x = some d → ∃ v u, mg x = some u ∧ RelV v u ∧ ∀ R F M H, RelD S R F M H d v
  exc : ∀ r ∈ p.excs, ∃ Ca fI fd, mg r.name = some (.ref Ca) ∧ S.cls r.name = some Ca ∧ extK K Ca = true ∧ OexC K Ca ∧ XfC K Ca ∧ PySem.W.findIn K (.ref Ca) r.fld = some none ∧ PySem.W.findIn K (.ref Ca) "__init__" = some (some (.ref fI)) ∧ PySem.W.typeIn K (.ref fI) = some (.type "function") ∧
    FnOk P w K mg base CX0 1 fI fd ["self", r.fld] (spKeep K Ca r.fld) ∧ Binds K fd ["self", r.fld] []
  cls : ∀ x ∈ p.clss, ∃ Ca, mg x = some (.ref Ca) ∧ S.cls x = some Ca ∧ ∀ c C', S.cls c = some C' → PySem.W.exmOne K (.ref C') (.ref Ca) = some (p.sub c x)
  ins : InsOk S K p.ics p.ifs
  isi : IsiOk S K p.ics
  mks : ∀ m ∈ p.meths, ∃ Ca f fd, mg m.cls = some (.ref Ca) ∧ S.cls m.cls = some Ca ∧ Mk K Ca f ∧ FunD K "__init__" m.qual m.ini.A m.ini.st m.ini.sc [] [] f fd
  mods : ∀ x : Str, x = "comb" → p.mods.contains x = true → mg x = some (.builtin "math.comb")
section
variable {S : Sur} {p : Prg} {P : Program} {w : World} {K : PySem.W.Frag} {mg : Str → Option Value} {base : Heap} {T : Tbl}
theorem fnD_run {A : Arguments} {nm qual : Str} {st : List Stmt} {sc : Scope} {N ps : List Str} {body : FS} {k n : Nat} {f : Addr} {fd : FuncData} (Fn : FunD K nm qual A st sc [] [] f fd) (Sc : FnScope N ps sc) (hn : n = ps.length)
    (hb : ∀ (cdv : Value) (A : Around) (outer : List Env) (s : Shared) (H : Hp) (E : XK), A.guards = some [] → Room k (A.deeper (PyProof.Rows.envOfC qual sc s.heap.objs.size f cdv)) →
      GSs S (cxOf (L2.CX P w) P w K mg base N qual sc f cdv A outer s H E) (fun cls d _ H => E cls d H) st body) :
    FnG P w K mg base (L2.CX P w) (k + 1) f fd ps (spOf S n (runF N.length body)) := by
  refine fnG_of Fn Sc (fun vs H Q E h => hn ▸ spOf_len h) fun cdv A outer s H vs Q E hg hr h => ?_
  obtain ⟨R, F, M, ds, si, r, e, h⟩ := h
  refine ⟨_, hb cdv A outer s H E hg hr R, F, M, startE N.length ds, si, start_rel r, ?_⟩
  unfold runF at h
  cases q : body (startE N.length ds) M with
  | nx e2 M1 => rw [q] at h; exact fun F' H' σ' l' s' _ => h F' H' l' s' .non .non
  | rt d M1 => rw [q] at h; exact fun F' H' v l' s' rv => h F' H' l' s' v rv
  | exc e2 c fs M1 => rw [q] at h; exact fun F' H' C d σ' l' s' _ k x => h F' H' C d l' s' k x
  | bk => rw [q] at h; exact h.elim
  | ct => rw [q] at h; exact h.elim
  | bad => rw [q] at h; exact h.elim
theorem find_mem {α : Type} {q : α → Bool} {l : List α} {x : α} (h : l.find? q = some x) : x ∈ l ∧ q x = true := ⟨List.mem_of_find?_eq_some h, List.find?_some h⟩
theorem all_ok (G : Glob S p P w K mg base) (ok : p.ok T) : ∀ (k : Nat) (r : Rec), r ∈ p.every → ∀ (nm qual : Str) (f : Addr) (fd : FuncData), FunD K nm qual r.A r.st r.sc [] [] f fd →
    FnG P w K mg base (L2.CX P w) (2 * k + 2) f fd r.ps (spOf S r.ps.length (callI T p.sub k r.name)) := by
  intro k
  induction k with
  | zero =>
    intro r hr nm qual f fd F
    have no : ∀ vs H Q E, ¬ spOf S r.ps.length (callI T p.sub 0 r.name) vs H Q E := fun vs H Q E h => by
      obtain ⟨R, F, M, ds, si, rr, e, h⟩ := h
      exact h.elim
    exact ⟨fun vs H Q E h => (no vs H Q E h).elim, fun _ _ _ _ _ h => (no _ _ _ _ h).elim⟩
  | succ k ih =>
    intro r hr nm qual f fd F
    obtain ⟨⟨b, hc, hT⟩, hsc, hpl⟩ := ok r hr
    have Sc := scB_ok hsc
    have e : (fun ds M => callI T p.sub (k + 1) r.name ds M) = runF r.N.length (iSs (callI T p.sub k) p.sub b) := by
      funext ds M
      show (match T.lookup r.name with | some (n, b) => runF n (iSs (callI T p.sub k) p.sub b) ds M | none => .bad) = _
      rw [hT]
    show FnG P w K mg base (L2.CX P w) (2 * k + 3 + 1) f fd r.ps (spOf S r.ps.length (fun ds M => callI T p.sub (k + 1) r.name ds M))
    rw [e]
    refine fnD_run F Sc rfl fun cdv A outer s H E hg hroom => ?_
    have cx : CtxS S (p.tb r.N) (callI T p.sub k) p.sub (2 * k + 2) (fun cls d _ H => E cls d H) (cxOf (L2.CX P w) P w K mg base r.N qual r.sc f cdv A outer s H E) := by
      refine ⟨⟨G.hK, rfl, Sc.nd, rfl, takes_of rfl rfl rfl rfl, hroom.mono (by omega), G.blt, fun x ps h => ?_, G.consts, hroom.mono (by omega), fun x fld h => ?_, hroom, G.ins, G.isi, fun x key n h => ?_, hg, G.mods⟩, rfl, rfl, fun _ => rfl, passes_of rfl, G.cls⟩
      · have h : ((p.recs.find? fun r => r.name == x).map (·.ps)) = some ps := h
        cases q : p.recs.find? (fun r => r.name == x) with
        | none => rw [q] at h; cases h
        | some r2 =>
          rw [q] at h
          cases h
          obtain ⟨m2, n2⟩ := find_mem q
          have e2 : r2.name = x := by simpa using n2
          obtain ⟨f2, fd2, hm2, F2⟩ := G.defs r2 m2
          have m3 : r2 ∈ p.every := List.mem_append_left _ m2
          have B := binds_of F2 (ok r2 m3).2.2
          exact ⟨f2, fd2, e2 ▸ hm2, F2.kp, B.1, B.2.2, e2 ▸ ih r2 m3 _ _ f2 fd2 F2⟩
      · have h : ((p.excs.find? fun r => r.name == x).map (·.fld)) = some fld := h
        cases q : p.excs.find? (fun r => r.name == x) with
        | none => rw [q] at h; cases h
        | some r2 =>
          rw [q] at h
          cases h
          obtain ⟨m2, n2⟩ := find_mem q
          have e2 : r2.name = x := by simpa using n2
          obtain ⟨Ca, fI, fdI, h1, h2, h2e, h3, h4, h5, h6, h7, h8, h9⟩ := G.exc r2 m2
          exact ⟨Ca, fI, fdI, e2 ▸ h1, e2 ▸ h2, h2e, h3, h4, h5, h6, h7, h8, h9⟩
      · have h : ((p.meths.find? fun m => m.cls == x).map fun m => (m.ini.name, m.ini.ps.length)) = some (key, n) := h
        cases q : p.meths.find? (fun m => m.cls == x) with
        | none => rw [q] at h; cases h
        | some m =>
          rw [q] at h
          cases h
          obtain ⟨m2, n2⟩ := find_mem q
          have e2 : m.cls = x := by simpa using n2
          obtain ⟨Ca, f2, fd2, h1, h2, h3, F2⟩ := G.mks m m2
          have m3 : m.ini ∈ p.every := List.mem_append_right _ (List.mem_map.mpr ⟨m, m2, rfl⟩)
          have B := binds_of F2 (ok m.ini m3).2.2
          exact ⟨Ca, f2, fd2, m.ini.ps, e2 ▸ h1, e2 ▸ h2, h3, ih m.ini m3 _ _ f2 fd2 F2, B.1⟩
    exact ss_ok (fun st x q => cS_ok 60 st x q _ _ cx rfl) hc
end
end En

set_option Elab.async false
set_option linter.all false
set_option maxRecDepth 100000
/-! E15: the head's facts by one Boolean; the end. -/
namespace En
open PySem PySem.Spec PyProof.Rows L2

def oexCls (K : PySem.W.Frag) (C : Addr) : Bool := match K.lookup C with
  | some ⟨.type "type", _, .cls cd, sl⟩ => (match cd.mro, sl.toList with
    | .ref C' :: bm, [_, _, _, _, some (.builtin n), _] => C' == C && n == "ValueError.__new__" && !cd.hasDel && cd.hasDict && PySem.HandSPX.refsVE bm
    | _, _ => false)
  | _ => false
theorem oexCls_ok {K : PySem.W.Frag} {C : Addr} (q : oexCls K C = true) : ∃ nm qn N bs bm sn sub ab col dd k0 k1 k2 k3 k5, K.lookup C = some (excClassObj nm qn C N bs bm true sn sub ab col dd k0 k1 k2 k3 k5 "ValueError.__new__") ∧ PySem.HandSPX.refsVE bm = true := by
  unfold oexCls at q
  split at q
  · rename_i dd cd sl ho
    split at q
    · rename_i C' bm k0 k1 k2 k3 n k5 hm hs
      simp only [Bool.and_eq_true, beq_iff_eq, Bool.not_eq_true'] at q
      obtain ⟨⟨⟨⟨rfl, rfl⟩, hdel⟩, hdict⟩, hbm⟩ := q
      obtain ⟨nm, bs, mro, ns, qn, hd, sn, sub, ab, col, del⟩ := cd
      dsimp only at hm hdel hdict
      subst hm hdel hdict
      have hsl : sl = #[k0, k1, k2, k3, some (.builtin "ValueError.__new__"), k5] := by
        obtain ⟨l⟩ := sl
        simp only at hs
        rw [hs]
      subst hsl
      exact ⟨nm, qn, ns, bs, bm, sn, sub, ab, col, dd, k0, k1, k2, k3, k5, ho, hbm⟩
    · cases q
  · cases q
def oexB (K : PySem.W.Frag) (C : Addr) : Bool := oexCls K C && (He.eqO (PySem.W.findIn K (.ref C) "__setattr__") (some (some (.builtin "object.__setattr__"))) && (decide (PySem.W.subIn K (.ref C) (.type "BaseException") = some true) && (decide (PySem.W.typeIn K (.ref C) = some (.type "type")) && PySem.W.keepIn K (.ref C))))
theorem oexB_ok {K : PySem.W.Frag} {C : Addr} (h : oexB K C = true) : OexC K C := by
  obtain ⟨h1, h⟩ := He.ba h
  obtain ⟨h2, h⟩ := He.ba h
  obtain ⟨h3, h⟩ := He.ba h
  obtain ⟨h4, h5⟩ := He.ba h
  exact ⟨oexCls_ok h1, He.eqO_ok h2, of_decide_eq_true h3, of_decide_eq_true h4, h5⟩
def excB (K : PySem.W.Frag) (r : Exr) : Bool := (He.Fa.glo r.name).ok K && (extK K (He.ga K r.name) && (oexB K (He.ga K r.name) && (xfB K (He.ga K r.name) && (He.eqO (PySem.W.findIn K (.ref (He.ga K r.name)) r.fld) (some none) &&
  (He.eqO (PySem.W.findIn K (.ref (He.ga K r.name)) "__init__") (some (some (.ref (He.ma K (He.ga K r.name) "__init__")))) && PySem.W.isFn K (.ref (He.ma K (He.ga K r.name) "__init__")))))))
def initB (r : Exr) : Bool := (match r.st with
  | [.Assign [.Attribute (.Name s _) f _] (.Name g _) _] => s == ("self" : Str) && f == r.fld && g == r.fld
  | _ => false) && (scB ["self", r.fld] ["self", r.fld] r.sc && (plainArgs r.A ["self", r.fld] && (visB r.sc "self" && (visB r.sc r.fld && okN r.fld))))
/-- constants: None, truth values, ints, texts -/
def flatV : D → Option V
  | .non => some .non
  | .bl b => some (.bl b)
  | .int i => some (.int i)
  | .str s => some (.str s)
  | _ => none
def constF (K : PySem.W.Frag) (c : Str × D) : Bool := match flatV c.2, PySem.W.nsIn K mainGlobals c.1 with
  | some v, some (some u) => He.relB v u
  | _, _ => false
def flatVs : List D → Option (List V)
  | [] => some []
  | d :: r => match flatV d, flatVs r with | some v, some vs => some (v :: vs) | _, _ => none
def relBs : List V → List Value → Bool
  | [], [] => true
  | v :: vs, u :: us => He.relB v u && relBs vs us
  | _, _ => false
theorem relBs_ok : ∀ {vs : List V} {us : List Value}, relBs vs us = true → Vals vs us
  | [], [], _ => .nil
  | v :: vs, u :: us, h => by
    obtain ⟨h1, h2⟩ := Bool.and_eq_true_iff.mp (show (He.relB v u && relBs vs us) = true from h)
    exact .cons (He.relB_ok h1) (relBs_ok h2)
  | [], _ :: _, h => by cases h
  | _ :: _, [], h => by cases h
theorem flatVs_ok {S : Sur} {R : Addr → Prop} {F : Ads} {M : Mem} {H : Hp} : ∀ {ds : List D} {vs : List V}, flatVs ds = some vs → Rels S R F M H ds vs
  | [], vs, h => by cases h; exact .nil
  | d :: r, vs, h => by
    unfold flatVs at h
    cases q : flatV d with
    | none => rw [q] at h; cases h
    | some v =>
      cases q2 : flatVs r with
      | none => rw [q, q2] at h; cases h
      | some us =>
        rw [q, q2] at h; cases h
        refine .cons ?_ (flatVs_ok q2)
        cases d <;> first | (cases q; constructor) | cases q
/-- a written tuple of flat values -/
def tupB (K : PySem.W.Frag) (a : Addr) (ds : List D) : Bool := match K.lookup a, flatVs ds with
  | some o, some vs => (match o.cls, o.data with | .type n, .seq its _ => n == "tuple" && (decide (its.size ≤ sizeLine) && relBs vs its.toList) | _, _ => false)
  | _, _ => false
theorem tupB_ok {K : PySem.W.Frag} {a : Addr} {ds : List D} (h : tupB K a ds = true) : ∃ vs, (∀ H0, SqT K H0 a vs) ∧ flatVs ds = some vs := by
  unfold tupB at h
  cases q : K.lookup a with
  | none => rw [q] at h; cases h
  | some o =>
    cases q2 : flatVs ds with
    | none => rw [q, q2] at h; cases h
    | some vs =>
      rw [q, q2] at h
      refine ⟨vs, fun H0 => .inr ?_, rfl⟩
      obtain ⟨oc, od, dt, sl⟩ := o
      simp only at h
      split at h
      · rename_i n its m
        simp only [Bool.and_eq_true, beq_iff_eq, decide_eq_true_eq] at h
        exact ⟨_, its, m, q, by rw [h.1], rfl, h.2.1, relBs_ok h.2.2⟩
      · cases h
def constB (K : PySem.W.Frag) (c : Str × D) : Bool := match c.2 with
  | .ktp ds => (match PySem.W.nsIn K mainGlobals c.1 with | some (some (.ref a)) => tupB K a ds | _ => false)
  | _ => constF K c
theorem constF_ok {K : PySem.W.Frag} {h : Heap} {mg : Str → Option Value} (X : K.In h) (G : h.Ns mainGlobals mg) {S : Sur} {c : Str × D} (q : constF K c = true) : ∃ v u, mg c.1 = some u ∧ RelV v u ∧ ∀ R F M H, RelD S R F M H c.2 v := by
  unfold constF at q
  split at q
  · rename_i v u hv hu
    refine ⟨v, u, PySem.W.mg_of X G hu, He.relB_ok q, fun R F M H => ?_⟩
    obtain ⟨x, d⟩ := c
    cases d <;> first | (cases hv; constructor) | cases hv
  · cases q
theorem constB_ok {K : PySem.W.Frag} {h : Heap} {mg : Str → Option Value} (X : K.In h) (G : h.Ns mainGlobals mg) {S : Sur} (hS : S.K = K) {c : Str × D} (q : constB K c = true) : ∃ v u, mg c.1 = some u ∧ RelV v u ∧ ∀ R F M H, RelD S R F M H c.2 v := by
  obtain ⟨x, d⟩ := c
  unfold constB at q
  simp only at q
  split at q
  · rename_i ds
    split at q
    · rename_i a hu
      obtain ⟨vs, h1, h2⟩ := tupB_ok q
      refine ⟨.ref a, _, PySem.W.mg_of X G hu, rfl, fun R F M H => ?_⟩
      have r := flatVs_ok (S := S) (R := R) (F := F) (M := M) (H := H) h2
      exact .ktp a ds vs (by rw [hS]; exact h1) r.1 r.2
    · cases q
  · exact constF_ok X G (c := (x, d)) q
def bltNames : List Str := ["int", "bool", "str", "list", "tuple", "dict", "len", "abs", "max", "min", "sum", "all", "any", "isinstance", "range", "reversed", "enumerate", "zip", "sorted", "repr"]
theorem blt_mem {x : Str} (h : (tyOfN x).isSome = true ∨ (∃ n, (bltF x n).isSome = true) ∨ x = "range" ∨ x = "reversed" ∨ x = "enumerate" ∨ x = "zip") : x ∈ bltNames := by
  rcases h with h | ⟨n, h⟩ | rfl | rfl | rfl | rfl
  · unfold tyOfN at h
    repeat' split at h
    all_goals first | (rename_i e; subst e; decide) | (subst_vars; decide) | cases h
  · unfold bltF at h
    by_cases e : x = "repr" ∧ n = 1
    · rw [e.1]; decide
    · rw [if_neg e] at h
      by_cases e : x = "max" ∧ n = 3
      · rw [e.1]; decide
      rw [if_neg e] at h
      unfold bltF0 at h
      repeat' split at h
      all_goals first | (rename_i e; rw [e.1]; decide) | cases h
  all_goals decide
def Prg.cn (p : Prg) : List Str := (p.excs.map (·.name) ++ p.clss) ++ p.ics
def Prg.fn (p : Prg) : List He.DefD := (p.recs.map (fun r => ⟨(r.name, none), r.name, r.name, r.A, r.st, r.sc, [], []⟩) ++ p.excs.map fun r => ⟨(r.name, some "__init__"), "__init__", r.qual, r.A, r.st, r.sc, [], []⟩) ++ p.meths.map fun m => ⟨(m.cls, some "__init__"), "__init__", m.qual, m.ini.A, m.ini.st, m.ini.sc, [], []⟩
/-- an own class that makes instances -/
def insB (p : Prg) (K : PySem.W.Frag) (c : Str) : Bool := (He.Fa.glo c).ok K && (PySem.W.plainGet K (He.ga K c) Str.empty && (PySem.W.hasDictIn K (He.ga K c) && (PySem.W.plainOver K (He.ga K c) && (He.eqO (PySem.W.findIn K (.ref (He.ga K c)) "__setattr__") (some (some (.builtin "object.__setattr__"))) &&
  ((p.ifs.all fun f => He.eqO (PySem.W.findIn K (.ref (He.ga K c)) f) (some none)) && (PySem.W.makesIn K (He.ga K c) && (He.eqO (PySem.W.findIn K (.ref (He.ga K c)) "__init__") (some (some (.ref (He.ma K (He.ga K c) "__init__")))) && (PySem.W.isFn K (.ref (He.ma K (He.ga K c) "__init__")) && PySem.W.keepIn K (.ref (He.ga K c))))))))))
def isiB (p : Prg) (K : PySem.W.Frag) (c : Str) : Bool := He.eqO (PySem.W.findIn K (.ref (He.ga K c)) "__class__") (some (some (.builtin "object.__class__"))) && (decide (PySem.W.specialIn K (.builtin "object.__class__") "__get__" = some (some (.builtin "getset_descriptor.__get__"))) && (decide (PySem.W.takesIn K (.builtin "object.__class__") = some true) &&
  (decide (PySem.W.mroIn K (He.ga K c) (.type "object") = some true) && ((tyNames.all fun n => decide (PySem.W.kitOne K (.ref (He.ga K c)) (.type n) = some false)) && ((p.ics.all fun c' => decide (PySem.W.kitOne K (.ref (He.ga K c)) (.ref (He.ga K c')) = some (c == c'))) && (baseTys.all fun n => decide (PySem.W.kitOne K (.type n) (.ref (He.ga K c)) = some false)))))))
/-- a name for math.comb -/
def modB (K : PySem.W.Frag) (x : Str) : Bool := match PySem.W.nsIn K mainGlobals x with
  | some (some (.builtin id)) => x == ("comb" : Str) && id == "math.comb"
  | _ => false
def Prg.ex (p : Prg) (K : PySem.W.Frag) : Bool := (bltNames.all fun x => (He.Fa.free x).ok K) && ((p.recs.all fun r => (He.Fa.glo r.name).ok K) && ((p.consts.all fun c => constB K c) && ((p.excs.all fun r => excB K r) && ((p.clss.all fun x => (He.Fa.glo x).ok K) &&
  ((p.cn.all fun c => p.clss.all fun x => decide (PySem.W.exmOne K (.ref (He.ga K c)) (.ref (He.ga K x)) = some (p.sub c x))) && ((p.ics.all fun c => insB p K c) && ((p.ics.all fun c => isiB p K c) && (p.mods.all fun x => modB K x))))))))
def Prg.sur (p : Prg) (K : PySem.W.Frag) : Sur := ⟨K, fun c => if c ∈ p.cn then some (He.ga K c) else none⟩
theorem lookup_mem2 {α : Type} {x : Str} {a : α} : ∀ {l : List (Str × α)}, l.lookup x = some a → (x, a) ∈ l
  | [], h => by cases h
  | (y, b) :: r, h => by
    rw [List.lookup_cons] at h
    cases e : x == y with
    | true =>
      rw [e] at h
      cases h
      have : x = y := by simpa using e
      subst this
      exact List.mem_cons_self
    | false => rw [e] at h; exact List.mem_cons_of_mem _ (lookup_mem2 h)
section
variable {p : Prg} {P : Program} {w : World} {K : PySem.W.Frag} {h base : Heap} {mg : Str → Option Value}
theorem initD_keep {qual : Str} {C fI : Addr} {fd : FuncData} {r : Exr} (T : OexC K C) (hno : PySem.W.findIn K (.ref C) r.fld = some none) (Fn : FunD K "__init__" qual r.A r.st r.sc [] [] fI fd) (hi : initB r = true) :
    FnOk P w K mg base CX0 1 fI fd ["self", r.fld] (spKeep K C r.fld) ∧ Binds K fd ["self", r.fld] [] := by
  obtain ⟨h1, hi⟩ := He.ba hi
  obtain ⟨h2, hi⟩ := He.ba hi
  obtain ⟨h3, hi⟩ := He.ba hi
  obtain ⟨v0, hi⟩ := He.ba hi
  obtain ⟨v1, d1⟩ := He.ba hi
  refine ⟨?_, (binds_of Fn h3).1⟩
  refine Fn.ok (scB_ok h2) (fun vs H Q E h => ?_) fun cdv A outer s H vs Q E hr h => ?_
  · obtain ⟨a, v, rfl, _⟩ := h
    rfl
  · obtain ⟨a, v, rfl, ha, hq⟩ := h
    split at h1
    · rename_i s p1 f p2 g p3 p4 hst
      simp only [Bool.and_eq_true, beq_iff_eq] at h1
      obtain ⟨⟨rfl, rfl⟩, rfl⟩ := h1
      rw [hst]
      refine ⟨_, pss_one (ps_ost (pe_var (i := 0) rfl (vis_of v0) (by decide) (by decide)) (pe_var (i := 1) rfl (vis_of v1) (okN_1 d1) (okN_2 d1))), ?_⟩
      exact ⟨v, rfl, .ref a, rfl, a, C, rfl, T, hno, .inl ⟨ha, fun dx n ne => hq dx n ne⟩⟩
    · cases h1
/-- the surroundings, by the Boolean -/
theorem glob_of (X : K.In h) (G : h.Ns mainGlobals mg) (c : He.SaysD [] p.fn K) (e : p.ex K = true) (hi : p.excs.all initB = true) : Glob (p.sur K) p P w K mg base := by
  obtain ⟨e1, e⟩ := He.ba e
  obtain ⟨e2, e⟩ := He.ba e
  obtain ⟨e3, e⟩ := He.ba e
  obtain ⟨e4, e⟩ := He.ba e
  obtain ⟨e5, e⟩ := He.ba e
  obtain ⟨e6, e⟩ := He.ba e
  obtain ⟨e7, e⟩ := He.ba e
  obtain ⟨e8, e9⟩ := He.ba e
  have onlyC : ∀ {c : Str} {C : Addr}, (p.sur K).cls c = some C → C = He.ga K c := fun {c C} h => by
    have h : (if c ∈ p.cn then some (He.ga K c) else none) = some C := h
    split at h
    · cases h; rfl
    · cases h
  have inC : ∀ x ∈ p.cn, (p.sur K).cls x = some (He.ga K x) := fun x m => if_pos m
  refine ⟨rfl, fun x hx => He.free_ok X G (List.all_eq_true.mp e1 x (blt_mem hx)), fun r hr => ?_, fun x d hd => ?_, fun r hr => ?_, fun x hx => ?_, fun c0 C hc hC => ?_, ?_, fun m hm => ?_, fun x hx hm => ?_⟩
  · obtain ⟨fd, F⟩ := c.defs (d := ⟨(r.name, none), r.name, r.name, r.A, r.st, r.sc, [], []⟩) (List.mem_append_left _ (List.mem_append_left _ (List.mem_map.mpr ⟨r, hr, rfl⟩)))
    exact ⟨_, fd, He.glo_ok X G (List.all_eq_true.mp e2 r hr), F⟩
  · exact constB_ok X G rfl (c := (x, d)) (List.all_eq_true.mp e3 _ (lookup_mem2 hd))
  · obtain ⟨fd, F⟩ := c.defs (d := ⟨(r.name, some "__init__"), "__init__", r.qual, r.A, r.st, r.sc, [], []⟩) (List.mem_append_left _ (List.mem_append_right _ (List.mem_map.mpr ⟨r, hr, rfl⟩)))
    obtain ⟨q1, q⟩ := He.ba (List.all_eq_true.mp e4 r hr)
    obtain ⟨q0, q⟩ := He.ba q
    obtain ⟨q2, q⟩ := He.ba q
    obtain ⟨q3, q⟩ := He.ba q
    obtain ⟨q4, q⟩ := He.ba q
    obtain ⟨q5, q6⟩ := He.ba q
    have ox := oexB_ok q2
    have ii := initD_keep (P := P) (w := w) (mg := mg) (base := base) ox (He.eqO_ok q4) F (List.all_eq_true.mp hi r hr)
    refine ⟨_, _, fd, He.glo_ok X G q1, inC _ (List.mem_append_left _ (List.mem_append_left _ (List.mem_map.mpr ⟨r, hr, rfl⟩))), q0, ox, xfB_ok q3, He.eqO_ok q4, He.eqO_ok q5, ?_, ii.1, ii.2⟩
    unfold PySem.W.isFn at q6
    simpa using q6
  · refine ⟨_, He.glo_ok X G (List.all_eq_true.mp e5 x hx), inC _ (List.mem_append_left _ (List.mem_append_right _ hx)), fun c0 C' hC => ?_⟩
    have hC : (if c0 ∈ p.cn then some (He.ga K c0) else none) = some C' := hC
    split at hC
    · rename_i m
      cases hC
      have q := List.all_eq_true.mp e6 c0 m
      exact of_decide_eq_true (List.all_eq_true.mp q x hx)
    · cases hC
  · obtain rfl := onlyC hC
    have hm : c0 ∈ p.ics := by simpa using hc
    obtain ⟨q1, q⟩ := He.ba (List.all_eq_true.mp e7 c0 hm)
    obtain ⟨q2, q⟩ := He.ba q
    obtain ⟨q3, q⟩ := He.ba q
    obtain ⟨q4, q⟩ := He.ba q
    obtain ⟨q5, q⟩ := He.ba q
    obtain ⟨q6, q⟩ := He.ba q
    exact ⟨⟨q2, q3, q4, He.eqO_ok q5⟩, fun f hf => He.eqO_ok (List.all_eq_true.mp q6 f (by simpa using hf))⟩
  · have clsI : ∀ c0, p.ics.contains c0 = true → Cls K (He.ga K c0) := fun c0 hc => by
      have hm : c0 ∈ p.ics := by simpa using hc
      obtain ⟨q1, q⟩ := He.ba (List.all_eq_true.mp e7 c0 hm)
      obtain ⟨q2, q⟩ := He.ba q
      obtain ⟨q3, q⟩ := He.ba q
      obtain ⟨q4, q⟩ := He.ba q
      obtain ⟨q5, q⟩ := He.ba q
      exact ⟨q2, q3, q4, He.eqO_ok q5⟩
    have isI : ∀ c0, p.ics.contains c0 = true → isiB p K c0 = true := fun c0 hc => List.all_eq_true.mp e8 c0 (by simpa using hc)
    refine ⟨fun c0 C hc hC => ?_, fun c0 C hc hC n hn => ?_, fun c0 C c1 C1 hc hC hc1 hC1 => ?_, fun c0 C hc hC n hn => ?_⟩
    · obtain rfl := onlyC hC
      obtain ⟨q1, q⟩ := He.ba (isI c0 hc)
      obtain ⟨q2, q⟩ := He.ba q
      obtain ⟨q3, q⟩ := He.ba q
      obtain ⟨q4, q⟩ := He.ba q
      exact ⟨clsI c0 hc, He.eqO_ok q1, of_decide_eq_true q2, of_decide_eq_true q3, of_decide_eq_true q4⟩
    · obtain rfl := onlyC hC
      obtain ⟨q1, q⟩ := He.ba (isI c0 hc)
      obtain ⟨q2, q⟩ := He.ba q
      obtain ⟨q3, q⟩ := He.ba q
      obtain ⟨q4, q⟩ := He.ba q
      obtain ⟨q5, q⟩ := He.ba q
      exact of_decide_eq_true (List.all_eq_true.mp q5 n hn)
    · obtain rfl := onlyC hC
      obtain rfl := onlyC hC1
      obtain ⟨q1, q⟩ := He.ba (isI c0 hc)
      obtain ⟨q2, q⟩ := He.ba q
      obtain ⟨q3, q⟩ := He.ba q
      obtain ⟨q4, q⟩ := He.ba q
      obtain ⟨q5, q⟩ := He.ba q
      obtain ⟨q6, q⟩ := He.ba q
      exact of_decide_eq_true (List.all_eq_true.mp q6 c1 (by simpa using hc1))
    · obtain rfl := onlyC hC
      obtain ⟨q1, q⟩ := He.ba (isI c0 hc)
      obtain ⟨q2, q⟩ := He.ba q
      obtain ⟨q3, q⟩ := He.ba q
      obtain ⟨q4, q⟩ := He.ba q
      obtain ⟨q5, q⟩ := He.ba q
      obtain ⟨q6, q7⟩ := He.ba q
      exact of_decide_eq_true (List.all_eq_true.mp q7 n hn)
  · have hi2 : m.cls ∈ p.ics := List.mem_map.mpr ⟨m, hm, rfl⟩
    obtain ⟨fd, F⟩ := c.defs (d := ⟨(m.cls, some "__init__"), "__init__", m.qual, m.ini.A, m.ini.st, m.ini.sc, [], []⟩) (List.mem_append_right _ (List.mem_map.mpr ⟨m, hm, rfl⟩))
    obtain ⟨q1, q⟩ := He.ba (List.all_eq_true.mp e7 m.cls hi2)
    obtain ⟨q2, q⟩ := He.ba q
    obtain ⟨q3, q⟩ := He.ba q
    obtain ⟨q4, q⟩ := He.ba q
    obtain ⟨q5, q⟩ := He.ba q
    obtain ⟨q6, q⟩ := He.ba q
    obtain ⟨q7, q⟩ := He.ba q
    obtain ⟨q8, q⟩ := He.ba q
    obtain ⟨q9, q10⟩ := He.ba q
    exact ⟨_, _, fd, He.glo_ok X G q1, inC _ (List.mem_append_right _ hi2), ⟨q7, He.eqO_ok q8, q9, q10⟩, F⟩
  · have hb := List.all_eq_true.mp e9 x (by simpa using hm)
    unfold modB at hb
    split at hb
    · rename_i id hu
      simp only [Bool.and_eq_true, beq_iff_eq] at hb
      rw [PySem.W.mg_of X G hu, hb.2]
    · cases hb
end

theorem walk_ofEB {l : PySem.W.OpenLaw} {n k : Nat} {q : Program} {loose : List Str} {XP : (Str → Option Value) → Heap → Prop} {YP : World → Heap → Prop} {d : DefRec} {CX : World → CXT} {x : Str}
    (hn : l.most = some n) (hn2 : n ≤ sizeLine) (hdf : d.params.defaults = []) (hr : Room k callerA)
    (F : ∀ (w : World) (mg : Str → Option Value) (fa : Addr) (h : Heap), YP w h → h.Ns mainGlobals mg → mg d.name = some (.ref fa) →
      ∃ (K : PySem.W.Frag) (fd : FuncData) (sp : Sp), K.In h ∧ (∀ (s : Shared) (u : Value), BindsTo s fd ⟨[u], []⟩ [(x, u)]) ∧
        (∀ (H : Hp) (a : Addr) (ns : List Int), ns.length ≤ n → (∀ z ∈ ns, Builtin.Int.intBits z ≤ 1048576) → Only H → SqL K H a (ns.map V.int) → sp [.ref a] H (fun v _ => v = .bl true) fun _ _ _ => False) ∧
        ∀ base : Heap, K.In base → base.Ns mainGlobals mg → FnG l.prog w K mg base (CX w) k fa fd [x] sp)
    (hCX : ∀ (w : World) (H : Hp) (s : Shared) (e : Value) (s' : Shared), CX w [] H s (fun _ _ _ => False) e s' → False) :
    PySem.W.WalkO q loose XP YP l.row.toRowW d [] (fun f vs => PySem.call f vs) := by
  refine Att.attach_callB hn hdf fun w s₀ s₁ mg mb fa o pm cd doc a vs ns G Y ho hd hcd hmg hobj hints hlen hbits hg => ?_
  obtain ⟨K, fd, sp, KX, hb, hsp, hF⟩ := F w mg fa _ Y G.T.g hmg
  exact lawG KX G.T.g G.T.b G.T.builtins G.T.nolimit hg hobj hints (Nat.le_trans hlen hn2) hr hF hb (fun H hO hS => hsp H a ns hlen hbits hO hS) fun H e s' => hCX w H s₁ e s'
/-- THE END: the law's def, called with any script, tells True -/
theorem law_end {l : PySem.W.OpenLaw} {n k m : Nat} {q : Program} {loose : List Str} {XP : (Str → Option Value) → Heap → Prop} {d : DefRec} {p : Prg} {T : Tbl} (ok : p.ok T) (hi : p.excs.all initB = true) (hn : l.most = some n) (hn2 : n ≤ sizeLine) (hdf : d.params.defaults = [])
    (hr : Room (2 * k + 2) callerA) {rl : Rec} (hl : rl ∈ p.recs) {x : Str} (hps : rl.ps = [x]) (hname : d.name = rl.name)
    (goal : ∀ ns : List Int, ns.length ≤ n → (∀ z ∈ ns, Builtin.Int.intBits z ≤ 1048576) → ∃ M, callI T p.sub k rl.name [.scr (ns.map D.int)] [] = .ok (.bl true) M) :
    PySem.W.WalkO q loose XP (He.hookX m [] p.fn [] [] p.ex).says l.row.toRowW d [] (fun f vs => PySem.call f vs) := by
  refine walk_ofEB (CX := fun w => L2.CX l.prog w) (x := x) hn hn2 hdf hr (fun w mg fa h Y G hmg => ?_) fun w H s e s' h => ?_
  · obtain ⟨K, KX, c⟩ := Y
    obtain ⟨fd, F⟩ := c.t.d.defs (d := ⟨(rl.name, none), rl.name, rl.name, rl.A, rl.st, rl.sc, [], []⟩) (List.mem_append_left _ (List.mem_append_left _ (List.mem_map.mpr ⟨rl, hl, rfl⟩)))
    have gl : ∀ base : Heap, K.In base → base.Ns mainGlobals mg → Glob (p.sur K) p l.prog w K mg base := fun base hb hm => glob_of hb hm c.t.d c.more hi
    have gl0 := gl h KX G
    have e : He.fAd K ((rl.name, none) : Str × Option Str) = fa := by
      obtain ⟨f, fd2, hm2, _⟩ := gl0.defs rl hl
      have hg : (He.Fa.glo rl.name).ok K = true := by
        have c2 : p.ex K = true := c.more
        obtain ⟨_, c2⟩ := He.ba c2
        exact List.all_eq_true.mp (He.ba c2).1 rl hl
      have h1 := He.glo_ok KX G hg
      rw [hname, h1] at hmg
      cases hmg
      rfl
    rw [e] at F
    have B := binds_of F (ok rl (List.mem_append_left _ hl)).2.2
    refine ⟨K, fd, spOf (p.sur K) 1 (callI T p.sub k rl.name), KX, fun s u => ?_, fun H a ns h1 h2 hO hS => ?_, fun base hb hm => ?_⟩
    · have b := B.2.1 s [u] (by rw [hps]; rfl)
      rw [hps] at b
      exact b
    · obtain ⟨M, hM⟩ := goal ns h1 h2
      refine ⟨fun _ => False, [], [], [.scr (ns.map D.int)], ⟨rfl, fun n c e => by simp at e, fun n m c d a e => by simp at e, fun a z => z.elim⟩, .cons ?_ .nil, rfl, ?_⟩
      · refine .scr a (ns.map D.int) (ns.map V.int) ?_ (by simp) fun i d v h1 h2 => ?_
        · rcases hS with hS | hS
          · refine .inl ⟨⟨fun ⟨n, c, e, _⟩ => by simp at e, fun z => z, ?_⟩, hS⟩
            rcases hS with hS | ⟨o, hS⟩
            · exact ⟨_, hS⟩
            · exact ⟨_, hS⟩
          · exact .inr fun H0 => .inr hS
        · rw [List.getElem?_map] at h1 h2
          cases q : ns[i]? with
          | none => rw [q] at h1; cases h1
          | some z => rw [q] at h1 h2; cases h1; cases h2; exact .int z
      · rw [hM]
        intro F' H' l' s' v rv
        cases rv
        rfl
    · have f := all_ok (gl base hb hm) ok k rl (List.mem_append_left _ hl) _ _ fa fd F
      rw [hps] at f
      exact f
  · obtain ⟨a, B, H', cls, d, _, _, _, _, _, _, _, z⟩ := h
    exact z
/-! ### the table off the program's text -/
def mkRec (d : DefRec) (N : List Str) : Rec := ⟨d.name, d.params.args.map (·.arg), N, d.params, d.body, d.scope⟩
def initOf : List Stmt → Option (Arguments × List Stmt × Scope)
  | [] => none
  | .FunctionDef _ a b _ _ _ sc _ _ _ :: _ => some (a, b, sc)
  | _ :: r => initOf r
def mkExr : Stmt → Exr
  | .ClassDef n _ _ b _ _ _ _ _ _ _ => match initOf b with
    | some (a, st, sc) => ⟨n, ((a.args.map (·.arg)).getD 1 ""), n ++ ".__init__", a, st, sc⟩
    | none => ⟨n, "", "", ⟨[], [], none, [], [], none, []⟩, [], ⟨.function, [], false, false, []⟩⟩
  | _ => ⟨"", "", "", ⟨[], [], none, [], [], none, []⟩, [], ⟨.function, [], false, false, []⟩⟩
/-- an own class that makes instances, off its text; N: the names of its __init__ -/
def mkMtr (c : Stmt) (N : List Str) : Mtr := match c with
  | .ClassDef n _ _ b _ _ _ _ _ _ _ => match initOf b with
    | some (a, st, sc) => ⟨n, n ++ ".__init__", ⟨n ++ ".__init__", a.args.map (·.arg), N, a, st, sc⟩⟩
    | none => ⟨n, "", ⟨"", [], N, ⟨[], [], none, [], [], none, []⟩, [], ⟨.function, [], false, false, []⟩⟩⟩
  | _ => ⟨"", "", ⟨"", [], N, ⟨[], [], none, [], [], none, []⟩, [], ⟨.function, [], false, false, []⟩⟩⟩
def subOf (l : List (Str × Str)) (a b : Str) : Bool := l.contains (a, b)
end En

set_option Elab.async false
set_option linter.all false
set_option maxRecDepth 100000
/-! E16: what has to hold ahead, so that the engine's run ends as wished (weakest preconditions). -/
namespace En
open PySem PySem.Spec PyProof.Rows L2
abbrev Xp := Str → List (Str × D) → Mem → Prop
/-- a result as wished -/
def wR {α : Type} (r : Res α) (Q : α → Mem → Prop) (X : Xp) : Prop := match r with
  | .ok a M => Q a M
  | .exc c fs M => X c fs M
  | .bad => False
theorem wR_bind {α β : Type} {r : Res α} {f : α → Mem → Res β} {Q : β → Mem → Prop} {X : Xp} (h : wR r (fun a M => wR (f a M) Q X) X) : wR (r.bind f) Q X := by
  cases r <;> exact h
theorem wR_mono {α : Type} {r : Res α} {Q Q' : α → Mem → Prop} {X X' : Xp} (h : wR r Q X) (k : ∀ a M, Q a M → Q' a M) (kx : ∀ c fs M, X c fs M → X' c fs M) : wR r Q' X' := by
  cases r with
  | ok a M => exact k a M h
  | exc c fs M => exact kx c fs M h
  | bad => exact h.elim
theorem wR_of {α : Type} {r : Res α} {a : α} {M : Mem} {Q : α → Mem → Prop} {X : Xp} (e : r = .ok a M) (h : Q a M) : wR r Q X := by rw [e]; exact h
mutual
noncomputable def wE (C : CT) : Ex → Ev → Mem → (D → Mem → Prop) → Xp → Prop
  | .var i, e, M, Q, _ => match e[i]? with | some (some d) => Q d M | _ => False
  | .cst d, _, M, Q, _ => Q d M
  | .op o a b, e, M, Q, X => wE C a e M (fun x M1 => wE C b e M1 (fun y M2 => wR (o.g x y M2) Q X) X) X
  | .neg a, e, M, Q, X => wE C a e M (fun x M1 => wR (gNeg x M1) Q X) X
  | .and a b, e, M, Q, X => wE C a e M (fun x M1 => wR (tru x M1) (fun t M2 => (t = true → wE C b e M2 Q X) ∧ (t = false → Q x M2)) X) X
  | .or a b, e, M, Q, X => wE C a e M (fun x M1 => wR (tru x M1) (fun t M2 => (t = true → Q x M2) ∧ (t = false → wE C b e M2 Q X)) X) X
  | .not a, e, M, Q, X => wE C a e M (fun x M1 => wR (tru x M1) (fun t M2 => Q (.bl (!t)) M2) X) X
  | .ife c a b, e, M, Q, X => wT C c e M (fun t M1 => (t = true → wE C a e M1 Q X) ∧ (t = false → wE C b e M1 Q X)) X
  | .chain o p a b c, e, M, Q, X => wE C a e M (fun x M1 => wE C b e M1 (fun y M2 => wR (o.g x y M2) (fun z M3 => ∃ t, z = .bl t ∧ (t = true → wE C c e M3 (fun u M4 => wR (p.g y u M4) Q X) X) ∧ (t = false → Q (.bl false) M3)) X) X) X
  | .blt b es, e, M, Q, X => wEs C es e M (fun ds M1 => wR (b.g ds M1) Q X) X
  | .rngL c es, e, M, Q, X => wEs C es e M (fun ds M1 => wR (gRngL c ds M1) Q X) X
  | .call f n es, e, M, Q, X => wEs C es e M (fun ds M1 => ds.length = n ∧ wR (C f ds M1) Q X) X
  | .callK f n ord es, e, M, Q, X => wEs C es e M (fun ds M1 => (pick ord ds).length = n ∧ wR (C f (pick ord ds) M1) Q X) X
  | .ix a b, e, M, Q, X => wE C a e M (fun x M1 => wE C b e M1 (fun y M2 => wR (gIx x y M2) Q X) X) X
  | .sl c a lo hi, e, M, Q, X => wE C a e M (fun x M1 => wO C lo e M1 (fun l M2 => wO C hi e M2 (fun h M3 => wR (gSl c x l h M3) Q X) X) X) X
  | .tup es, e, M, Q, X => wEs C es e M (fun ds M1 => wR (gTup ds M1) Q X) X
  | .lst c es, e, M, Q, X => wEs C es e M (fun ds M1 => wR (gLst c ds M1) Q X) X
  | .lc c w t cond x own, e, M, Q, X => wW C w e M (fun wd M1 => wd.ds.length ≤ 1000000 ∧ ∃ inv : Nat → List D → Mem → Prop, inv 0 [] M1 ∧
      (∀ (i : Nat) (d : D) (acc : List D) (M2 : Mem), wd.ds[i]? = some d → inv i acc M2 → Gd wd M2 ∧ ∃ e1, tnSet t d (wipeE e own) = some e1 ∧
        wC C cond e1 M2 (fun b M3 => (b = true → wE C x e1 M3 (fun z M4 => inv (i + 1) (acc ++ [z]) M4) (fun _ _ _ => False)) ∧ (b = false → inv (i + 1) acc M3)) (fun _ _ _ => False)) ∧
      ∀ acc M2, inv wd.ds.length acc M2 → Gd wd M2 ∧ wR (fin c acc M2) Q X) X
  | .mt m o es, e, M, Q, X => wE C o e M (fun x M1 => (rdLst M1 x).isSome = true ∧ wEs C es e M1 (fun ds M2 => wR (m.g x ds M2) Q X) X) X
  | .d0, _, M, Q, _ => Q (.dct []) M
  | .exv c fld es, e, M, Q, X => wEs C es e M (fun ds M1 => wR (gExv c fld ds M1) Q X) X
  | .fld cs fs f a, e, M, Q, X => wE C a e M (fun x M1 => wR (gFld cs fs f x M1) Q X) X
  | .make c key n es, e, M, Q, X => wEs C es e M (fun ds M1 => wR (gMake c n (C key) ds M1) Q X) X
  | .dsp ks es, e, M, Q, X => wEs C es e M (fun ds M1 => wR (gDsp ks ds M1) Q X) (fun _ _ _ => False)
noncomputable def wT (C : CT) : Ex → Ev → Mem → (Bool → Mem → Prop) → Xp → Prop
  | .and a b, e, M, Q, X => wT C a e M (fun t M1 => (t = true → wT C b e M1 Q X) ∧ (t = false → Q false M1)) X
  | .or a b, e, M, Q, X => wT C a e M (fun t M1 => (t = true → Q true M1) ∧ (t = false → wT C b e M1 Q X)) X
  | .not a, e, M, Q, X => wT C a e M (fun t M1 => Q (!t) M1) X
  | .ife _ _ _, _, _, _, _ => False
  | .var i, e, M, Q, X => match e[i]? with | some (some d) => wR (tru d M) Q X | _ => False
  | .cst d, _, M, Q, X => wR (tru d M) Q X
  | .op o a b, e, M, Q, X => wE C a e M (fun x M1 => wE C b e M1 (fun y M2 => wR (o.g x y M2) (fun z M3 => wR (tru z M3) Q X) X) X) X
  | .neg a, e, M, Q, X => wE C a e M (fun x M1 => wR (gNeg x M1) (fun z M3 => wR (tru z M3) Q X) X) X
  | .chain o p a b c, e, M, Q, X => wE C a e M (fun x M1 => wE C b e M1 (fun y M2 => wR (o.g x y M2) (fun z M3 => ∃ t, z = .bl t ∧ (t = true → wE C c e M3 (fun u M4 => wR (p.g y u M4) (fun z M5 => wR (tru z M5) Q X) X) X) ∧ (t = false → Q false M3)) X) X) X
  | .blt b es, e, M, Q, X => wEs C es e M (fun ds M1 => wR (b.g ds M1) (fun z M3 => wR (tru z M3) Q X) X) X
  | .rngL c es, e, M, Q, X => wEs C es e M (fun ds M1 => wR (gRngL c ds M1) (fun z M3 => wR (tru z M3) Q X) X) X
  | .call f n es, e, M, Q, X => wEs C es e M (fun ds M1 => ds.length = n ∧ wR (C f ds M1) (fun z M3 => wR (tru z M3) Q X) X) X
  | .callK f n ord es, e, M, Q, X => wEs C es e M (fun ds M1 => (pick ord ds).length = n ∧ wR (C f (pick ord ds) M1) (fun z M3 => wR (tru z M3) Q X) X) X
  | .ix a b, e, M, Q, X => wE C a e M (fun x M1 => wE C b e M1 (fun y M2 => wR (gIx x y M2) (fun z M3 => wR (tru z M3) Q X) X) X) X
  | .sl _ _ _ _, _, _, _, _ => False
  | .tup es, e, M, Q, X => wEs C es e M (fun ds M1 => wR (gTup ds M1) (fun z M3 => wR (tru z M3) Q X) X) X
  | .lst _ _, _, _, _, _ => False
  | .lc _ _ _ _ _ _, _, _, _, _ => False
  | .mt m o es, e, M, Q, X => wE C o e M (fun x M1 => (rdLst M1 x).isSome = true ∧ wEs C es e M1 (fun ds M2 => wR (m.g x ds M2) (fun z M3 => wR (tru z M3) Q X) X) X) X
  | .d0, _, _, _, _ => False
  | .exv _ _ _, _, _, _, _ => False
  | .fld cs fs f a, e, M, Q, X => wE C a e M (fun x M1 => wR (gFld cs fs f x M1) (fun z M3 => wR (tru z M3) Q X) X) X
  | .make _ _ _ _, _, _, _, _ => False
  | .dsp _ _, _, _, _, _ => False
noncomputable def wEs (C : CT) : Exs → Ev → Mem → (List D → Mem → Prop) → Xp → Prop
  | .nil, _, M, Q, _ => Q [] M
  | .cons a es, e, M, Q, X => wE C a e M (fun x M1 => wEs C es e M1 (fun xs M2 => Q (x :: xs) M2) X) X
  | .star a es, e, M, Q, X => wE C a e M (fun x M1 => ∃ xs, rdSeq M1 x = some xs ∧ wEs C es e M1 (fun ys M2 => Q (xs ++ ys) M2) X) X
noncomputable def wO (C : CT) : Exo → Ev → Mem → (Option Int → Mem → Prop) → Xp → Prop
  | .none, _, M, Q, _ => Q none M
  | .some a, e, M, Q, X => wE C a e M (fun x M1 => ∃ i, x = .int i ∧ Q (some i) M1) X
noncomputable def wC (C : CT) : Exo → Ev → Mem → (Bool → Mem → Prop) → Xp → Prop
  | .none, _, M, Q, _ => Q true M
  | .some a, e, M, Q, X => wT C a e M Q X
noncomputable def wW (C : CT) : Wx → Ev → Mem → (Wd → Mem → Prop) → Xp → Prop
  | .seq a, e, M, Q, X => wE C a e M (fun x M1 => wR (gWd x M1) Q X) X
  | .rng1 es, e, M, Q, X => wEs C es e M (fun ds M1 => wR (gRng1 ds M1) Q X) X
  | .rng2 es, e, M, Q, X => wEs C es e M (fun ds M1 => wR (gRng2 ds M1) Q X) X
  | .rng3 es, e, M, Q, X => wEs C es e M (fun ds M1 => wR (gRng3 ds M1) Q X) X
  | .rev a, e, M, Q, X => wE C a e M (fun x M1 => wR (gRev x M1) Q X) X
  | .enum es, e, M, Q, X => wEs C es e M (fun ds M1 => wR (gEnum ds M1) Q X) X
  | .zip es, e, M, Q, X => wEs C es e M (fun ds M1 => wR (gZip ds M1) Q X) X
end
theorem loopC_ok {w : Wd} {t : Tn} {ft : FE Bool} {fe : FE D} {e : Ev} {inv : Nat → List D → Mem → Prop}
    (step : ∀ (i : Nat) (d : D) (acc : List D) (M2 : Mem), w.ds[i]? = some d → inv i acc M2 → Gd w M2 ∧ ∃ e1, tnSet t d e = some e1 ∧ wR (ft e1 M2) (fun b M3 => (b = true → wR (fe e1 M3) (fun z M4 => inv (i + 1) (acc ++ [z]) M4) (fun _ _ _ => False)) ∧ (b = false → inv (i + 1) acc M3)) (fun _ _ _ => False)) :
    ∀ (n i : Nat) (acc : List D) (M : Mem), w.ds.length - i = n → i ≤ w.ds.length → inv i acc M → (∀ acc M2, inv w.ds.length acc M2 → Gd w M2) → ∃ zs M', loopC w t ft fe e (w.ds.drop i) M = .ok zs M' ∧ inv w.ds.length (acc ++ zs) M' := by
  intro n
  induction n with
  | zero =>
    intro i acc M hn hi h fin
    have e1 : i = w.ds.length := by omega
    subst e1
    refine ⟨[], M, ?_, by rw [List.append_nil]; exact h⟩
    rw [List.drop_length]
    unfold loopC
    rw [if_pos (fin acc M h)]
  | succ n ih =>
    intro i acc M hn hi h fin
    have hlt : i < w.ds.length := by omega
    obtain ⟨g, e1, ht, hw⟩ := step i w.ds[i] acc M (List.getElem?_eq_getElem hlt) h
    rw [List.drop_eq_getElem_cons hlt]
    unfold loopC
    rw [if_pos g, ht]
    simp only
    cases q : ft e1 M with
    | ok b M2 =>
      rw [q] at hw
      obtain ⟨h1, h2⟩ := hw
      cases b with
      | true =>
        have h1 := h1 rfl
        simp only
        cases q2 : fe e1 M2 with
        | ok z M3 =>
          rw [q2] at h1
          obtain ⟨zs, M', e3, h3⟩ := ih (i + 1) (acc ++ [z]) M3 (by omega) hlt h1 fin
          refine ⟨z :: zs, M', ?_, ?_⟩
          · simp only [e3]
          · rw [List.append_assoc] at h3; exact h3
        | exc c fs M3 => rw [q2] at h1; exact h1.elim
        | bad => rw [q2] at h1; exact h1.elim
      | false =>
        simp only
        exact ih (i + 1) acc M2 (by omega) hlt (h2 rfl) fin
    | exc c fs M2 => rw [q] at hw; exact hw.elim
    | bad => rw [q] at hw; exact hw.elim
mutual
theorem wE_ok (C : CT) : ∀ (x : Ex) (e : Ev) (M : Mem) (Q : D → Mem → Prop) (X : Xp), wE C x e M Q X → wR (iE C x e M) Q X
  | .var i, e, M, Q, X, h => by
    unfold wE at h
    unfold iE fVar
    split at h
    · rename_i d q; first | exact h | (rw [q]; exact h)
    · exact h.elim
  | .cst d, e, M, Q, X, h => by unfold wE at h; unfold iE; exact h
  | .op o a b, e, M, Q, X, h => by
    unfold wE at h; unfold iE
    exact wR_bind (wR_mono (wE_ok C a e M _ X h) (fun x M1 h => wR_bind (wR_mono (wE_ok C b e M1 _ X h) (fun y M2 h => h) fun _ _ _ z => z)) fun _ _ _ z => z)
  | .neg a, e, M, Q, X, h => by unfold wE at h; unfold iE; exact wR_bind (wE_ok C a e M _ X h)
  | .and a b, e, M, Q, X, h => by
    unfold wE at h; unfold iE
    refine wR_bind (wR_mono (wE_ok C a e M _ X h) (fun x M1 h => wR_bind (wR_mono h (fun t M2 h => ?_) fun _ _ _ z => z)) fun _ _ _ z => z)
    cases t with
    | true => exact wE_ok C b e M2 _ X (h.1 rfl)
    | false => exact h.2 rfl
  | .or a b, e, M, Q, X, h => by
    unfold wE at h; unfold iE
    refine wR_bind (wR_mono (wE_ok C a e M _ X h) (fun x M1 h => wR_bind (wR_mono h (fun t M2 h => ?_) fun _ _ _ z => z)) fun _ _ _ z => z)
    cases t with
    | true => exact h.1 rfl
    | false => exact wE_ok C b e M2 _ X (h.2 rfl)
  | .not a, e, M, Q, X, h => by
    unfold wE at h; unfold iE
    exact wR_bind (wR_mono (wE_ok C a e M _ X h) (fun x M1 h => wR_bind (wR_mono h (fun t M2 h => h) fun _ _ _ z => z)) fun _ _ _ z => z)
  | .ife c a b, e, M, Q, X, h => by
    unfold wE at h; unfold iE
    refine wR_bind (wR_mono (wT_ok C c e M _ X h) (fun t M1 h => ?_) fun _ _ _ z => z)
    cases t with
    | true => exact wE_ok C a e M1 _ X (h.1 rfl)
    | false => exact wE_ok C b e M1 _ X (h.2 rfl)
  | .chain o p a b c, e, M, Q, X, h => by
    unfold wE at h; unfold iE
    refine wR_bind (wR_mono (wE_ok C a e M _ X h) (fun x M1 h => wR_bind (wR_mono (wE_ok C b e M1 _ X h) (fun y M2 h => wR_bind (wR_mono h (fun z M3 h => ?_) fun _ _ _ z => z)) fun _ _ _ z => z)) fun _ _ _ z => z)
    obtain ⟨t, rfl, h1, h2⟩ := h
    cases t with
    | true => exact wR_bind (wE_ok C c e M3 _ X (h1 rfl))
    | false => exact h2 rfl
  | .blt b es, e, M, Q, X, h => by unfold wE at h; unfold iE; exact wR_bind (wEs_ok C es e M _ X h)
  | .rngL c es, e, M, Q, X, h => by unfold wE at h; unfold iE; exact wR_bind (wEs_ok C es e M _ X h)
  | .call f n es, e, M, Q, X, h => by
    unfold wE at h; unfold iE
    exact wR_bind (wR_mono (wEs_ok C es e M _ X h) (fun ds M1 h => by unfold gCall; rw [if_pos h.1]; exact h.2) fun _ _ _ z => z)
  | .callK f n ord es, e, M, Q, X, h => by
    unfold wE at h; unfold iE
    exact wR_bind (wR_mono (wEs_ok C es e M _ X h) (fun ds M1 h => by unfold gCall; rw [if_pos h.1]; exact h.2) fun _ _ _ z => z)
  | .ix a b, e, M, Q, X, h => by
    unfold wE at h; unfold iE
    exact wR_bind (wR_mono (wE_ok C a e M _ X h) (fun x M1 h => wR_bind (wR_mono (wE_ok C b e M1 _ X h) (fun y M2 h => h) fun _ _ _ z => z)) fun _ _ _ z => z)
  | .sl c a lo hi, e, M, Q, X, h => by
    unfold wE at h; unfold iE
    exact wR_bind (wR_mono (wE_ok C a e M _ X h) (fun x M1 h => wR_bind (wR_mono (wO_ok C lo e M1 _ X h) (fun y M2 h => wR_bind (wO_ok C hi e M2 _ X h)) fun _ _ _ z => z)) fun _ _ _ z => z)
  | .tup es, e, M, Q, X, h => by unfold wE at h; unfold iE; exact wR_bind (wEs_ok C es e M _ X h)
  | .lst c es, e, M, Q, X, h => by unfold wE at h; unfold iE; exact wR_bind (wEs_ok C es e M _ X h)
  | .lc c w t cond x own, e, M, Q, X, h => by
    unfold wE at h; unfold iE
    refine wR_bind (wR_mono (wW_ok C w e M _ X h) (fun wd M1 h => ?_) fun _ _ _ z => z)
    obtain ⟨hl, inv, h0, step, hfin⟩ := h
    rw [if_pos hl]
    obtain ⟨zs, M', e1, h1⟩ := loopC_ok (fe := iE C x) (ft := iC C cond) (e := wipeE e own) (t := t) (fun i d acc M2 hd hi => by
      obtain ⟨g, e1, ht, hw⟩ := step i d acc M2 hd hi
      exact ⟨g, e1, ht, wR_mono (wC_ok C cond e1 M2 _ _ hw) (fun b M3 h => ⟨fun hb => wE_ok C x e1 M3 _ _ (h.1 hb), h.2⟩) fun _ _ _ z => z⟩) wd.ds.length 0 [] M1 (by omega) (Nat.zero_le _) h0 fun acc M2 h => (hfin acc M2 h).1
    rw [List.drop_zero] at e1
    rw [e1]
    exact (hfin _ _ h1).2
  | .mt m o es, e, M, Q, X, h => by
    unfold wE at h; unfold iE
    refine wR_bind (wR_mono (wE_ok C o e M _ X h) (fun x M1 h => ?_) fun _ _ _ z => z)
    rw [if_pos h.1]
    exact wR_bind (wEs_ok C es e M1 _ X h.2)
  | .d0, e, M, Q, X, h => by unfold wE at h; unfold iE; exact h
  | .exv c fld es, e, M, Q, X, h => by unfold wE at h; unfold iE; exact wR_bind (wEs_ok C es e M _ X h)
  | .fld cs fs f a, e, M, Q, X, h => by unfold wE at h; unfold iE; exact wR_bind (wE_ok C a e M _ X h)
  | .make c key n es, e, M, Q, X, h => by unfold wE at h; unfold iE; exact wR_bind (wEs_ok C es e M _ X h)
  | .dsp ks es, e, M, Q, X, h => by
    unfold wE at h; unfold iE fDsp
    have q := wEs_ok C es e M _ _ h
    revert q
    cases iEs C es e M with
    | ok ds M1 => intro h; exact h
    | exc => intro h; exact h.elim
    | bad => intro h; exact h.elim
theorem wT_ok (C : CT) : ∀ (x : Ex) (e : Ev) (M : Mem) (Q : Bool → Mem → Prop) (X : Xp), wT C x e M Q X → wR (iT C x e M) Q X
  | .and a b, e, M, Q, X, h => by
    unfold wT at h; unfold iT
    refine wR_bind (wR_mono (wT_ok C a e M _ X h) (fun t M1 h => ?_) fun _ _ _ z => z)
    cases t with
    | true => exact wT_ok C b e M1 _ X (h.1 rfl)
    | false => exact h.2 rfl
  | .or a b, e, M, Q, X, h => by
    unfold wT at h; unfold iT
    refine wR_bind (wR_mono (wT_ok C a e M _ X h) (fun t M1 h => ?_) fun _ _ _ z => z)
    cases t with
    | true => exact h.1 rfl
    | false => exact wT_ok C b e M1 _ X (h.2 rfl)
  | .not a, e, M, Q, X, h => by
    unfold wT at h; unfold iT
    exact wR_bind (wR_mono (wT_ok C a e M _ X h) (fun t M1 h => h) fun _ _ _ z => z)
  | .ife _ _ _, _, _, _, _, h => by unfold wT at h; exact h.elim
  | .var i, e, M, Q, X, h => by
    unfold wT at h; unfold iT fTru fVar
    split at h
    · rename_i d q; first | exact h | (rw [q]; exact h)
    · exact h.elim
  | .cst d, e, M, Q, X, h => by unfold wT at h; unfold iT; exact h
  | .op o a b, e, M, Q, X, h => by
    unfold wT at h; unfold iT
    refine wR_bind (wR_mono (wE_ok C (.op o a b) e M (fun z M3 => wR (tru z M3) Q X) X ?_) (fun z M3 h => h) fun _ _ _ z => z)
    unfold wE; exact h
  | .neg a, e, M, Q, X, h => by
    unfold wT at h; unfold iT
    refine wR_bind (wR_mono (wE_ok C (.neg a) e M (fun z M3 => wR (tru z M3) Q X) X ?_) (fun z M3 h => h) fun _ _ _ z => z)
    unfold wE; exact h
  | .chain o p a b c, e, M, Q, X, h => by
    unfold wT at h; unfold iT
    refine wR_bind (wR_mono (wE_ok C (.chain o p a b c) e M (fun z M3 => wR (tru z M3) Q X) X ?_) (fun z M3 h => h) fun _ _ _ z => z)
    unfold wE; exact h
  | .blt b es, e, M, Q, X, h => by
    unfold wT at h; unfold iT
    refine wR_bind (wR_mono (wE_ok C (.blt b es) e M (fun z M3 => wR (tru z M3) Q X) X ?_) (fun z M3 h => h) fun _ _ _ z => z)
    unfold wE; exact h
  | .rngL c es, e, M, Q, X, h => by
    unfold wT at h; unfold iT
    refine wR_bind (wR_mono (wE_ok C (.rngL c es) e M (fun z M3 => wR (tru z M3) Q X) X ?_) (fun z M3 h => h) fun _ _ _ z => z)
    unfold wE; exact h
  | .call f n es, e, M, Q, X, h => by
    unfold wT at h; unfold iT
    refine wR_bind (wR_mono (wE_ok C (.call f n es) e M (fun z M3 => wR (tru z M3) Q X) X ?_) (fun z M3 h => h) fun _ _ _ z => z)
    unfold wE; exact h
  | .callK f n ord es, e, M, Q, X, h => by
    unfold wT at h; unfold iT
    refine wR_bind (wR_mono (wE_ok C (.callK f n ord es) e M (fun z M3 => wR (tru z M3) Q X) X ?_) (fun z M3 h => h) fun _ _ _ z => z)
    unfold wE; exact h
  | .ix a b, e, M, Q, X, h => by
    unfold wT at h; unfold iT
    refine wR_bind (wR_mono (wE_ok C (.ix a b) e M (fun z M3 => wR (tru z M3) Q X) X ?_) (fun z M3 h => h) fun _ _ _ z => z)
    unfold wE; exact h
  | .sl _ _ _ _, _, _, _, _, h => by unfold wT at h; exact h.elim
  | .tup es, e, M, Q, X, h => by
    unfold wT at h; unfold iT
    refine wR_bind (wR_mono (wE_ok C (.tup es) e M (fun z M3 => wR (tru z M3) Q X) X ?_) (fun z M3 h => h) fun _ _ _ z => z)
    unfold wE; exact h
  | .lst _ _, _, _, _, _, h => by unfold wT at h; exact h.elim
  | .lc _ _ _ _ _ _, _, _, _, _, h => by unfold wT at h; exact h.elim
  | .mt m o es, e, M, Q, X, h => by
    unfold wT at h; unfold iT
    refine wR_bind (wR_mono (wE_ok C (.mt m o es) e M (fun z M3 => wR (tru z M3) Q X) X ?_) (fun z M3 h => h) fun _ _ _ z => z)
    unfold wE; exact h
  | .d0, _, _, _, _, h => by unfold wT at h; exact h.elim
  | .exv _ _ _, _, _, _, _, h => by unfold wT at h; exact h.elim
  | .fld cs fs f a, e, M, Q, X, h => by
    unfold wT at h; unfold iT
    refine wR_bind (wR_mono (wE_ok C (.fld cs fs f a) e M (fun z M3 => wR (tru z M3) Q X) X ?_) (fun z M3 h => h) fun _ _ _ z => z)
    unfold wE; exact h
  | .make _ _ _ _, _, _, _, _, h => by unfold wT at h; exact h.elim
  | .dsp _ _, _, _, _, _, h => by unfold wT at h; exact h.elim
theorem wEs_ok (C : CT) : ∀ (x : Exs) (e : Ev) (M : Mem) (Q : List D → Mem → Prop) (X : Xp), wEs C x e M Q X → wR (iEs C x e M) Q X
  | .nil, e, M, Q, X, h => by unfold wEs at h; unfold iEs; exact h
  | .cons a es, e, M, Q, X, h => by
    unfold wEs at h; unfold iEs
    exact wR_bind (wR_mono (wE_ok C a e M _ X h) (fun x M1 h => wR_bind (wR_mono (wEs_ok C es e M1 _ X h) (fun xs M2 h => h) fun _ _ _ z => z)) fun _ _ _ z => z)
  | .star a es, e, M, Q, X, h => by
    unfold wEs at h; unfold iEs fConsS
    refine wR_bind (wR_mono (wE_ok C a e M _ X h) (fun x M1 h => ?_) fun _ _ _ z => z)
    obtain ⟨xs, e1, h⟩ := h
    simp only [e1]
    exact wR_bind (wEs_ok C es e M1 _ X h)
theorem wO_ok (C : CT) : ∀ (x : Exo) (e : Ev) (M : Mem) (Q : Option Int → Mem → Prop) (X : Xp), wO C x e M Q X → wR (iO C x e M) Q X
  | .none, e, M, Q, X, h => by unfold wO at h; unfold iO; exact h
  | .some a, e, M, Q, X, h => by
    unfold wO at h; unfold iO
    refine wR_bind (wR_mono (wE_ok C a e M _ X h) (fun x M1 h => ?_) fun _ _ _ z => z)
    obtain ⟨i, rfl, h⟩ := h
    exact h
theorem wC_ok (C : CT) : ∀ (x : Exo) (e : Ev) (M : Mem) (Q : Bool → Mem → Prop) (X : Xp), wC C x e M Q X → wR (iC C x e M) Q X
  | .none, e, M, Q, X, h => by unfold wC at h; unfold iC; exact h
  | .some a, e, M, Q, X, h => by unfold wC at h; unfold iC; exact wT_ok C a e M Q X h
theorem wW_ok (C : CT) : ∀ (x : Wx) (e : Ev) (M : Mem) (Q : Wd → Mem → Prop) (X : Xp), wW C x e M Q X → wR (iW C x e M) Q X
  | .seq a, e, M, Q, X, h => by unfold wW at h; unfold iW; exact wR_bind (wE_ok C a e M _ X h)
  | .rng1 es, e, M, Q, X, h => by unfold wW at h; unfold iW; exact wR_bind (wEs_ok C es e M _ X h)
  | .rng2 es, e, M, Q, X, h => by unfold wW at h; unfold iW; exact wR_bind (wEs_ok C es e M _ X h)
  | .rng3 es, e, M, Q, X, h => by unfold wW at h; unfold iW; exact wR_bind (wEs_ok C es e M _ X h)
  | .rev a, e, M, Q, X, h => by unfold wW at h; unfold iW; exact wR_bind (wE_ok C a e M _ X h)
  | .enum es, e, M, Q, X, h => by unfold wW at h; unfold iW; exact wR_bind (wEs_ok C es e M _ X h)
  | .zip es, e, M, Q, X, h => by unfold wW at h; unfold iW; exact wR_bind (wEs_ok C es e M _ X h)
end
end En

set_option Elab.async false
set_option linter.all false
set_option maxRecDepth 100000
/-! E17: the same for statements and defs. -/
namespace En
open PySem PySem.Spec PyProof.Rows L2
structure Po where
  nx : Ev → Mem → Prop
  rt : D → Mem → Prop
  bk : Ev → Mem → Prop
  ct : Ev → Mem → Prop
  ex : Ev → Xp
def wSR (r : SR) (P : Po) : Prop := match r with
  | .nx e M => P.nx e M
  | .rt d M => P.rt d M
  | .bk e M => P.bk e M
  | .ct e M => P.ct e M
  | .exc e c fs M => P.ex e c fs M
  | .bad => False
theorem toS_w {α : Type} {r : Res α} {e : Ev} {k : α → Mem → SR} {P : Po} (h : wR r (fun a M => wSR (k a M) P) (P.ex e)) : wSR (toS r e k) P := by
  cases r <;> exact h
mutual
noncomputable def wG (C : CT) : Tg → D → Ev → Mem → (Ev → Mem → Prop) → (Ev → Xp) → Prop
  | .nm i, d, e, M, N, _ => N (e.set i (some d)) M
  | .tup n ts, d, e, M, N, X => ∃ ds, (d = .tup ds ∨ d = .lst ds ∨ ∃ m, d = .loc m ∧ lstAt M m = some ds) ∧ ds.length = n ∧ wGs C ts ds e M N X
  | .sub o i, d, e, M, N, X => wE C o e M (fun ov M1 => wE C i e M1 (fun iv M2 => ∃ M3, putAt M2 ov iv d = some M3 ∧ N e M3) (X e)) (X e)
noncomputable def wGs (C : CT) : Tgs → List D → Ev → Mem → (Ev → Mem → Prop) → (Ev → Xp) → Prop
  | .nil, ds, e, M, N, _ => ds = [] ∧ N e M
  | .cons t ts, ds, e, M, N, X => ∃ d r, ds = d :: r ∧ wG C t d e M (fun e1 M1 => wGs C ts r e1 M1 N X) X
end
def Po.only (N : Ev → Mem → Prop) (X : Ev → Xp) : Po := ⟨N, fun _ _ => False, fun _ _ => False, fun _ _ => False, X⟩
theorem wSR_then {r : SR} {k : Ev → Mem → SR} {N : Ev → Mem → Prop} {X : Ev → Xp} (h : wSR r (Po.only (fun e M => wSR (k e M) (Po.only N X)) X)) : wSR (r.andThen k) (Po.only N X) := by
  cases r <;> first | exact h | exact h.elim
mutual
theorem wG_ok (C : CT) : ∀ (t : Tg) (d : D) (e : Ev) (M : Mem) (N : Ev → Mem → Prop) (X : Ev → Xp), wG C t d e M N X → wSR (iG C t d e M) (Po.only N X)
  | .nm i, d, e, M, N, X, h => by unfold wG at h; unfold iG; exact h
  | .tup n ts, d, e, M, N, X, h => by
    unfold wG at h; unfold iG gTupT
    obtain ⟨ds, hd, hl, h⟩ := h
    rcases hd with rfl | rfl | ⟨m, rfl, hm⟩
    · simp only
      rw [if_pos hl]
      exact wGs_ok C ts ds e M N X h
    · simp only
      rw [if_pos hl]
      exact wGs_ok C ts ds e M N X h
    · simp only
      rw [hm]
      simp only
      rw [if_pos hl]
      exact wGs_ok C ts ds e M N X h
  | .sub o i, d, e, M, N, X, h => by
    unfold wG at h; unfold iG gSubT
    refine toS_w (wR_mono (wE_ok C o e M _ _ h) (fun ov M1 h => toS_w (wR_mono (wE_ok C i e M1 _ _ h) (fun iv M2 h => ?_) fun _ _ _ z => z)) fun _ _ _ z => z)
    obtain ⟨M3, h1, h2⟩ := h
    rw [h1]; exact h2
theorem wGs_ok (C : CT) : ∀ (ts : Tgs) (ds : List D) (e : Ev) (M : Mem) (N : Ev → Mem → Prop) (X : Ev → Xp), wGs C ts ds e M N X → wSR (iGs C ts ds e M) (Po.only N X)
  | .nil, ds, e, M, N, X, h => by unfold wGs at h; unfold iGs gNil; obtain ⟨rfl, h⟩ := h; exact h
  | .cons t ts, ds, e, M, N, X, h => by
    unfold wGs at h; unfold iGs gCons
    obtain ⟨d, r, rfl, h⟩ := h
    simp only
    refine wSR_then ?_
    have := wG_ok C t d e M _ X h
    revert this
    cases iG C t d e M with
    | nx e1 M1 => intro h; exact wGs_ok C ts r e1 M1 N X h
    | exc e1 c fs M1 => intro h; exact h
    | rt => intro h; exact h.elim
    | bk => intro h; exact h.elim
    | ct => intro h; exact h.elim
    | bad => intro h; exact h.elim
end
mutual
noncomputable def wS (C : CT) (sub : Str → Str → Bool) : Sx → Ev → Mem → Po → Prop
  | .pass, e, M, P => P.nx e M
  | .asg t x, e, M, P => wE C x e M (fun d M1 => wG C t d e M1 P.nx P.ex) (P.ex e)
  | .par i j es, e, M, P => wEs C es e M (fun ds M1 => ∃ a b, ds = [a, b] ∧ P.nx ((e.set i (some a)).set j (some b)) M1) (P.ex e)
  | .par3 i j k es, e, M, P => wEs C es e M (fun ds M1 => ∃ a b c, ds = [a, b, c] ∧ P.nx (((e.set i (some a)).set j (some b)).set k (some c)) M1) (P.ex e)
  | .aug o i x, e, M, P => match e[i]? with
    | some (some v) => wE C x e M (fun y M1 => wR (o.g v y M1) (fun z M2 => P.nx (e.set i (some z)) M2) (P.ex e)) (P.ex e)
    | _ => False
  | .expr x, e, M, P => wE C x e M (fun _ M1 => P.nx e M1) (P.ex e)
  | .ret x, e, M, P => wE C x e M (fun d M1 => P.rt d M1) (P.ex e)
  | .retN, _, M, P => P.rt .non M
  | .ife c a b, e, M, P => wT C c e M (fun t M1 => (t = true → wSs C sub a e M1 P) ∧ (t = false → wSs C sub b e M1 P)) (P.ex e)
  | .whl c b, e, M, P => ∃ inv : Nat → Ev → Mem → Prop, (∃ m, inv m e M) ∧ ∀ m e M, inv m e M → wT C c e M (fun t M1 => (t = true → wSs C sub b e M1 ⟨fun e M => ∃ m', m' < m ∧ inv m' e M, P.rt, P.nx, fun e M => ∃ m', m' < m ∧ inv m' e M, P.ex⟩) ∧ (t = false → P.nx e M1)) (P.ex e)
  | .forr w t b, e, M, P => wW C w e M (fun wd M1 => ∃ inv : Nat → Ev → Mem → Prop, inv 0 e M1 ∧
      (∀ (i : Nat) (d : D) (e : Ev) (M : Mem), wd.ds[i]? = some d → inv i e M → Gd wd M ∧ wG C t d e M (fun e M => wSs C sub b e M ⟨inv (i + 1), P.rt, P.nx, inv (i + 1), P.ex⟩) P.ex) ∧ ∀ e M, inv wd.ds.length e M → Gd wd M ∧ P.nx e M) (P.ex e)
  | .brk, e, M, P => P.bk e M
  | .cnt, e, M, P => P.ct e M
  | .raise c fld es, e, M, P => wEs C es e M (fun ds M1 => ∃ d, ds = [d] ∧ P.ex e c [(fld, d)] M1) (P.ex e)
  | .fset cs fs f o x, e, M, P => wE C x e M (fun v M1 => wE C o e M1 (fun d M2 => ∃ n c as, insAt M2 d = some (n, c, as) ∧ (cs.contains c && fs.contains f && decide (as.length < 1000)) = true ∧ P.nx e (M2.set n (some (.ins c (putD f v as))))) (P.ex e)) (P.ex e)
  | .tri b hs, e, M, P => wSs C sub b e M ⟨P.nx, P.rt, P.bk, P.ct, fun e1 c fs M1 => wSR (handleD sub e1 c fs M1 hs) P⟩
noncomputable def wSs (C : CT) (sub : Str → Str → Bool) : Sxs → Ev → Mem → Po → Prop
  | .nil, e, M, P => P.nx e M
  | .one s, e, M, P => wS C sub s e M P
  | .cons s r, e, M, P => wS C sub s e M ⟨fun e1 M1 => wSs C sub r e1 M1 P, P.rt, P.bk, P.ct, P.ex⟩
end
theorem while_w {c : FE Bool} {f : FS} {P : Po} {inv : Nat → Ev → Mem → Prop} (step : ∀ m e M, inv m e M → wR (c e M) (fun t M1 => (t = true → wSR (f e M1) ⟨fun e M => ∃ m', m' < m ∧ inv m' e M, P.rt, P.nx, fun e M => ∃ m', m' < m ∧ inv m' e M, P.ex⟩) ∧ (t = false → P.nx e M1)) (P.ex e)) :
    ∀ (m : Nat) (e : Ev) (M : Mem), inv m e M → ∃ r n, whileN c f n e M = some r ∧ wSR r P := by
  intro m
  induction m using Nat.strongRecOn with
  | _ m ih =>
    intro e M h
    have s := step m e M h
    cases q : c e M with
    | bad => rw [q] at s; exact s.elim
    | exc k fs M1 => rw [q] at s; exact ⟨.exc e k fs M1, 1, by unfold whileN; rw [q], s⟩
    | ok t M1 =>
      rw [q] at s
      cases t with
      | false => exact ⟨.nx e M1, 1, by unfold whileN; rw [q], s.2 rfl⟩
      | true =>
        have b := s.1 rfl
        cases q2 : f e M1 with
        | nx e2 M2 =>
          rw [q2] at b
          obtain ⟨m', lt, hi⟩ := b
          obtain ⟨r, n, h1, h2⟩ := ih m' lt e2 M2 hi
          exact ⟨r, n + 1, by unfold whileN; rw [q]; simp only; rw [q2]; exact h1, h2⟩
        | ct e2 M2 =>
          rw [q2] at b
          obtain ⟨m', lt, hi⟩ := b
          obtain ⟨r, n, h1, h2⟩ := ih m' lt e2 M2 hi
          exact ⟨r, n + 1, by unfold whileN; rw [q]; simp only; rw [q2]; exact h1, h2⟩
        | bk e2 M2 => rw [q2] at b; exact ⟨.nx e2 M2, 1, by unfold whileN; rw [q]; simp only; rw [q2], b⟩
        | rt d M2 => rw [q2] at b; exact ⟨.rt d M2, 1, by unfold whileN; rw [q]; simp only; rw [q2], b⟩
        | exc e2 k fs M2 => rw [q2] at b; exact ⟨.exc e2 k fs M2, 1, by unfold whileN; rw [q]; simp only; rw [q2], b⟩
        | bad => rw [q2] at b; exact b.elim
theorem for_w {w : Wd} {g : FG} {f : FS} {P : Po} {inv : Nat → Ev → Mem → Prop} (step : ∀ (i : Nat) (d : D) (e : Ev) (M : Mem), w.ds[i]? = some d → inv i e M → Gd w M ∧ wSR (g d e M) (Po.only (fun e M => wSR (f e M) ⟨inv (i + 1), P.rt, P.nx, inv (i + 1), P.ex⟩) P.ex))
    (fin : ∀ e M, inv w.ds.length e M → Gd w M ∧ P.nx e M) : ∀ (n i : Nat) (e : Ev) (M : Mem), w.ds.length - i = n → i ≤ w.ds.length → inv i e M → wSR (loopF w g f (w.ds.drop i) e M) P := by
  intro n
  induction n with
  | zero =>
    intro i e M hn hi h
    have e1 : i = w.ds.length := by omega
    subst e1
    rw [List.drop_length]
    unfold loopF
    rw [if_pos (fin e M h).1]
    exact (fin e M h).2
  | succ n ih =>
    intro i e M hn hi h
    have hlt : i < w.ds.length := by omega
    obtain ⟨gd, hg⟩ := step i w.ds[i] e M (List.getElem?_eq_getElem hlt) h
    rw [List.drop_eq_getElem_cons hlt]
    unfold loopF
    rw [if_pos gd]
    cases q : g w.ds[i] e M with
    | nx e1 M1 =>
      rw [q] at hg
      have hg : wSR (f e1 M1) ⟨inv (i + 1), P.rt, P.nx, inv (i + 1), P.ex⟩ := hg
      simp only [SR.only_nx]
      cases q2 : f e1 M1 with
      | nx e2 M2 => rw [q2] at hg; exact ih (i + 1) e2 M2 (by omega) hlt hg
      | ct e2 M2 => rw [q2] at hg; exact ih (i + 1) e2 M2 (by omega) hlt hg
      | bk e2 M2 => rw [q2] at hg; exact hg
      | rt d M2 => rw [q2] at hg; exact hg
      | exc e2 k fs M2 => rw [q2] at hg; exact hg
      | bad => rw [q2] at hg; exact hg.elim
    | exc e1 k fs M1 => rw [q] at hg; exact hg
    | rt => rw [q] at hg; exact hg.elim
    | bk => rw [q] at hg; exact hg.elim
    | ct => rw [q] at hg; exact hg.elim
    | bad => rw [q] at hg; exact hg.elim
theorem only_w {r : SR} {N : Ev → Mem → Prop} {P : Po} (h : wSR r (Po.only N P.ex)) (k : ∀ e M, N e M → P.nx e M) : wSR r.only P := by
  cases r with
  | nx e M => exact k e M h
  | exc e c fs M => exact h
  | _ => exact h.elim
mutual
theorem wS_ok (C : CT) (sub : Str → Str → Bool) : ∀ (x : Sx) (e : Ev) (M : Mem) (P : Po), wS C sub x e M P → wSR (iS C sub x e M) P
  | .pass, e, M, P, h => by unfold wS at h; unfold iS; exact h
  | .asg t x, e, M, P, h => by
    unfold wS at h; unfold iS
    exact toS_w (wR_mono (wE_ok C x e M _ _ h) (fun d M1 h => only_w (wG_ok C t d e M1 _ _ h) fun _ _ z => z) fun _ _ _ z => z)
  | .par i j es, e, M, P, h => by
    unfold wS at h; unfold iS
    refine toS_w (wR_mono (wEs_ok C es e M _ _ h) (fun d M1 h => ?_) fun _ _ _ z => z)
    obtain ⟨a, b, rfl, h⟩ := h
    exact h
  | .par3 i j k es, e, M, P, h => by
    unfold wS at h; unfold iS
    refine toS_w (wR_mono (wEs_ok C es e M _ _ h) (fun d M1 h => ?_) fun _ _ _ z => z)
    obtain ⟨a, b, c, rfl, h⟩ := h
    exact h
  | .aug o i x, e, M, P, h => by
    unfold wS at h; unfold iS sAug
    split at h
    · rename_i v q
      try rw [q]
      exact toS_w (wR_mono (wE_ok C x e M _ _ h) (fun d M1 h => toS_w h) fun _ _ _ z => z)
    · exact h.elim
  | .expr x, e, M, P, h => by unfold wS at h; unfold iS; exact toS_w (wE_ok C x e M _ _ h)
  | .ret x, e, M, P, h => by unfold wS at h; unfold iS; exact toS_w (wE_ok C x e M _ _ h)
  | .retN, e, M, P, h => by unfold wS at h; unfold iS; exact h
  | .ife c a b, e, M, P, h => by
    unfold wS at h; unfold iS
    refine toS_w (wR_mono (wT_ok C c e M _ _ h) (fun t M1 h => ?_) fun _ _ _ z => z)
    cases t with
    | true => exact wSs_ok C sub a e M1 P (h.1 rfl)
    | false => exact wSs_ok C sub b e M1 P (h.2 rfl)
  | .whl c b, e, M, P, h => by
    unfold wS at h; unfold iS
    obtain ⟨inv, ⟨m, h0⟩, step⟩ := h
    obtain ⟨r, n, h1, h2⟩ := while_w (c := iT C c) (f := iSs C sub b) (P := P) (inv := inv) (fun m e M hi => wR_mono (wT_ok C c e M _ _ (step m e M hi)) (fun t M1 h => ⟨fun ht => wSs_ok C sub b e M1 _ (h.1 ht), h.2⟩) fun _ _ _ z => z) m e M h0
    rw [sWhile_eq h1]
    exact h2
  | .forr w t b, e, M, P, h => by
    unfold wS at h; unfold iS
    refine toS_w (wR_mono (wW_ok C w e M _ _ h) (fun wd M1 h => ?_) fun _ _ _ z => z)
    obtain ⟨inv, h0, step, fin⟩ := h
    have q := for_w (g := iG C t) (f := iSs C sub b) (P := P) (inv := inv) (fun i d e M hd hi => by
      obtain ⟨g1, g2⟩ := step i d e M hd hi
      refine ⟨g1, ?_⟩
      have g3 := wG_ok C t d e M _ _ g2
      revert g3
      cases iG C t d e M with
      | nx e1 M1 => intro h; exact wSs_ok C sub b e1 M1 _ h
      | exc e1 c fs M1 => intro h; exact h
      | rt => intro h; exact h.elim
      | bk => intro h; exact h.elim
      | ct => intro h; exact h.elim
      | bad => intro h; exact h.elim) fin wd.ds.length 0 e M1 (by omega) (Nat.zero_le _) h0
    rw [List.drop_zero] at q
    exact q
  | .brk, e, M, P, h => by unfold wS at h; unfold iS; exact h
  | .cnt, e, M, P, h => by unfold wS at h; unfold iS; exact h
  | .raise c fld es, e, M, P, h => by
    unfold wS at h; unfold iS
    refine toS_w (wR_mono (wEs_ok C es e M _ _ h) (fun d M1 h => ?_) fun _ _ _ z => z)
    obtain ⟨a, rfl, h⟩ := h
    exact h
  | .fset cs fs f o x, e, M, P, h => by
    unfold wS at h; unfold iS
    refine toS_w (wR_mono (wE_ok C x e M _ _ h) (fun v M1 h => toS_w (wR_mono (wE_ok C o e M1 _ _ h) (fun d M2 h => ?_) fun _ _ _ z => z)) fun _ _ _ z => z)
    obtain ⟨n, c, as, h1, h2, h3⟩ := h
    show wSR (match insAt M2 d with
      | some (n, c, as) => if cs.contains c && fs.contains f && decide (as.length < 1000) then .nx e (M2.set n (some (.ins c (putD f v as)))) else .bad
      | none => .bad) P
    rw [h1]
    show wSR (if cs.contains c && fs.contains f && decide (as.length < 1000) then .nx e (M2.set n (some (.ins c (putD f v as)))) else .bad) P
    rw [if_pos h2]
    exact h3
  | .tri b hs, e, M, P, h => by
    unfold wS at h; unfold iS sTry
    have q := wSs_ok C sub b e M _ h
    revert q
    cases iSs C sub b e M with
    | exc e1 c fs M1 => intro h; exact h
    | nx => intro h; exact h
    | rt => intro h; exact h
    | bk => intro h; exact h
    | ct => intro h; exact h
    | bad => intro h; exact h.elim
theorem wSs_ok (C : CT) (sub : Str → Str → Bool) : ∀ (x : Sxs) (e : Ev) (M : Mem) (P : Po), wSs C sub x e M P → wSR (iSs C sub x e M) P
  | .nil, e, M, P, h => by unfold wSs at h; unfold iSs; exact h
  | .one s, e, M, P, h => by unfold wSs at h; unfold iSs; exact wS_ok C sub s e M P h
  | .cons s r, e, M, P, h => by
    unfold wSs at h; unfold iSs sSeq
    have q := wS_ok C sub s e M _ h
    revert q
    cases iS C sub s e M with
    | nx e1 M1 => intro h; exact wSs_ok C sub r e1 M1 P h
    | exc e1 c fs M1 => intro h; exact h
    | rt => intro h; exact h
    | bk => intro h; exact h
    | ct => intro h; exact h
    | bad => intro h; exact h.elim
end
/-- a def's body, run -/
def PoD (Q : D → Mem → Prop) (X : Xp) : Po := ⟨fun _ M => Q .non M, Q, fun _ _ => False, fun _ _ => False, fun _ => X⟩
theorem def_w {T : Tbl} {sub : Str → Str → Bool} {k : Nat} {x : Str} {n : Nat} {b : Sxs} {ds : List D} {M : Mem} {Q : D → Mem → Prop} {X : Xp} (hT : T.lookup x = some (n, b)) (h : wSs (callI T sub k) sub b (startE n ds) M (PoD Q X)) : wR (callI T sub (k + 1) x ds M) Q X := by
  have q := wSs_ok _ _ _ _ _ _ h
  show wR (match T.lookup x with | some (n, b) => runF n (iSs (callI T sub k) sub b) ds M | none => .bad) Q X
  rw [hT]
  show wR (runF n (iSs (callI T sub k) sub b) ds M) Q X
  unfold runF
  revert q
  cases iSs (callI T sub k) sub b (startE n ds) M with
  | nx e1 M1 => intro h; exact h
  | exc e1 c fs M1 => intro h; exact h
  | rt => intro h; exact h
  | bk => intro h; exact h.elim
  | ct => intro h; exact h.elim
  | bad => intro h; exact h.elim
end En

set_option Elab.async false
set_option linter.all false
set_option maxRecDepth 100000
/-! E18: the table read is the table. -/
namespace En
open PySem PySem.Spec PyProof.Rows L2
def Prg.T (p : Prg) : Tbl := p.every.filterMap fun r => (p.code r).map fun b => (r.name, r.N.length, b)
def Prg.okB (p : Prg) : Bool := (p.every.all fun r => (p.code r).isSome && (scB r.N r.ps r.sc && plainArgs r.A r.ps)) && (decide ((p.every.map (·.name)).Nodup) && p.excs.all initB)
theorem lookup_fm {p : Prg} : ∀ {l : List Rec}, (l.map (·.name)).Nodup → ∀ r ∈ l, ∀ b, p.code r = some b → (l.filterMap fun r => (p.code r).map fun b => (r.name, r.N.length, b)).lookup r.name = some (r.N.length, b)
  | [], _, r, m, _, _ => by cases m
  | q :: l, nd, r, m, b, h => by
    rw [List.map_cons, List.nodup_cons] at nd
    rcases List.mem_cons.mp m with rfl | m
    · rw [List.filterMap_cons, h]
      show List.lookup r.name ((r.name, r.N.length, b) :: _) = _
      rw [List.lookup_cons, beq_self_eq_true]
    · have ih := lookup_fm nd.2 r m b h
      rw [List.filterMap_cons]
      cases e : p.code q with
      | none => exact ih
      | some b2 =>
        show List.lookup r.name ((q.name, q.N.length, b2) :: _) = _
        rw [List.lookup_cons]
        have ne : (r.name == q.name) = false := by
          cases z : (r.name == q.name) with
          | false => rfl
          | true =>
            have e2 : r.name = q.name := by simpa using z
            exact absurd (List.mem_map.mpr ⟨r, m, e2⟩) nd.1
        rw [ne]
        exact ih
theorem Prg.ok_of {p : Prg} {T : Tbl} (h : p.okB = true) (e : p.T = T) : p.ok T ∧ p.excs.all initB = true := by
  unfold Prg.okB at h
  simp only [Bool.and_eq_true, List.all_eq_true, decide_eq_true_eq] at h
  obtain ⟨h1, h2, h3⟩ := h
  refine ⟨fun r m => ?_, List.all_eq_true.mpr h3⟩
  obtain ⟨c1, c2, c3⟩ := h1 r m
  obtain ⟨b, hb⟩ := Option.isSome_iff_exists.mp c1
  exact ⟨⟨b, hb, by rw [← e]; exact lookup_fm h2 r m b hb⟩, c2, c3⟩
end En

set_option Elab.async false
set_option linter.all false
set_option maxRecDepth 100000
set_option maxHeartbeats 0
namespace K40
open PySem PySem.Spec PyProof.Rows L2 En
def top (i : Nat) : Stmt := PySem.Challenge.pw_sparesum_k40_whole_three_values_kept.main.body.getD i (.Pass ⟨0, 0, 0, 0⟩)
def prog : Program := PySem.Challenge.pw_sparesum_k40_whole_three_values_kept
def recs : List Rec := [mkRec (HandSHeadRun.topDef prog 6) ["value"], mkRec (HandSHeadRun.topDef prog 7) ["value", "low", "high"], mkRec (HandSHeadRun.topDef prog 8) ["value"], mkRec (HandSHeadRun.topDef prog 13) ["view", "new", "told", "mends", "steps"], mkRec (HandSHeadRun.topDef prog 14) ["view"], mkRec (HandSHeadRun.topDef prog 15) ["view", "told", "_"], mkRec (HandSHeadRun.topDef prog 16) ["view", "_", "mends"], mkRec (HandSHeadRun.topDef prog 17) ["view", "has"], mkRec (HandSHeadRun.topDef prog 18) ["view", "value", "index", "has"], mkRec (HandSHeadRun.topDef prog 19) ["view", "value"], mkRec (HandSHeadRun.topDef prog 20) ["view", "value", "torn", "has"], mkRec (HandSHeadRun.topDef prog 21) ["view", "has", "told"], mkRec (HandSHeadRun.topDef prog 22) ["first", "second"], mkRec (HandSHeadRun.topDef prog 24) ["script", "k"], mkRec (HandSHeadRun.topDef prog 25) ["great"], mkRec (HandSHeadRun.topDef prog 26) ["box", "many", "digit", "mixed"], mkRec (HandSHeadRun.topDef prog 27) ["view", "u", "ahead", "behind", "content"], mkRec (HandSHeadRun.topDef prog 28) ["view", "content", "value", "u", "index", "one", "other"], mkRec (HandSHeadRun.topDef prog 29) ["box", "great", "many", "value"], mkRec (HandSHeadRun.topDef prog 30) ["view", "low"], mkRec (HandSHeadRun.topDef prog 31) ["box", "world", "u", "pair", "view", "low", "value", "writes", "handed", "turn", "told"], mkRec (HandSHeadRun.topDef prog 32) ["box", "great", "way", "drawn", "wide"], mkRec (HandSHeadRun.topDef prog 33) ["box", "world", "way", "many", "turn", "at"], mkRec (HandSHeadRun.topDef prog 34) ["world", "writes", "index", "content"], mkRec (HandSHeadRun.topDef prog 35) ["box", "world", "u", "pair", "turn", "value", "writes", "stop", "torn"], mkRec (HandSHeadRun.topDef prog 36) ["box", "world", "view", "left", "turn", "part"], mkRec (HandSHeadRun.topDef prog 37) ["box", "world", "way", "by_name", "low", "old", "new", "view", "writes", "index", "handed", "turn", "told", "u", "stop"], mkRec (HandSHeadRun.topDef prog 38) ["script", "box", "great", "worlds", "turn", "k", "again"]]
def excs : List Exr := [mkExr (top 2), mkExr (top 3), mkExr (top 4)]
def consts : List (Str × D) := [("GREATEST_PRIME", .int (997)), ("MOST_DISKS", .int (64)), ("NEXT", .ktp [.int (1), .int (2), .int (0)])]
def clss : List Str := ["SumError", "InvalidView", "InvalidValue", "TooFew"]
def subs : List (Str × Str) := [("SumError", "SumError"), ("InvalidView", "SumError"), ("InvalidView", "InvalidView"), ("InvalidValue", "SumError"), ("InvalidValue", "InvalidValue"), ("TooFew", "SumError"), ("TooFew", "TooFew")]
def names : List (Nat × Str) := [(6, ("is_integer" : Str)), (7, ("is_between" : Str)), (8, ("is_list" : Str)), (13, ("three_steps" : Str)), (14, ("three_can_be_left" : Str)), (15, ("three_told" : Str)), (16, ("three_mending" : Str)), (17, ("_ask_view" : Str)), (18, ("_writes_of" : Str)), (19, ("_left_from" : Str)), (20, ("_can_be_left_from" : Str)), (21, ("_three" : Str)), (22, ("_three_of_two" : Str)), (24, ("_law_cell" : Str)), (25, ("_law_box" : Str)), (26, ("_law_take" : Str)), (27, ("_law_form" : Str)), (28, ("_law_reading" : Str)), (29, ("_law_new_row" : Str)), (30, ("_law_passed" : Str)), (31, ("_law_told_right" : Str)), (32, ("_law_content" : Str)), (33, ("_law_losses" : Str)), (34, ("_law_written" : Str)), (35, ("_law_opened" : Str)), (36, ("_law_rests" : Str)), (37, ("_law_change" : Str)), (38, ("law" : Str))]
def cells : List Pos := [⟨34, 15, 34, 17⟩, ⟨36, 43, 36, 54⟩, ⟨54, 11, 54, 77⟩, ⟨66, 25, 66, 27⟩, ⟨73, 24, 73, 37⟩, ⟨75, 23, 75, 35⟩, ⟨76, 26, 76, 28⟩, ⟨81, 11, 81, 80⟩, ⟨115, 20, 115, 34⟩, ⟨141, 28, 141, 71⟩, ⟨161, 33, 161, 52⟩, ⟨195, 13, 195, 65⟩]
def meths : List Mtr := []
def ics : List Str := []
def ifs : List Str := []
def mods : List Str := []
def prg : Prg := ⟨recs, consts, excs, clss, cells, subOf subs, meths, ifs, mods⟩
def b_is_integer : Sxs :=
    (.one (.ret (.and (.blt .isi (.cons (.var 0) (.cons (.cst (.ty "int")) .nil))) (.not (.blt .isi (.cons (.var 0) (.cons (.cst (.ty "bool")) .nil)))))))
def b_is_between : Sxs :=
    (.one (.ret (.and (.call "is_integer" 1 (.cons (.var 0) .nil)) (.chain .le .le (.var 1) (.var 0) (.var 2)))))
def b_is_list : Sxs :=
    (.one (.ret (.blt .isi (.cons (.var 0) (.cons (.tup (.cons (.cst (.ty "list")) (.cons (.cst (.ty "tuple")) .nil))) .nil)))))
def b_three_steps : Sxs :=
    (.cons (.asg (.tup 2 (.cons (.nm 2) (.cons (.nm 3) .nil))) (.call "_three" 1 (.cons (.var 0) .nil)))
    (.cons (.ife (.op .gt (.blt .len (.cons (.var 3) .nil)) (.cst (.int 0))) (.one (.raise "InvalidView" "given" (.cons (.var 0) .nil))) .nil)
    (.cons (.ife (.not (.call "is_between" 3 (.cons (.var 1) (.cons (.cst (.int 0)) (.cons (.cst (.int 2)) .nil))))) (.one (.raise "InvalidValue" "given" (.cons (.var 1) .nil))) .nil)
    (.cons (.ife (.op .eq (.var 1) (.var 2)) (.one (.ret (.lst true .nil))) .nil)
    (.cons (.asg (.nm 4) (.call "_writes_of" 2 (.cons (.var 0) (.cons (.var 1) .nil))))
    (.one (.ret (.ife (.op .eq (.var 1) (.ix (.cst (.ktp [(.int 1), (.int 2), (.int 0)])) (.var 2))) (.var 4) (.blt (.revL true) (.cons (.var 4) .nil))))))))))
def b_three_can_be_left : Sxs :=
    (.cons (.expr (.call "_ask_view" 1 (.cons (.var 0) .nil)))
    (.cons (.ife (.op .eq (.blt .len (.cons (.var 0) .nil)) (.cst (.int 1))) (.one (.raise "TooFew" "count" (.cons (.blt .len (.cons (.var 0) .nil)) .nil))) .nil)
    (.one (.ret (.op .gt (.blt .len (.cons (.call "_left_from" 1 (.cons (.var 0) .nil)) .nil)) (.cst (.int 0)))))))
def b_three_told : Sxs :=
    (.cons (.asg (.tup 2 (.cons (.nm 1) (.cons (.nm 2) .nil))) (.call "_three" 1 (.cons (.var 0) .nil)))
    (.one (.ret (.var 1))))
def b_three_mending : Sxs :=
    (.cons (.asg (.tup 2 (.cons (.nm 1) (.cons (.nm 2) .nil))) (.call "_three" 1 (.cons (.var 0) .nil)))
    (.one (.ret (.var 2))))
def b__ask_view : Sxs :=
    (.cons (.ife (.or (.not (.call "is_list" 1 (.cons (.var 0) .nil))) (.not (.chain .le .le (.cst (.int 1)) (.blt .len (.cons (.var 0) .nil)) (.cst (.int 64))))) (.one (.raise "InvalidView" "given" (.cons (.var 0) .nil))) .nil)
    (.one (.ife (.not (.blt .all (.cons (.lc false (.seq (.var 0)) (.nm 1) .none (.call "is_between" 3 (.cons (.var 1) (.cons (.cst (.int 0)) (.cons (.op .sub (.cst (.int 997)) (.cst (.int 1))) .nil)))) [1]) .nil))) (.one (.raise "InvalidView" "given" (.cons (.var 0) .nil))) .nil)))
def b__writes_of : Sxs :=
    (.one (.ret (.lc true (.enum (.cons (.var 0) .nil)) (.tup [2, 3]) (.some (.op .ne (.var 3) (.var 1))) (.tup (.cons (.var 2) (.cons (.var 1) .nil))) [2, 3])))
def b__left_from : Sxs :=
    (.one (.ret (.lc false (.seq (.tup (.cons (.cst (.int 0)) (.cons (.cst (.int 1)) (.cons (.cst (.int 2)) .nil))))) (.nm 1) (.some (.call "_can_be_left_from" 2 (.cons (.var 0) (.cons (.var 1) .nil)))) (.var 1) [1])))
def b__can_be_left_from : Sxs :=
    (.cons (.asg (.nm 2) (.cst (.int 0)))
    (.cons (.whl (.and (.op .lt (.var 2) (.blt .len (.cons (.var 0) .nil))) (.op .eq (.ix (.var 0) (.var 2)) (.ix (.cst (.ktp [(.int 1), (.int 2), (.int 0)])) (.var 1)))) (.one (.aug .addI 2 (.cst (.int 1)))))
    (.one (.ret (.blt .all (.cons (.lc false (.seq (.sl false (.var 0) (.some (.op (.add false) (.var 2) (.cst (.int 1)))) .none)) (.nm 3) .none (.op .eq (.var 3) (.var 1)) [3]) .nil))))))
def b__three : Sxs :=
    (.cons (.ife (.not (.call "three_can_be_left" 1 (.cons (.var 0) .nil))) (.one (.raise "InvalidView" "given" (.cons (.var 0) .nil))) .nil)
    (.cons (.ife (.blt .all (.cons (.lc false (.seq (.var 0)) (.nm 1) .none (.op .eq (.var 1) (.ix (.var 0) (.cst (.int 0)))) [1]) .nil)) (.one (.ret (.tup (.cons (.ix (.var 0) (.cst (.int 0))) (.cons (.lst true .nil) .nil))))) .nil)
    (.cons (.ife (.op .eq (.blt .len (.cons (.var 0) .nil)) (.cst (.int 2))) (.one (.ret (.call "_three_of_two" 2 (.cons (.ix (.var 0) (.cst (.int 0))) (.cons (.ix (.var 0) (.cst (.int 1))) .nil))))) .nil)
    (.cons (.asg (.nm 2) (.ix (.cst (.ktp [(.int 1), (.int 2), (.int 0)])) (.ix (.call "_left_from" 1 (.cons (.var 0) .nil)) (.cst (.int 0)))))
    (.one (.ret (.tup (.cons (.var 2) (.cons (.call "_writes_of" 2 (.cons (.var 0) (.cons (.var 2) .nil))) .nil)))))))))
def b__three_of_two : Sxs :=
    (.cons (.ife (.op .gt (.var 0) (.cst (.int 2))) (.one (.ret (.tup (.cons (.var 1) (.cons (.lst true (.cons (.tup (.cons (.cst (.int 0)) (.cons (.var 1) .nil))) .nil)) .nil))))) .nil)
    (.cons (.ife (.or (.op .gt (.var 1) (.cst (.int 2))) (.op .eq (.var 0) (.ix (.cst (.ktp [(.int 1), (.int 2), (.int 0)])) (.var 1)))) (.one (.ret (.tup (.cons (.var 0) (.cons (.lst true (.cons (.tup (.cons (.cst (.int 1)) (.cons (.var 0) .nil))) .nil)) .nil))))) .nil)
    (.one (.ret (.tup (.cons (.ix (.cst (.ktp [(.int 1), (.int 2), (.int 0)])) (.var 1)) (.cons (.lst true .nil) .nil)))))))
def b__law_cell : Sxs :=
    (.one (.ret (.ife (.op .lt (.var 1) (.blt .len (.cons (.var 0) .nil))) (.ix (.var 0) (.var 1)) (.op (.add false) (.op (.add false) (.op (.mul false) (.cst (.int 6007)) (.var 1)) (.cst (.int 40))) (.op .mod (.blt .int (.cons (.blt .sum (.cons (.sl false (.var 0) .none (.some (.cst (.int 1)))) .nil)) .nil)) (.cst (.int 1000033)))))))
def b__law_box : Sxs :=
    (.one (.ret (.lst true (.cons (.blt .abs (.cons (.var 0) .nil)) (.cons (.op .ge (.blt .abs (.cons (.var 0) .nil)) (.op .pow (.cst (.int 10)) (.cst (.int 18)))) (.cons (.op .mod (.blt .int (.cons (.blt .abs (.cons (.var 0) .nil)) .nil)) (.cst (.int 2147483629))) (.cons (.cst (.int 0)) .nil)))))))
def b__law_take : Sxs :=
    (.cons (.ife (.and (.ix (.var 0) (.cst (.int 1))) (.op .gt (.ix (.var 0) (.cst (.int 0))) (.cst (.int 0)))) (.cons (.asg (.nm 2) (.op .mod (.blt .int (.cons (.ix (.var 0) (.cst (.int 0))) .nil)) (.var 1)))
    (.cons (.asg (.sub (.var 0) (.cst (.int 0))) (.op .div (.ix (.var 0) (.cst (.int 0))) (.var 1)))
    (.one (.ret (.var 2))))) .nil)
    (.cons (.asg (.sub (.var 0) (.cst (.int 3))) (.op (.add false) (.ix (.var 0) (.cst (.int 3))) (.cst (.int 1))))
    (.cons (.asg (.nm 3) (.op .mod (.blt .int (.cons (.op .pow (.op (.add false) (.op (.add false) (.ix (.var 0) (.cst (.int 2))) (.op (.mul false) (.cst (.int 104395301)) (.ix (.var 0) (.cst (.int 3))))) (.cst (.int 179424673))) (.cst (.int 5))) .nil)) (.cst (.int 2147483647))))
    (.one (.ret (.op .mod (.blt .int (.cons (.op .div (.op .mod (.blt .int (.cons (.op .pow (.op (.add false) (.op (.mul false) (.var 3) (.cst (.int 48271))) (.op (.mul false) (.cst (.int 104729)) (.ix (.var 0) (.cst (.int 3))))) (.cst (.int 3))) .nil)) (.cst (.int 2147483587))) (.cst (.int 64))) .nil)) (.var 1)))))))
def b__law_form : Sxs :=
    (.cons (.asg (.tup 2 (.cons (.nm 2) (.cons (.nm 3) .nil))) (.tup (.cons (.cst (.int 0)) (.cons (.cst (.int 0)) .nil))))
    (.cons (.forr (.seq (.var 0)) (.nm 4) (.cons (.ife (.op .ne (.var 4) (.op .mod (.blt .int (.cons (.op (.add false) (.var 1) (.cst (.int 1))) .nil)) (.cst (.int 3)))) (.one .brk) .nil)
    (.one (.asg (.nm 2) (.op (.add false) (.var 2) (.cst (.int 1)))))))
    (.cons (.forr (.seq (.blt (.revL false) (.cons (.var 0) .nil))) (.nm 4) (.cons (.ife (.op .ne (.var 4) (.var 1)) (.one .brk) .nil)
    (.one (.asg (.nm 3) (.op (.add false) (.var 3) (.cst (.int 1)))))))
    (.one (.ret (.op .ge (.op (.add false) (.var 2) (.var 3)) (.op .sub (.blt .len (.cons (.var 0) .nil)) (.cst (.int 1)))))))))
def b__law_reading : Sxs :=
    (.cons (.ife (.op .eq (.lc false (.seq (.var 0)) (.nm 1) (.some (.op .ne (.var 1) (.ix (.var 0) (.cst (.int 0))))) (.var 1) [1]) (.lst false .nil)) (.one (.ret (.lst false (.cons (.ix (.var 0) (.cst (.int 0))) (.cons (.lst false .nil) .nil))))) .nil)
    (.cons (.ife (.op .gt (.blt .len (.cons (.var 0) .nil)) (.cst (.int 2))) (.cons (.asg (.nm 2) (.ix (.lc false (.rng1 (.cons (.cst (.int 3)) .nil)) (.nm 3) (.some (.call "_law_form" 2 (.cons (.var 0) (.cons (.var 3) .nil)))) (.op .mod (.blt .int (.cons (.op (.add false) (.var 3) (.cst (.int 1))) .nil)) (.cst (.int 3))) [3]) (.cst (.int 0))))
    (.one (.ret (.lst false (.cons (.var 2) (.cons (.lc false (.rng1 (.cons (.blt .len (.cons (.var 0) .nil)) .nil)) (.nm 4) (.some (.op .ne (.ix (.var 0) (.var 4)) (.var 2))) (.tup (.cons (.var 4) (.cons (.var 2) .nil))) [4]) .nil)))))) .nil)
    (.cons (.asg (.tup 2 (.cons (.nm 5) (.cons (.nm 6) .nil))) (.var 0))
    (.cons (.ife (.op .gt (.var 5) (.cst (.int 2))) (.one (.ret (.lst false (.cons (.var 6) (.cons (.lst false (.cons (.tup (.cons (.cst (.int 0)) (.cons (.var 6) .nil))) .nil)) .nil))))) .nil)
    (.cons (.ife (.or (.op .gt (.var 6) (.cst (.int 2))) (.op .eq (.var 5) (.op .mod (.blt .int (.cons (.op (.add false) (.var 6) (.cst (.int 1))) .nil)) (.cst (.int 3))))) (.one (.ret (.lst false (.cons (.var 5) (.cons (.lst false (.cons (.tup (.cons (.cst (.int 1)) (.cons (.var 5) .nil))) .nil)) .nil))))) .nil)
    (.one (.ret (.lst false (.cons (.op .sub (.op .sub (.cst (.int 3)) (.var 5)) (.var 6)) (.cons (.lst false .nil) .nil))))))))))
def b__law_new_row : Sxs :=
    (.cons (.par 2 3 (.cons (.op (.add false) (.cst (.int 2)) (.call "_law_take" 2 (.cons (.var 0) (.cons (.ife (.var 1) (.cst (.int 63)) (.cst (.int 6))) .nil)))) (.cons (.call "_law_take" 2 (.cons (.var 0) (.cons (.cst (.int 3)) .nil))) .nil)))
    (.one (.ret (.dsp ["view", "value"] (.cons (.op (.mul true) (.lst false (.cons (.var 3) .nil)) (.var 2)) (.cons (.var 3) .nil))))))
def b__law_passed : Sxs :=
    (.one (.ret (.ife (.op .eq (.var 1) (.cst (.int 0))) (.blt .tuple (.cons (.var 0) .nil)) (.blt (.list false) (.cons (.var 0) .nil)))))
def b__law_told_right : Sxs :=
    (.cons (.par 4 5 (.cons (.ix (.var 1) (.cst (.str "view"))) (.cons (.call "_law_take" 2 (.cons (.var 0) (.cons (.cst (.int 2)) .nil))) .nil)))
    (.cons (.asg (.tup 2 (.cons (.nm 6) (.cons (.nm 7) .nil))) (.call "_law_reading" 1 (.cons (.var 4) .nil)))
    (.cons (.ife (.or (.op .ninT (.var 6) (.var 3)) (.not (.call "_law_form" 2 (.cons (.var 4) (.cons (.var 2) .nil))))) (.one (.ret (.cst (.bl false)))) .nil)
    (.cons (.asg (.nm 8) (.call "_law_passed" 2 (.cons (.var 4) (.cons (.var 5) .nil))))
    (.cons (.forr (.rng1 (.cons (.cst (.int 2)) .nil)) (.nm 9) (.cons (.asg (.nm 10) (.ife (.op .eq (.var 5) (.cst (.int 0))) (.call "three_mending" 1 (.cons (.var 8) .nil)) (.callK "three_mending" 1 [0] (.cons (.var 8) .nil))))
    (.cons (.ife (.op .ne (.blt .repr (.cons (.var 10) .nil)) (.blt .repr (.cons (.var 7) .nil))) (.one (.ret (.cst (.bl false)))) .nil)
    (.cons (.expr (.mt .append (.var 10) (.cons (.tup (.cons (.cst (.int 0)) (.cons (.cst (.int 0)) .nil))) .nil)))
    (.one (.expr (.mt .reverse (.var 10) .nil)))))))
    (.cons (.ife (.or (.op .isN (.callK "three_can_be_left" 1 [0] (.cons (.var 8) .nil)) (.cst (.bl true))) (.op .ne (.blt .repr (.cons (.call "three_told" 1 (.cons (.var 8) .nil)) .nil)) (.blt .repr (.cons (.var 6) .nil)))) (.one (.ret (.cst (.bl false)))) .nil)
    (.one (.ret (.op .eq (.blt .repr (.cons (.var 8) .nil)) (.blt .repr (.cons (.call "_law_passed" 2 (.cons (.var 4) (.cons (.var 5) .nil))) .nil)))))))))))
def b__law_content : Sxs :=
    (.cons (.par3 2 3 4 (.cons (.call "_law_take" 2 (.cons (.var 0) (.cons (.cst (.int 3)) .nil))) (.cons (.call "_law_take" 2 (.cons (.var 0) (.cons (.cst (.int 4)) .nil))) (.cons (.call "_law_take" 2 (.cons (.var 0) (.cons (.cst (.int 997)) .nil))) .nil))))
    (.one (.ret (.ife (.op .eq (.var 2) (.cst (.int 0))) (.var 4) (.var 3)))))
def b__law_losses : Sxs :=
    (.cons (.par 2 3 (.cons (.call "_law_take" 2 (.cons (.var 0) (.cons (.cst (.int 3)) .nil))) (.cons (.call "_law_take" 2 (.cons (.var 0) (.cons (.cst (.int 4)) .nil))) .nil)))
    (.one (.forr (.rng1 (.cons (.ix (.lst false (.cons (.cst (.int 0)) (.cons (.var 3) (.cons (.cst (.int 63)) .nil)))) (.var 2)) .nil)) (.nm 4) (.one (.ife (.and (.op .gt (.blt .len (.cons (.ix (.var 1) (.cst (.str "view"))) .nil)) (.cst (.int 2))) (.or (.op .eq (.var 2) (.cst (.int 1))) (.op .gt (.call "_law_take" 2 (.cons (.var 0) (.cons (.cst (.int 8)) .nil))) (.cst (.int 0))))) (.cons (.asg (.nm 5) (.call "_law_take" 2 (.cons (.var 0) (.cons (.blt .len (.cons (.ix (.var 1) (.cst (.str "view"))) .nil)) .nil))))
    (.one (.asg (.sub (.var 1) (.cst (.str "view"))) (.op (.add true) (.sl false (.ix (.var 1) (.cst (.str "view"))) .none (.some (.var 5))) (.sl false (.ix (.var 1) (.cst (.str "view"))) (.some (.op (.add false) (.var 5) (.cst (.int 1)))) .none))))) .nil)))))
def b__law_written : Sxs :=
    (.one (.forr (.seq (.var 1)) (.tup 2 (.cons (.nm 2) (.cons (.nm 3) .nil))) (.one (.asg (.sub (.ix (.var 0) (.cst (.str "view"))) (.var 2)) (.var 3)))))
def b__law_opened : Sxs :=
    (.cons (.forr (.rng1 (.cons (.op (.add false) (.cst (.int 1)) (.call "_law_take" 2 (.cons (.var 0) (.cons (.cst (.int 3)) .nil)))) .nil)) (.nm 4) (.cons (.ife (.not (.call "_law_told_right" 4 (.cons (.var 0) (.cons (.var 1) (.cons (.var 2) (.cons (.var 3) .nil)))))) (.one (.ret (.cst (.bl false)))) .nil)
    (.cons (.asg (.tup 2 (.cons (.nm 5) (.cons (.nm 6) .nil))) (.call "_law_reading" 1 (.cons (.ix (.var 1) (.cst (.str "view"))) .nil)))
    (.cons (.ife (.op .ne (.var 6) (.lst false .nil)) (.cons (.par 7 8 (.cons (.call "_law_take" 2 (.cons (.var 0) (.cons (.blt .len (.cons (.var 6) .nil)) .nil))) (.cons (.call "_law_content" 2 (.cons (.var 0) (.cons (.cst (.bl false)) .nil))) .nil)))
    (.one (.expr (.call "_law_written" 2 (.cons (.var 1) (.cons (.op (.add false) (.sl false (.var 6) .none (.some (.var 7))) (.lst false (.cons (.tup (.cons (.ix (.ix (.var 6) (.var 7)) (.cst (.int 0))) (.cons (.var 8) .nil))) .nil))) .nil)))))) .nil)
    (.one (.expr (.call "_law_losses" 2 (.cons (.var 0) (.cons (.var 1) .nil)))))))))
    (.cons (.ife (.not (.call "_law_told_right" 4 (.cons (.var 0) (.cons (.var 1) (.cons (.var 2) (.cons (.var 3) .nil)))))) (.one (.ret (.cst (.bl false)))) .nil)
    (.cons (.asg (.tup 2 (.cons (.nm 5) (.cons (.nm 6) .nil))) (.call "_law_reading" 1 (.cons (.ix (.var 1) (.cst (.str "view"))) .nil)))
    (.cons (.expr (.call "_law_written" 2 (.cons (.var 1) (.cons (.var 6) .nil))))
    (.cons (.asg (.sub (.var 1) (.cst (.str "value"))) (.var 5))
    (.one (.ret (.cst (.bl true)))))))))
def b__law_rests : Sxs :=
    (.cons (.par 2 3 (.cons (.ix (.var 1) (.cst (.str "view"))) (.cons (.blt (.list true) (.cons (.ix (.var 1) (.cst (.str "view"))) .nil)) .nil)))
    (.cons (.forr (.rng1 (.cons (.call "_law_take" 2 (.cons (.var 0) (.cons (.cst (.int 4)) .nil))) .nil)) (.nm 4) (.one (.ife (.op .gt (.blt .len (.cons (.var 3) .nil)) (.cst (.int 2))) (.one (.expr (.mt .popAt (.var 3) (.cons (.call "_law_take" 2 (.cons (.var 0) (.cons (.blt .len (.cons (.var 3) .nil)) .nil))) .nil)))) .nil)))
    (.cons (.forr (.seq (.lst false (.cons (.var 2) (.cons (.var 3) .nil)))) (.nm 5) (.one (.ife (.or (.op .ne (.blt .repr (.cons (.call "three_told" 1 (.cons (.blt (.list false) (.cons (.var 5) .nil)) .nil)) .nil)) (.blt .repr (.cons (.ix (.var 1) (.cst (.str "value"))) .nil))) (.op .ne (.call "three_mending" 1 (.cons (.blt .tuple (.cons (.var 5) .nil)) .nil)) (.lst false .nil))) (.one (.ret (.cst (.bl false)))) .nil)))
    (.one (.ret (.op .eq (.call "three_steps" 2 (.cons (.blt (.list false) (.cons (.var 2) .nil)) (.cons (.ix (.var 1) (.cst (.str "value"))) .nil))) (.lst false .nil)))))))
def b__law_change : Sxs :=
    (.cons (.par3 2 3 4 (.cons (.call "_law_take" 2 (.cons (.var 0) (.cons (.cst (.int 5)) .nil))) (.cons (.call "_law_take" 2 (.cons (.var 0) (.cons (.cst (.int 2)) .nil))) (.cons (.call "_law_take" 2 (.cons (.var 0) (.cons (.cst (.int 2)) .nil))) .nil))))
    (.cons (.asg (.tup 3 (.cons (.nm 5) (.cons (.nm 6) (.cons (.nm 7) .nil)))) (.tup (.cons (.ix (.var 1) (.cst (.str "value"))) (.cons (.call "_law_take" 2 (.cons (.var 0) (.cons (.cst (.int 3)) .nil))) (.cons (.ix (.var 1) (.cst (.str "view"))) .nil)))))
    (.cons (.asg (.nm 8) (.lc false (.rng1 (.cons (.blt .len (.cons (.var 7) .nil)) .nil)) (.nm 9) (.some (.op .ne (.ix (.var 7) (.var 9)) (.var 6))) (.tup (.cons (.var 9) (.cons (.var 6) .nil))) [9]))
    (.cons (.ife (.op .eq (.var 6) (.op .mod (.blt .int (.cons (.op (.add false) (.var 5) (.cst (.int 2))) .nil)) (.cst (.int 3)))) (.one (.asg (.nm 8) (.blt (.revL false) (.cons (.var 8) .nil)))) .nil)
    (.cons (.ife (.op .eq (.var 6) (.var 5)) (.one (.asg (.nm 8) (.lst false .nil))) .nil)
    (.cons (.asg (.nm 10) (.call "_law_passed" 2 (.cons (.var 7) (.cons (.var 4) .nil))))
    (.cons (.forr (.rng1 (.cons (.cst (.int 2)) .nil)) (.nm 11) (.cons (.asg (.nm 12) (.ife (.op .eq (.var 3) (.cst (.int 0))) (.call "three_steps" 2 (.cons (.var 10) (.cons (.var 6) .nil))) (.callK "three_steps" 2 [1, 0] (.cons (.var 6) (.cons (.var 10) .nil)))))
    (.cons (.ife (.op .ne (.blt .repr (.cons (.var 12) .nil)) (.blt .repr (.cons (.var 8) .nil))) (.one (.ret (.cst (.bl false)))) .nil)
    (.one (.expr (.mt .append (.var 12) (.cons (.tup (.cons (.cst (.int 0)) (.cons (.var 6) .nil))) .nil)))))))
    (.cons (.asg (.nm 13) (.ife (.op .eq (.var 6) (.op .mod (.blt .int (.cons (.op (.add false) (.var 5) (.cst (.int 2))) .nil)) (.cst (.int 3)))) (.var 6) (.var 5)))
    (.cons (.asg (.nm 14) (.call "_law_take" 2 (.cons (.var 0) (.cons (.op (.add false) (.blt .len (.cons (.var 8) .nil)) (.cst (.int 1))) .nil))))
    (.cons (.ife (.or (.op .eq (.var 2) (.cst (.int 0))) (.op .eq (.var 14) (.blt .len (.cons (.var 8) .nil)))) (.cons (.expr (.call "_law_written" 2 (.cons (.var 1) (.cons (.var 8) .nil))))
    (.cons (.asg (.sub (.var 1) (.cst (.str "value"))) (.var 6))
    (.one (.ret (.call "_law_rests" 2 (.cons (.var 0) (.cons (.var 1) .nil))))))) .nil)
    (.cons (.expr (.call "_law_written" 2 (.cons (.var 1) (.cons (.op (.add false) (.sl false (.var 8) .none (.some (.var 14))) (.lst false (.cons (.tup (.cons (.ix (.ix (.var 8) (.var 14)) (.cst (.int 0))) (.cons (.call "_law_content" 2 (.cons (.var 0) (.cons (.cst (.bl false)) .nil))) .nil))) .nil))) .nil))))
    (.cons (.expr (.call "_law_losses" 2 (.cons (.var 0) (.cons (.var 1) .nil))))
    (.one (.ret (.and (.call "_law_opened" 4 (.cons (.var 0) (.cons (.var 1) (.cons (.var 13) (.cons (.lst false (.cons (.var 5) (.cons (.var 6) .nil))) .nil))))) (.call "_law_rests" 2 (.cons (.var 0) (.cons (.var 1) .nil))))))))))))))))))
def b_law : Sxs :=
    (.cons (.asg (.nm 1) (.call "_law_box" 1 (.cons (.call "_law_cell" 2 (.cons (.var 0) (.cons (.cst (.int 0)) .nil))) .nil)))
    (.cons (.asg (.nm 2) (.op .eq (.call "_law_take" 2 (.cons (.var 1) (.cons (.cst (.int 8)) .nil))) (.cst (.int 0))))
    (.cons (.asg (.nm 3) (.lst true (.cons (.call "_law_new_row" 2 (.cons (.var 1) (.cons (.var 2) .nil))) (.cons (.call "_law_new_row" 2 (.cons (.var 1) (.cons (.cst (.bl false)) .nil))) .nil))))
    (.cons (.forr (.rng1 (.cons (.blt .max2 (.cons (.cst (.int 16)) (.cons (.blt .min2 (.cons (.cst (.int 48)) (.cons (.blt .len (.cons (.var 0) .nil)) .nil))) .nil))) .nil)) (.nm 4) (.cons (.asg (.nm 1) (.call "_law_box" 1 (.cons (.call "_law_cell" 2 (.cons (.var 0) (.cons (.op (.add false) (.var 4) (.cst (.int 1))) .nil))) .nil)))
    (.cons (.par 5 6 (.cons (.call "_law_take" 2 (.cons (.var 1) (.cons (.cst (.int 2)) .nil))) (.cons (.call "_law_take" 2 (.cons (.var 1) (.cons (.cst (.int 3)) .nil))) .nil)))
    (.cons (.ife (.and (.op .eq (.blt .len (.cons (.ix (.ix (.var 3) (.var 5)) (.cst (.str "view"))) .nil)) (.cst (.int 2))) (.and (.op .eq (.var 6) (.cst (.int 0))) (.op .gt (.var 4) (.cst (.int 2))))) (.one (.asg (.sub (.var 3) (.var 5)) (.call "_law_new_row" 2 (.cons (.var 1) (.cons (.cst (.bl false)) .nil))))) .nil)
    (.cons (.ife (.and (.var 2) (.op .eq (.var 4) (.cst (.int 3)))) (.one (.asg (.sub (.var 3) (.cst (.int 0))) (.call "_law_new_row" 2 (.cons (.var 1) (.cons (.cst (.bl false)) .nil))))) .nil)
    (.one (.ife (.or (.not (.call "_law_change" 2 (.cons (.var 1) (.cons (.ix (.var 3) (.var 5)) .nil)))) (.not (.call "_law_rests" 2 (.cons (.var 1) (.cons (.ix (.var 3) (.op .sub (.cst (.int 1)) (.var 5))) .nil))))) (.one (.ret (.cst (.bl false)))) .nil)))))))
    (.one (.ret (.cst (.bl true))))))))
def tbl : Tbl := [(("is_integer" : Str), 1, b_is_integer), (("is_between" : Str), 3, b_is_between), (("is_list" : Str), 1, b_is_list), (("three_steps" : Str), 5, b_three_steps), (("three_can_be_left" : Str), 1, b_three_can_be_left), (("three_told" : Str), 3, b_three_told), (("three_mending" : Str), 3, b_three_mending), (("_ask_view" : Str), 2, b__ask_view), (("_writes_of" : Str), 4, b__writes_of), (("_left_from" : Str), 2, b__left_from), (("_can_be_left_from" : Str), 4, b__can_be_left_from), (("_three" : Str), 3, b__three), (("_three_of_two" : Str), 2, b__three_of_two), (("_law_cell" : Str), 2, b__law_cell), (("_law_box" : Str), 1, b__law_box), (("_law_take" : Str), 4, b__law_take), (("_law_form" : Str), 5, b__law_form), (("_law_reading" : Str), 7, b__law_reading), (("_law_new_row" : Str), 4, b__law_new_row), (("_law_passed" : Str), 2, b__law_passed), (("_law_told_right" : Str), 11, b__law_told_right), (("_law_content" : Str), 5, b__law_content), (("_law_losses" : Str), 6, b__law_losses), (("_law_written" : Str), 4, b__law_written), (("_law_opened" : Str), 9, b__law_opened), (("_law_rests" : Str), 6, b__law_rests), (("_law_change" : Str), 15, b__law_change), (("law" : Str), 7, b_law)]
theorem T_eq : prg.T = tbl := by kernel_rfl
theorem okB : prg.okB = true := by kernel_rfl
theorem okP : prg.ok tbl ∧ prg.excs.all initB = true := Prg.ok_of okB T_eq
end K40

set_option Elab.async false
set_option linter.all false
set_option maxRecDepth 100000
set_option maxHeartbeats 0
namespace K40
open PySem PySem.Spec PyProof.Rows L2 En
abbrev R : PySem.W.OpenRow := PySem.W.OpenLaw.row PySem.Challenge.rw_sparesum_k40_whole_three_values_kept
abbrev hk : PySem.W.Hook := He.hookX 5 [] prg.fn [] [] prg.ex
def ob (s : PySem.W.SharedT) : He.AlX := He.obsX 5 [] prg.fn [] [] prg.ex (HandSHeadRun.getT s)
theorem ob_eq (s : PySem.W.SharedT) : ob s = hk.obs s.abs := He.obsX_eq (HandSHeadRun.getT_eq s)
def loose : List Str := (prog.main.scope.names.map (·.1)).filter fun x => !(x == ("law" : Str)) && !(x == ("ValueError" : Str))
theorem run (w : World) : HandSHeadRun.RunEq R (PySem.W.view R.prog [38]) hk ob 12000 loose w := by
  intro os
  kernel_rfl
def lawRec : Rec := mkRec (HandSHeadRun.topDef prog 38) ["script","box","great","worlds","turn","k","again"]
theorem name_eq : lawRec.name = ("law" : Str) := by kernel_rfl
def Goal : Prop := ∀ ns : List Int, ns.length ≤ 63 → (∀ z ∈ ns, Builtin.Int.intBits z ≤ 1048576) → ∃ M, callI tbl prg.sub 30 lawRec.name [.scr (ns.map D.int)] [] = .ok (.bl true) M
end K40
section
open PySem PySem.W PySem.Calls PyProof.Rows
theorem K40.holds_of (goalH : K40.Goal) : PySem.Challenge.rw_sparesum_k40_whole_three_values_kept.Holds := by
  w_on; o_law
  refine HandSHeadRun.head_any (r := K40.R) (q := view K40.R.prog [38]) (H := K40.hk) (ob := K40.ob) (M := 12000) (loose := K40.loose) (d := HandSHeadRun.topDef K40.R.prog 38) (kwd := []) K40.ob_eq
    (by kernel_rfl) (fun s => by kernel_rfl) K40.run (by kernel_rfl) (by kernel_rfl) (by kernel_rfl) (by rfl) (by first | assumption | decide +kernel) (by decide +kernel) ⟨rfl, rfl, rfl, rfl, rfl, by decide +kernel⟩ ?hw ?hc
  case hw => w_witness2
  case hc =>
    exact En.law_end (l := PySem.Challenge.rw_sparesum_k40_whole_three_values_kept) (n := 63) (k := 30) (x := "script") K40.okP.1 K40.okP.2 rfl (by decide) (by kernel_rfl) ⟨rfl, by decide, by decide⟩ (rl := K40.lawRec) (List.mem_of_getElem? (l := K40.prg.recs) (i := 27) rfl) (by kernel_rfl) (by kernel_rfl) goalH
end

set_option Elab.async false
set_option linter.all false
set_option maxRecDepth 100000
/-! E19: what the operations tell of plain values. -/
namespace En
open PySem PySem.Spec
theorem wR_eq {α : Type} (a : α) (M : Mem) (Q : α → Mem → Prop) (X : Xp) : wR (.ok a M) Q X = Q a M := rfl
theorem wR_exc {α : Type} (c : Str) (fs : List (Str × D)) (M : Mem) (Q : α → Mem → Prop) (X : Xp) : wR (.exc c fs M) Q X = X c fs M := rfl
theorem tru_bl (b : Bool) (M : Mem) : tru (.bl b) M = .ok b M := rfl
theorem tru_int (i : Int) (M : Mem) : tru (.int i) M = .ok (i != 0) M := rfl
theorem tru_non (M : Mem) : tru .non M = .ok false M := rfl
theorem cmp_int (p : Int → Int → Bool) (i j : Int) (M : Mem) : gCmpI p (.int i) (.int j) M = .ok (.bl (p i j)) M := rfl
theorem add_int (c : Bool) (i j : Int) (M : Mem) : gAdd c (.int i) (.int j) M = .ok (.int (i + j)) M := rfl
theorem sub_int (i j : Int) (M : Mem) : gSub (.int i) (.int j) M = .ok (.int (i - j)) M := rfl
theorem addI_int (i j : Int) (M : Mem) : gAddI (.int i) (.int j) M = .ok (.int (i + j)) M := rfl
theorem subI_int (i j : Int) (M : Mem) : gSubI (.int i) (.int j) M = .ok (.int (i - j)) M := rfl
theorem mulI_int {i j : Int} {a b : Nat} (h1 : i.natAbs < 2 ^ a) (h2 : j.natAbs < 2 ^ b) (h : a + b ≤ 1000000) (ha : 0 < a) (hb : 0 < b) (M : Mem) : gMulI (.int i) (.int j) M = .ok (.int (i * j)) M := by
  have l1 : i.natAbs.log2 < a := by
    by_cases h0 : i.natAbs = 0
    · rw [h0]; simpa using ha
    · exact (Nat.log2_lt h0).mpr h1
  have l2 : j.natAbs.log2 < b := by
    by_cases h0 : j.natAbs = 0
    · rw [h0]; simpa using hb
    · exact (Nat.log2_lt h0).mpr h2
  exact if_pos (by omega)
theorem neg_int (i : Int) (M : Mem) : gNeg (.int i) M = .ok (.int (-i)) M := rfl
theorem int_int (i : Int) (M : Mem) : gInt [.int i] M = .ok (.int i) M := rfl
theorem abs_int (i : Int) (M : Mem) : gAbs [.int i] M = .ok (.int (if i < 0 then -i else i)) M := rfl
theorem mod_int {i j : Int} (h : 0 < j) (M : Mem) : gMod (.int i) (.int j) M = .ok (.int (i % j)) M := if_pos h
theorem log2_lt {n k : Nat} (h : n < 2 ^ k) (hk : 0 < k) : n.log2 < k := by
  by_cases h0 : n = 0
  · subst h0; simpa using hk
  · exact (Nat.log2_lt h0).mpr h
theorem div_int {i j : Int} (h : 0 < j) (h2 : j.natAbs < 2 ^ 200) (M : Mem) : gDiv (.int i) (.int j) M = .ok (.int (i / j)) M := if_pos ⟨h, Nat.lt_trans (log2_lt h2 (by decide)) (by decide)⟩
theorem mul_int {c : Bool} {i j : Int} {a b : Nat} (h1 : i.natAbs < 2 ^ a) (h2 : j.natAbs < 2 ^ b) (h : a + b ≤ 1000000) (ha : 0 < a) (hb : 0 < b) (M : Mem) : gMul c (.int i) (.int j) M = .ok (.int (i * j)) M := by
  have l1 := log2_lt h1 ha
  have l2 := log2_lt h2 hb
  exact if_pos (by omega)
theorem pow_int {i j : Int} (h : 0 ≤ j ∧ j ≤ 1000 ∧ i.natAbs < 2 ^ 64) (M : Mem) : gPow (.int i) (.int j) M = .ok (.int (i ^ j.toNat)) M := if_pos h
theorem eq_int (i j : Int) (M : Mem) : gEq (.int i) (.int j) M = .ok (.bl (decide (i = j))) M := by
  show (if SeqAt.shaped (.int i) = true ∧ SeqAt.shaped (.int j) = true then (Res.ok (D.bl (PyData.eqv (.int i) (.int j))) M : Res D) else .bad) = _
  rw [if_pos ⟨rfl, rfl⟩]
  congr 2
theorem eq_bl (i j : Bool) (M : Mem) : gEq (.bl i) (.bl j) M = .ok (.bl (decide (i = j))) M := by
  show (if SeqAt.shaped (.bool i) = true ∧ SeqAt.shaped (.bool j) = true then (Res.ok (D.bl (PyData.eqv (.bool i) (.bool j))) M : Res D) else .bad) = _
  rw [if_pos ⟨rfl, rfl⟩]
  cases i <;> cases j <;> rfl
theorem is_bl (n i j : Bool) (M : Mem) : gIs n (.bl i) (.bl j) M = .ok (.bl (if n = true then !decide (i = j) else decide (i = j))) M := rfl
/-- a value whose type is known -/
def Kn (M : Mem) : D → Prop
  | .loc n => ∃ xs, lstAt M n = some xs
  | .scr _ => False
  | .ty _ => False
  | .cls _ => False
  | .ktp _ => False
  | _ => True
theorem kn_int {M : Mem} {i : Int} : Kn M (.int i) := True.intro
def isI : D → Bool | .int _ => true | _ => false
def isB : D → Bool | .bl _ => true | _ => false
def isT : D → Bool | .tup _ => true | _ => false
def isL : D → Bool | .lst _ => true | .loc _ => true | _ => false
theorem isi_int {M : Mem} {v : D} (h : Kn M v) : gIsiE [v, .ty "int"] M = .ok (.bl (isI v || isB v)) M := by
  cases v with
  | loc n => obtain ⟨xs, e⟩ := h; show gIsi [.loc n, .ty "int"] M = _; unfold gIsi tyName; simp only; rw [e]; rfl
  | scr => exact h.elim
  | ktp => exact h.elim
  | ty => exact h.elim
  | cls => exact h.elim
  | _ => rfl
theorem isi_bool {M : Mem} {v : D} (h : Kn M v) : gIsiE [v, .ty "bool"] M = .ok (.bl (isB v)) M := by
  cases v with
  | loc n => obtain ⟨xs, e⟩ := h; show gIsi [.loc n, .ty "bool"] M = _; unfold gIsi tyName; simp only; rw [e]; rfl
  | scr => exact h.elim
  | ktp => exact h.elim
  | ty => exact h.elim
  | cls => exact h.elim
  | _ => rfl
theorem isi_tup {M : Mem} {v : D} (h : Kn M v) : gIsiE [v, .ty "tuple"] M = .ok (.bl (isT v)) M := by
  cases v with
  | loc n => obtain ⟨xs, e⟩ := h; show gIsi [.loc n, .ty "tuple"] M = _; unfold gIsi tyName; simp only; rw [e]; rfl
  | scr => exact h.elim
  | ktp => exact h.elim
  | ty => exact h.elim
  | cls => exact h.elim
  | _ => rfl
theorem isi_list {M : Mem} {v : D} (h : Kn M v) : gIsiE [v, .ty "list"] M = .ok (.bl (isL v)) M := by
  cases v with
  | loc n => obtain ⟨xs, e⟩ := h; show gIsi [.loc n, .ty "list"] M = _; unfold gIsi tyName; simp only; rw [e]; rfl
  | scr => exact h.elim
  | ktp => exact h.elim
  | ty => exact h.elim
  | cls => exact h.elim
  | _ => rfl
theorem isi_lt {M : Mem} {v : D} (h : Kn M v) : gIsiE [v, .tup [.ty "list", .ty "tuple"]] M = .ok (.bl (isL v || isT v)) M := by
  cases v with
  | loc n => obtain ⟨xs, e⟩ := h; show gIsi [.loc n, .tup [.ty "list", .ty "tuple"]] M = _; unfold gIsi tyName; simp only; rw [e]; rfl
  | scr => exact h.elim
  | ktp => exact h.elim
  | ty => exact h.elim
  | cls => exact h.elim
  | _ => rfl
theorem len_tup (xs : List D) (M : Mem) : gLen [.tup xs] M = .ok (.int (xs.length : Nat)) M := rfl
theorem len_lst (xs : List D) (M : Mem) : gLen [.lst xs] M = .ok (.int (xs.length : Nat)) M := rfl
theorem len_scr (xs : List D) (M : Mem) : gLen [.scr xs] M = .ok (.int (xs.length : Nat)) M := rfl
theorem ix_seq {x : D} {xs : List D} {i : Int} {d : D} {M : Mem} (h : rdSeq M x = some xs) (e : L2.atI xs i = some d) : gIx x (.int i) M = .ok d M := by
  unfold gIx
  simp only
  rw [rdIx_of h]; simp only; rw [e]
theorem sum_ints (ns : List Int) (M : Mem) : gSum [.lst (ns.map D.int)] M = .ok (.int ns.sum) M := by
  have e : rdLst M (.lst (ns.map D.int)) = some (ns.map D.int) := rfl
  unfold gSum
  simp only
  rw [e, Option.bind_some, asInts_map]
theorem all_bls (bs : List Bool) (M : Mem) : gAll [.lst (bs.map D.bl)] M = .ok (.bl (bs.all id)) M := by
  have e : rdLst M (.lst (bs.map D.bl)) = some (bs.map D.bl) := rfl
  unfold gAll
  simp only
  rw [e, Option.bind_some, asBls_map]
theorem sl_scr (xs : List D) (lo hi : Option Int) (M : Mem) : gSl false (.scr xs) lo hi M = .ok (.lst (cutD xs lo hi)) M := rfl
theorem sl_lst (xs : List D) (lo hi : Option Int) (M : Mem) : gSl false (.lst xs) lo hi M = .ok (.lst (cutD xs lo hi)) M := rfl
theorem sl_tup (c : Bool) (xs : List D) (lo hi : Option Int) (M : Mem) : gSl c (.tup xs) lo hi M = .ok (.tup (cutD xs lo hi)) M := rfl
theorem at_nat {xs : List D} {i : Int} {d : D} (h0 : 0 ≤ i) (h : xs[i.toNat]? = some d) : L2.atI xs i = some d := by
  have hl : i.toNat < xs.length := (List.getElem?_eq_some_iff.mp h).1
  unfold L2.atI L2.ixN
  rw [if_pos h0, if_pos (by omega), Option.bind_some]
  exact h
/-! cells -/
theorem lst_lt {M : Mem} {n : Nat} {xs : List D} (h : lstAt M n = some xs) : n < M.length := by
  have := lstAt_iff.mp h
  exact (List.getElem?_eq_some_iff.mp this).1
theorem lst_set {M : Mem} {n : Nat} {xs ys : List D} (h : lstAt M n = some xs) : lstAt (M.set n (some (.lst ys))) n = some ys := lstAt_iff.mpr (List.getElem?_set_self (lst_lt h))
theorem put_loc {M : Mem} {n : Nat} {xs : List D} {i : Int} {j : Nat} {v : D} (h : lstAt M n = some xs) (e : L2.ixN xs.length i = some j) : putAt M (.loc n) (.int i) v = some (M.set n (some (.lst (xs.set j v)))) := by
  unfold putAt
  simp only
  rw [h]; simp only; rw [e]; rfl
/-- only cell n has changed -/
structure Ex1 (n : Nat) (M M' : Mem) : Prop where
  len : M'.length = M.length
  same : ∀ m, m ≠ n → M'[m]? = M[m]?
theorem Ex1.refl {n : Nat} {M : Mem} : Ex1 n M M := ⟨rfl, fun _ _ => rfl⟩
theorem Ex1.trans {n : Nat} {M M1 M2 : Mem} (a : Ex1 n M M1) (b : Ex1 n M1 M2) : Ex1 n M M2 := ⟨b.len.trans a.len, fun m h => (b.same m h).trans (a.same m h)⟩
theorem Ex1.set {n : Nat} {M : Mem} {c : Option Cell} : Ex1 n M (M.set n c) := ⟨List.length_set, fun m h => List.getElem?_set_ne (Ne.symm h)⟩
theorem lst_new {xs : List D} (h : xs.length ≤ 1000000) (M : Mem) : gLst true xs M = .ok (.loc M.length) (M ++ [some (.lst xs)]) := by
  unfold gLst fin
  rw [if_pos h, if_pos rfl]
theorem lst_frz {xs : List D} (h : xs.length ≤ 1000000) (M : Mem) : gLst false xs M = .ok (.lst xs) M := by
  unfold gLst fin
  rw [if_pos h, if_neg (by decide)]
theorem tup_new {xs : List D} (h : xs.length ≤ 1000000) (M : Mem) : gTup xs M = .ok (.tup xs) M := by
  unfold gTup
  rw [if_pos h]
theorem lst_last {M : Mem} {xs : List D} : lstAt (M ++ [some (.lst xs)]) M.length = some xs := lstAt_iff.mpr (by rw [List.getElem?_append_right (Nat.le_refl _), Nat.sub_self]; rfl)
abbrev No : Xp := fun _ _ _ => False
/-- a def without effect on the memory, by its weakest precondition -/
theorem eq_of_w {r : Res D} {d : D} {M : Mem} (h : wR r (fun z M' => z = d ∧ M' = M) No) : r = .ok d M := by
  cases r with
  | ok a M' => obtain ⟨rfl, rfl⟩ := h; rfl
  | exc => exact h.elim
  | bad => exact h.elim
theorem def_e {T : Tbl} {sub : Str → Str → Bool} {k : Nat} {x : Str} {n : Nat} {b : Sxs} {ds : List D} {M : Mem} {Q : D → Mem → Prop} {X : Xp} (e : Ev) (hT : T.lookup x = some (n, b)) (he : startE n ds = e) (h : wSs (callI T sub k) sub b e M (PoD Q X)) : wR (callI T sub (k + 1) x ds M) Q X := def_w hT (he ▸ h)
end En

set_option Elab.async false
set_option linter.all false
set_option maxRecDepth 100000
/-! E20: a walk through weakest preconditions, one rule a step (made by tools/genE20.py). -/
namespace En
open PySem PySem.Spec
theorem ne_int (i j : Int) (M : Mem) : gNe (.int i) (.int j) M = .ok (.bl (!decide (i = j))) M := by
  show (if SeqAt.shaped (.int i) = true ∧ SeqAt.shaped (.int j) = true then (Res.ok (D.bl (!PyData.eqv (.int i) (.int j))) M : Res D) else .bad) = _
  rw [if_pos ⟨rfl, rfl⟩]
  congr 2
inductive SetR : Ev → Nat → D → Ev → Prop where
  | z {a : Option D} {r : Ev} {d : D} : SetR (a :: r) 0 d (some d :: r)
  | s {a : Option D} {r r' : Ev} {i : Nat} {d : D} : SetR r i d r' → SetR (a :: r) (i + 1) d (a :: r')
theorem SetR.eq {e e' : Ev} {i : Nat} {d : D} (h : SetR e i d e') : e.set i (some d) = e' := by
  induction h with
  | z => rfl
  | s _ ih => rw [List.set_cons_succ, ih]
theorem n_set2 {e e1 e2 : Ev} {M : Mem} {P : Po} {i j : Nat} {a b : D} (h1 : SetR e i a e1) (h2 : SetR e1 j b e2) (q : P.nx e2 M) : P.nx ((e.set i (some a)).set j (some b)) M := by
  rw [h1.eq, h2.eq]; exact q
theorem n_set3 {e e1 e2 e3 : Ev} {M : Mem} {P : Po} {i j k : Nat} {a b c : D} (h1 : SetR e i a e1) (h2 : SetR e1 j b e2) (h3 : SetR e2 k c e3) (q : P.nx e3 M) : P.nx (((e.set i (some a)).set j (some b)).set k (some c)) M := by
  rw [h1.eq, h2.eq, h3.eq]; exact q
/-- one step back, found by its conclusion -/
class Step (G : Prop) (G' : outParam Prop) : Prop where
  go : G' → G
class SetK (e : Ev) (i : Nat) (d : D) (e' : outParam Ev) : Prop where
  h : SetR e i d e'
instance j_set_z {a : Option D} {r : Ev} {d : D} : SetK (a :: r) 0 d (some d :: r) := ⟨SetR.z⟩
instance j_set_s {a : Option D} {r r' : Ev} {i : Nat} {d : D} [k : SetK r i d r'] : SetK (a :: r) (i + 1) d (a :: r') := ⟨SetR.s k.h⟩
instance (priority := 3000) j_set2 {e e1 e2 : Ev} {M : Mem} {P : Po} {i j : Nat} {a b : D} [k1 : SetK e i a e1] [k2 : SetK e1 j b e2] : Step (P.nx ((e.set i (some a)).set j (some b)) M) (P.nx e2 M) := ⟨fun q => n_set2 k1.h k2.h q⟩
instance (priority := 4000) j_set3 {e e1 e2 e3 : Ev} {M : Mem} {P : Po} {i j k : Nat} {a b c : D} [k1 : SetK e i a e1] [k2 : SetK e1 j b e2] [k3 : SetK e2 k c e3] : Step (P.nx (((e.set i (some a)).set j (some b)).set k (some c)) M) (P.nx e3 M) := ⟨fun q => n_set3 k1.h k2.h k3.h q⟩
def PoK (N : Ev → Mem → Prop) (P : Po) : Po := ⟨N, P.rt, P.bk, P.ct, P.ex⟩
def PoL (N : Ev → Mem → Prop) (P : Po) : Po := ⟨N, P.rt, P.nx, N, P.ex⟩
def PoH (sub : Str → Str → Bool) (hs : List Hd) (P : Po) : Po := ⟨P.nx, P.rt, P.bk, P.ct, fun e1 c fs M1 => wSR (handleD sub e1 c fs M1 hs) P⟩
/-- what is asked behind the words of a for, of a while, of a comprehension -/
def ForG (C : CT) (sub : Str → Str → Bool) (t : Tg) (b : Sxs) (wd : Wd) (e : Ev) (M : Mem) (P : Po) : Prop := ∃ inv : Nat → Ev → Mem → Prop, inv 0 e M ∧
      (∀ (i : Nat) (d : D) (e : Ev) (M : Mem), wd.ds[i]? = some d → inv i e M → Gd wd M ∧ wG C t d e M (fun e M => wSs C sub b e M (PoL (inv (i + 1)) P)) P.ex) ∧ ∀ e M, inv wd.ds.length e M → Gd wd M ∧ P.nx e M
def WhlG (C : CT) (sub : Str → Str → Bool) (c : Ex) (b : Sxs) (e : Ev) (M : Mem) (P : Po) : Prop := ∃ inv : Nat → Ev → Mem → Prop, (∃ m, inv m e M) ∧ ∀ m e M, inv m e M → wT C c e M (fun t M1 => (t = true → wSs C sub b e M1 (PoL (fun e M => ∃ m', m' < m ∧ inv m' e M) P)) ∧ (t = false → P.nx e M1)) (P.ex e)
abbrev Xn : Xp := fun _ _ _ => False
def LcG (C : CT) (f : Bool) (t : Tn) (cond : Exo) (x : Ex) (own : List Nat) (wd : Wd) (e : Ev) (M : Mem) (Q : D → Mem → Prop) (X : Xp) : Prop := wd.ds.length ≤ 1000000 ∧ ∃ inv : Nat → List D → Mem → Prop, inv 0 [] M ∧
      (∀ (i : Nat) (d : D) (acc : List D) (M2 : Mem), wd.ds[i]? = some d → inv i acc M2 → Gd wd M2 ∧ ∃ e1, tnSet t d (wipeE e own) = some e1 ∧
        wC C cond e1 M2 (fun b M3 => (b = true → wE C x e1 M3 (fun z M4 => inv (i + 1) (acc ++ [z]) M4) (fun _ _ _ => False)) ∧ (b = false → inv (i + 1) acc M3)) (fun _ _ _ => False)) ∧
      ∀ acc M2, inv wd.ds.length acc M2 → Gd wd M2 ∧ wR (fin f acc M2) Q X
section
variable {C : CT} {sub : Str → Str → Bool} {e : Ev} {M : Mem} {Q : D → Mem → Prop} {X : Xp} {QB : Bool → Mem → Prop} {QL : List D → Mem → Prop} {QO : Option Int → Mem → Prop} {QW : Wd → Mem → Prop} {N : Ev → Mem → Prop} {XE : Ev → Xp} {P : Po} {a b c : Ex} {es : Exs} {d : D}
theorem x_v0 {r : Ev} (h0 : Q d M) : wE C (.var 0) (some d :: r) M Q X := by unfold wE; exact h0
instance j_x_v0 {r : Ev} : Step (wE C (.var 0) (some d :: r) M Q X) (Q d M) := ⟨fun h => x_v0 h⟩
theorem x_v1 {x0 : Option D} {r : Ev} (h0 : Q d M) : wE C (.var 1) (x0 :: some d :: r) M Q X := by unfold wE; exact h0
instance j_x_v1 {x0 : Option D} {r : Ev} : Step (wE C (.var 1) (x0 :: some d :: r) M Q X) (Q d M) := ⟨fun h => x_v1 h⟩
theorem x_v2 {x0 x1 : Option D} {r : Ev} (h0 : Q d M) : wE C (.var 2) (x0 :: x1 :: some d :: r) M Q X := by unfold wE; exact h0
instance j_x_v2 {x0 x1 : Option D} {r : Ev} : Step (wE C (.var 2) (x0 :: x1 :: some d :: r) M Q X) (Q d M) := ⟨fun h => x_v2 h⟩
theorem x_v3 {x0 x1 x2 : Option D} {r : Ev} (h0 : Q d M) : wE C (.var 3) (x0 :: x1 :: x2 :: some d :: r) M Q X := by unfold wE; exact h0
instance j_x_v3 {x0 x1 x2 : Option D} {r : Ev} : Step (wE C (.var 3) (x0 :: x1 :: x2 :: some d :: r) M Q X) (Q d M) := ⟨fun h => x_v3 h⟩
theorem x_v4 {x0 x1 x2 x3 : Option D} {r : Ev} (h0 : Q d M) : wE C (.var 4) (x0 :: x1 :: x2 :: x3 :: some d :: r) M Q X := by unfold wE; exact h0
instance j_x_v4 {x0 x1 x2 x3 : Option D} {r : Ev} : Step (wE C (.var 4) (x0 :: x1 :: x2 :: x3 :: some d :: r) M Q X) (Q d M) := ⟨fun h => x_v4 h⟩
theorem x_v5 {x0 x1 x2 x3 x4 : Option D} {r : Ev} (h0 : Q d M) : wE C (.var 5) (x0 :: x1 :: x2 :: x3 :: x4 :: some d :: r) M Q X := by unfold wE; exact h0
instance j_x_v5 {x0 x1 x2 x3 x4 : Option D} {r : Ev} : Step (wE C (.var 5) (x0 :: x1 :: x2 :: x3 :: x4 :: some d :: r) M Q X) (Q d M) := ⟨fun h => x_v5 h⟩
theorem x_v6 {x0 x1 x2 x3 x4 x5 : Option D} {r : Ev} (h0 : Q d M) : wE C (.var 6) (x0 :: x1 :: x2 :: x3 :: x4 :: x5 :: some d :: r) M Q X := by unfold wE; exact h0
instance j_x_v6 {x0 x1 x2 x3 x4 x5 : Option D} {r : Ev} : Step (wE C (.var 6) (x0 :: x1 :: x2 :: x3 :: x4 :: x5 :: some d :: r) M Q X) (Q d M) := ⟨fun h => x_v6 h⟩
theorem x_v7 {x0 x1 x2 x3 x4 x5 x6 : Option D} {r : Ev} (h0 : Q d M) : wE C (.var 7) (x0 :: x1 :: x2 :: x3 :: x4 :: x5 :: x6 :: some d :: r) M Q X := by unfold wE; exact h0
instance j_x_v7 {x0 x1 x2 x3 x4 x5 x6 : Option D} {r : Ev} : Step (wE C (.var 7) (x0 :: x1 :: x2 :: x3 :: x4 :: x5 :: x6 :: some d :: r) M Q X) (Q d M) := ⟨fun h => x_v7 h⟩
theorem x_v8 {x0 x1 x2 x3 x4 x5 x6 x7 : Option D} {r : Ev} (h0 : Q d M) : wE C (.var 8) (x0 :: x1 :: x2 :: x3 :: x4 :: x5 :: x6 :: x7 :: some d :: r) M Q X := by unfold wE; exact h0
instance j_x_v8 {x0 x1 x2 x3 x4 x5 x6 x7 : Option D} {r : Ev} : Step (wE C (.var 8) (x0 :: x1 :: x2 :: x3 :: x4 :: x5 :: x6 :: x7 :: some d :: r) M Q X) (Q d M) := ⟨fun h => x_v8 h⟩
theorem x_v9 {x0 x1 x2 x3 x4 x5 x6 x7 x8 : Option D} {r : Ev} (h0 : Q d M) : wE C (.var 9) (x0 :: x1 :: x2 :: x3 :: x4 :: x5 :: x6 :: x7 :: x8 :: some d :: r) M Q X := by unfold wE; exact h0
instance j_x_v9 {x0 x1 x2 x3 x4 x5 x6 x7 x8 : Option D} {r : Ev} : Step (wE C (.var 9) (x0 :: x1 :: x2 :: x3 :: x4 :: x5 :: x6 :: x7 :: x8 :: some d :: r) M Q X) (Q d M) := ⟨fun h => x_v9 h⟩
theorem x_v10 {x0 x1 x2 x3 x4 x5 x6 x7 x8 x9 : Option D} {r : Ev} (h0 : Q d M) : wE C (.var 10) (x0 :: x1 :: x2 :: x3 :: x4 :: x5 :: x6 :: x7 :: x8 :: x9 :: some d :: r) M Q X := by unfold wE; exact h0
instance j_x_v10 {x0 x1 x2 x3 x4 x5 x6 x7 x8 x9 : Option D} {r : Ev} : Step (wE C (.var 10) (x0 :: x1 :: x2 :: x3 :: x4 :: x5 :: x6 :: x7 :: x8 :: x9 :: some d :: r) M Q X) (Q d M) := ⟨fun h => x_v10 h⟩
theorem x_v11 {x0 x1 x2 x3 x4 x5 x6 x7 x8 x9 x10 : Option D} {r : Ev} (h0 : Q d M) : wE C (.var 11) (x0 :: x1 :: x2 :: x3 :: x4 :: x5 :: x6 :: x7 :: x8 :: x9 :: x10 :: some d :: r) M Q X := by unfold wE; exact h0
instance j_x_v11 {x0 x1 x2 x3 x4 x5 x6 x7 x8 x9 x10 : Option D} {r : Ev} : Step (wE C (.var 11) (x0 :: x1 :: x2 :: x3 :: x4 :: x5 :: x6 :: x7 :: x8 :: x9 :: x10 :: some d :: r) M Q X) (Q d M) := ⟨fun h => x_v11 h⟩
theorem x_v12 {x0 x1 x2 x3 x4 x5 x6 x7 x8 x9 x10 x11 : Option D} {r : Ev} (h0 : Q d M) : wE C (.var 12) (x0 :: x1 :: x2 :: x3 :: x4 :: x5 :: x6 :: x7 :: x8 :: x9 :: x10 :: x11 :: some d :: r) M Q X := by unfold wE; exact h0
instance j_x_v12 {x0 x1 x2 x3 x4 x5 x6 x7 x8 x9 x10 x11 : Option D} {r : Ev} : Step (wE C (.var 12) (x0 :: x1 :: x2 :: x3 :: x4 :: x5 :: x6 :: x7 :: x8 :: x9 :: x10 :: x11 :: some d :: r) M Q X) (Q d M) := ⟨fun h => x_v12 h⟩
theorem x_v13 {x0 x1 x2 x3 x4 x5 x6 x7 x8 x9 x10 x11 x12 : Option D} {r : Ev} (h0 : Q d M) : wE C (.var 13) (x0 :: x1 :: x2 :: x3 :: x4 :: x5 :: x6 :: x7 :: x8 :: x9 :: x10 :: x11 :: x12 :: some d :: r) M Q X := by unfold wE; exact h0
instance j_x_v13 {x0 x1 x2 x3 x4 x5 x6 x7 x8 x9 x10 x11 x12 : Option D} {r : Ev} : Step (wE C (.var 13) (x0 :: x1 :: x2 :: x3 :: x4 :: x5 :: x6 :: x7 :: x8 :: x9 :: x10 :: x11 :: x12 :: some d :: r) M Q X) (Q d M) := ⟨fun h => x_v13 h⟩
theorem x_v14 {x0 x1 x2 x3 x4 x5 x6 x7 x8 x9 x10 x11 x12 x13 : Option D} {r : Ev} (h0 : Q d M) : wE C (.var 14) (x0 :: x1 :: x2 :: x3 :: x4 :: x5 :: x6 :: x7 :: x8 :: x9 :: x10 :: x11 :: x12 :: x13 :: some d :: r) M Q X := by unfold wE; exact h0
instance j_x_v14 {x0 x1 x2 x3 x4 x5 x6 x7 x8 x9 x10 x11 x12 x13 : Option D} {r : Ev} : Step (wE C (.var 14) (x0 :: x1 :: x2 :: x3 :: x4 :: x5 :: x6 :: x7 :: x8 :: x9 :: x10 :: x11 :: x12 :: x13 :: some d :: r) M Q X) (Q d M) := ⟨fun h => x_v14 h⟩
theorem x_v15 {x0 x1 x2 x3 x4 x5 x6 x7 x8 x9 x10 x11 x12 x13 x14 : Option D} {r : Ev} (h0 : Q d M) : wE C (.var 15) (x0 :: x1 :: x2 :: x3 :: x4 :: x5 :: x6 :: x7 :: x8 :: x9 :: x10 :: x11 :: x12 :: x13 :: x14 :: some d :: r) M Q X := by unfold wE; exact h0
instance j_x_v15 {x0 x1 x2 x3 x4 x5 x6 x7 x8 x9 x10 x11 x12 x13 x14 : Option D} {r : Ev} : Step (wE C (.var 15) (x0 :: x1 :: x2 :: x3 :: x4 :: x5 :: x6 :: x7 :: x8 :: x9 :: x10 :: x11 :: x12 :: x13 :: x14 :: some d :: r) M Q X) (Q d M) := ⟨fun h => x_v15 h⟩
theorem x_v16 {x0 x1 x2 x3 x4 x5 x6 x7 x8 x9 x10 x11 x12 x13 x14 x15 : Option D} {r : Ev} (h0 : Q d M) : wE C (.var 16) (x0 :: x1 :: x2 :: x3 :: x4 :: x5 :: x6 :: x7 :: x8 :: x9 :: x10 :: x11 :: x12 :: x13 :: x14 :: x15 :: some d :: r) M Q X := by unfold wE; exact h0
instance j_x_v16 {x0 x1 x2 x3 x4 x5 x6 x7 x8 x9 x10 x11 x12 x13 x14 x15 : Option D} {r : Ev} : Step (wE C (.var 16) (x0 :: x1 :: x2 :: x3 :: x4 :: x5 :: x6 :: x7 :: x8 :: x9 :: x10 :: x11 :: x12 :: x13 :: x14 :: x15 :: some d :: r) M Q X) (Q d M) := ⟨fun h => x_v16 h⟩
theorem x_v17 {x0 x1 x2 x3 x4 x5 x6 x7 x8 x9 x10 x11 x12 x13 x14 x15 x16 : Option D} {r : Ev} (h0 : Q d M) : wE C (.var 17) (x0 :: x1 :: x2 :: x3 :: x4 :: x5 :: x6 :: x7 :: x8 :: x9 :: x10 :: x11 :: x12 :: x13 :: x14 :: x15 :: x16 :: some d :: r) M Q X := by unfold wE; exact h0
instance j_x_v17 {x0 x1 x2 x3 x4 x5 x6 x7 x8 x9 x10 x11 x12 x13 x14 x15 x16 : Option D} {r : Ev} : Step (wE C (.var 17) (x0 :: x1 :: x2 :: x3 :: x4 :: x5 :: x6 :: x7 :: x8 :: x9 :: x10 :: x11 :: x12 :: x13 :: x14 :: x15 :: x16 :: some d :: r) M Q X) (Q d M) := ⟨fun h => x_v17 h⟩
theorem x_v18 {x0 x1 x2 x3 x4 x5 x6 x7 x8 x9 x10 x11 x12 x13 x14 x15 x16 x17 : Option D} {r : Ev} (h0 : Q d M) : wE C (.var 18) (x0 :: x1 :: x2 :: x3 :: x4 :: x5 :: x6 :: x7 :: x8 :: x9 :: x10 :: x11 :: x12 :: x13 :: x14 :: x15 :: x16 :: x17 :: some d :: r) M Q X := by unfold wE; exact h0
instance j_x_v18 {x0 x1 x2 x3 x4 x5 x6 x7 x8 x9 x10 x11 x12 x13 x14 x15 x16 x17 : Option D} {r : Ev} : Step (wE C (.var 18) (x0 :: x1 :: x2 :: x3 :: x4 :: x5 :: x6 :: x7 :: x8 :: x9 :: x10 :: x11 :: x12 :: x13 :: x14 :: x15 :: x16 :: x17 :: some d :: r) M Q X) (Q d M) := ⟨fun h => x_v18 h⟩
theorem x_v19 {x0 x1 x2 x3 x4 x5 x6 x7 x8 x9 x10 x11 x12 x13 x14 x15 x16 x17 x18 : Option D} {r : Ev} (h0 : Q d M) : wE C (.var 19) (x0 :: x1 :: x2 :: x3 :: x4 :: x5 :: x6 :: x7 :: x8 :: x9 :: x10 :: x11 :: x12 :: x13 :: x14 :: x15 :: x16 :: x17 :: x18 :: some d :: r) M Q X := by unfold wE; exact h0
instance j_x_v19 {x0 x1 x2 x3 x4 x5 x6 x7 x8 x9 x10 x11 x12 x13 x14 x15 x16 x17 x18 : Option D} {r : Ev} : Step (wE C (.var 19) (x0 :: x1 :: x2 :: x3 :: x4 :: x5 :: x6 :: x7 :: x8 :: x9 :: x10 :: x11 :: x12 :: x13 :: x14 :: x15 :: x16 :: x17 :: x18 :: some d :: r) M Q X) (Q d M) := ⟨fun h => x_v19 h⟩
theorem x_v20 {x0 x1 x2 x3 x4 x5 x6 x7 x8 x9 x10 x11 x12 x13 x14 x15 x16 x17 x18 x19 : Option D} {r : Ev} (h0 : Q d M) : wE C (.var 20) (x0 :: x1 :: x2 :: x3 :: x4 :: x5 :: x6 :: x7 :: x8 :: x9 :: x10 :: x11 :: x12 :: x13 :: x14 :: x15 :: x16 :: x17 :: x18 :: x19 :: some d :: r) M Q X := by unfold wE; exact h0
instance j_x_v20 {x0 x1 x2 x3 x4 x5 x6 x7 x8 x9 x10 x11 x12 x13 x14 x15 x16 x17 x18 x19 : Option D} {r : Ev} : Step (wE C (.var 20) (x0 :: x1 :: x2 :: x3 :: x4 :: x5 :: x6 :: x7 :: x8 :: x9 :: x10 :: x11 :: x12 :: x13 :: x14 :: x15 :: x16 :: x17 :: x18 :: x19 :: some d :: r) M Q X) (Q d M) := ⟨fun h => x_v20 h⟩
theorem x_v21 {x0 x1 x2 x3 x4 x5 x6 x7 x8 x9 x10 x11 x12 x13 x14 x15 x16 x17 x18 x19 x20 : Option D} {r : Ev} (h0 : Q d M) : wE C (.var 21) (x0 :: x1 :: x2 :: x3 :: x4 :: x5 :: x6 :: x7 :: x8 :: x9 :: x10 :: x11 :: x12 :: x13 :: x14 :: x15 :: x16 :: x17 :: x18 :: x19 :: x20 :: some d :: r) M Q X := by unfold wE; exact h0
instance j_x_v21 {x0 x1 x2 x3 x4 x5 x6 x7 x8 x9 x10 x11 x12 x13 x14 x15 x16 x17 x18 x19 x20 : Option D} {r : Ev} : Step (wE C (.var 21) (x0 :: x1 :: x2 :: x3 :: x4 :: x5 :: x6 :: x7 :: x8 :: x9 :: x10 :: x11 :: x12 :: x13 :: x14 :: x15 :: x16 :: x17 :: x18 :: x19 :: x20 :: some d :: r) M Q X) (Q d M) := ⟨fun h => x_v21 h⟩
theorem x_v22 {x0 x1 x2 x3 x4 x5 x6 x7 x8 x9 x10 x11 x12 x13 x14 x15 x16 x17 x18 x19 x20 x21 : Option D} {r : Ev} (h0 : Q d M) : wE C (.var 22) (x0 :: x1 :: x2 :: x3 :: x4 :: x5 :: x6 :: x7 :: x8 :: x9 :: x10 :: x11 :: x12 :: x13 :: x14 :: x15 :: x16 :: x17 :: x18 :: x19 :: x20 :: x21 :: some d :: r) M Q X := by unfold wE; exact h0
instance j_x_v22 {x0 x1 x2 x3 x4 x5 x6 x7 x8 x9 x10 x11 x12 x13 x14 x15 x16 x17 x18 x19 x20 x21 : Option D} {r : Ev} : Step (wE C (.var 22) (x0 :: x1 :: x2 :: x3 :: x4 :: x5 :: x6 :: x7 :: x8 :: x9 :: x10 :: x11 :: x12 :: x13 :: x14 :: x15 :: x16 :: x17 :: x18 :: x19 :: x20 :: x21 :: some d :: r) M Q X) (Q d M) := ⟨fun h => x_v22 h⟩
theorem x_v23 {x0 x1 x2 x3 x4 x5 x6 x7 x8 x9 x10 x11 x12 x13 x14 x15 x16 x17 x18 x19 x20 x21 x22 : Option D} {r : Ev} (h0 : Q d M) : wE C (.var 23) (x0 :: x1 :: x2 :: x3 :: x4 :: x5 :: x6 :: x7 :: x8 :: x9 :: x10 :: x11 :: x12 :: x13 :: x14 :: x15 :: x16 :: x17 :: x18 :: x19 :: x20 :: x21 :: x22 :: some d :: r) M Q X := by unfold wE; exact h0
instance j_x_v23 {x0 x1 x2 x3 x4 x5 x6 x7 x8 x9 x10 x11 x12 x13 x14 x15 x16 x17 x18 x19 x20 x21 x22 : Option D} {r : Ev} : Step (wE C (.var 23) (x0 :: x1 :: x2 :: x3 :: x4 :: x5 :: x6 :: x7 :: x8 :: x9 :: x10 :: x11 :: x12 :: x13 :: x14 :: x15 :: x16 :: x17 :: x18 :: x19 :: x20 :: x21 :: x22 :: some d :: r) M Q X) (Q d M) := ⟨fun h => x_v23 h⟩
theorem x_cst  (h0 : Q d M) : wE C (.cst d) e M Q X := by unfold wE; exact h0
instance j_x_cst  : Step (wE C (.cst d) e M Q X) (Q d M) := ⟨fun h => x_cst h⟩
theorem x_op {o : Bop} (h0 : wE C a e M (fun x M1 => wE C b e M1 (fun y M2 => wR (o.g x y M2) Q X) X) X) : wE C (.op o a b) e M Q X := by unfold wE; exact h0
instance j_x_op {o : Bop} : Step (wE C (.op o a b) e M Q X) (wE C a e M (fun x M1 => wE C b e M1 (fun y M2 => wR (o.g x y M2) Q X) X) X) := ⟨fun h => x_op h⟩
theorem x_fld {cs fs : List Str} {f : Str} (h0 : wE C a e M (fun x M1 => wR (gFld cs fs f x M1) Q X) X) : wE C (.fld cs fs f a) e M Q X := by unfold wE; exact h0
instance j_x_fld {cs fs : List Str} {f : Str} : Step (wE C (.fld cs fs f a) e M Q X) (wE C a e M (fun x M1 => wR (gFld cs fs f x M1) Q X) X) := ⟨fun h => x_fld h⟩
theorem x_make {k key : Str} {n : Nat} (h0 : wEs C es e M (fun ds M1 => wR (gMake k n (C key) ds M1) Q X) X) : wE C (.make k key n es) e M Q X := by unfold wE; exact h0
instance j_x_make {k key : Str} {n : Nat} : Step (wE C (.make k key n es) e M Q X) (wEs C es e M (fun ds M1 => wR (gMake k n (C key) ds M1) Q X) X) := ⟨fun h => x_make h⟩
theorem x_dsp {ks : List Str} (h0 : wEs C es e M (fun ds M1 => wR (gDsp ks ds M1) Q X) (fun _ _ _ => False)) : wE C (.dsp ks es) e M Q X := by unfold wE; exact h0
instance j_x_dsp {ks : List Str} : Step (wE C (.dsp ks es) e M Q X) (wEs C es e M (fun ds M1 => wR (gDsp ks ds M1) Q X) (fun _ _ _ => False)) := ⟨fun h => x_dsp h⟩
theorem x_neg  (h0 : wE C a e M (fun x M1 => wR (gNeg x M1) Q X) X) : wE C (.neg a) e M Q X := by unfold wE; exact h0
instance j_x_neg  : Step (wE C (.neg a) e M Q X) (wE C a e M (fun x M1 => wR (gNeg x M1) Q X) X) := ⟨fun h => x_neg h⟩
theorem x_and  (h0 : wE C a e M (fun x M1 => wR (tru x M1) (fun t M2 => (t = true → wE C b e M2 Q X) ∧ (t = false → Q x M2)) X) X) : wE C (.and a b) e M Q X := by unfold wE; exact h0
instance j_x_and  : Step (wE C (.and a b) e M Q X) (wE C a e M (fun x M1 => wR (tru x M1) (fun t M2 => (t = true → wE C b e M2 Q X) ∧ (t = false → Q x M2)) X) X) := ⟨fun h => x_and h⟩
theorem x_or  (h0 : wE C a e M (fun x M1 => wR (tru x M1) (fun t M2 => (t = true → Q x M2) ∧ (t = false → wE C b e M2 Q X)) X) X) : wE C (.or a b) e M Q X := by unfold wE; exact h0
instance j_x_or  : Step (wE C (.or a b) e M Q X) (wE C a e M (fun x M1 => wR (tru x M1) (fun t M2 => (t = true → Q x M2) ∧ (t = false → wE C b e M2 Q X)) X) X) := ⟨fun h => x_or h⟩
theorem x_not  (h0 : wE C a e M (fun x M1 => wR (tru x M1) (fun t M2 => Q (.bl (!t)) M2) X) X) : wE C (.not a) e M Q X := by unfold wE; exact h0
instance j_x_not  : Step (wE C (.not a) e M Q X) (wE C a e M (fun x M1 => wR (tru x M1) (fun t M2 => Q (.bl (!t)) M2) X) X) := ⟨fun h => x_not h⟩
theorem x_ife  (h0 : wT C c e M (fun t M1 => (t = true → wE C a e M1 Q X) ∧ (t = false → wE C b e M1 Q X)) X) : wE C (.ife c a b) e M Q X := by unfold wE; exact h0
instance j_x_ife  : Step (wE C (.ife c a b) e M Q X) (wT C c e M (fun t M1 => (t = true → wE C a e M1 Q X) ∧ (t = false → wE C b e M1 Q X)) X) := ⟨fun h => x_ife h⟩
theorem x_chain {o p : Bop} (h0 : wE C a e M (fun x M1 => wE C b e M1 (fun y M2 => wR (o.g x y M2) (fun z M3 => ∃ t, z = .bl t ∧ (t = true → wE C c e M3 (fun u M4 => wR (p.g y u M4) Q X) X) ∧ (t = false → Q (.bl false) M3)) X) X) X) : wE C (.chain o p a b c) e M Q X := by unfold wE; exact h0
instance j_x_chain {o p : Bop} : Step (wE C (.chain o p a b c) e M Q X) (wE C a e M (fun x M1 => wE C b e M1 (fun y M2 => wR (o.g x y M2) (fun z M3 => ∃ t, z = .bl t ∧ (t = true → wE C c e M3 (fun u M4 => wR (p.g y u M4) Q X) X) ∧ (t = false → Q (.bl false) M3)) X) X) X) := ⟨fun h => x_chain h⟩
theorem x_blt {f : Blt} (h0 : wEs C es e M (fun ds M1 => wR (f.g ds M1) Q X) X) : wE C (.blt f es) e M Q X := by unfold wE; exact h0
instance j_x_blt {f : Blt} : Step (wE C (.blt f es) e M Q X) (wEs C es e M (fun ds M1 => wR (f.g ds M1) Q X) X) := ⟨fun h => x_blt h⟩
theorem x_rngL {f : Bool} (h0 : wEs C es e M (fun ds M1 => wR (gRngL f ds M1) Q X) X) : wE C (.rngL f es) e M Q X := by unfold wE; exact h0
instance j_x_rngL {f : Bool} : Step (wE C (.rngL f es) e M Q X) (wEs C es e M (fun ds M1 => wR (gRngL f ds M1) Q X) X) := ⟨fun h => x_rngL h⟩
theorem x_call {f : Str} {n : Nat} (h0 : wEs C es e M (fun ds M1 => ds.length = n ∧ wR (C f ds M1) Q X) X) : wE C (.call f n es) e M Q X := by unfold wE; exact h0
instance j_x_call {f : Str} {n : Nat} : Step (wE C (.call f n es) e M Q X) (wEs C es e M (fun ds M1 => ds.length = n ∧ wR (C f ds M1) Q X) X) := ⟨fun h => x_call h⟩
theorem x_callK {f : Str} {n : Nat} {ord : List Nat} (h0 : wEs C es e M (fun ds M1 => (pick ord ds).length = n ∧ wR (C f (pick ord ds) M1) Q X) X) : wE C (.callK f n ord es) e M Q X := by unfold wE; exact h0
instance j_x_callK {f : Str} {n : Nat} {ord : List Nat} : Step (wE C (.callK f n ord es) e M Q X) (wEs C es e M (fun ds M1 => (pick ord ds).length = n ∧ wR (C f (pick ord ds) M1) Q X) X) := ⟨fun h => x_callK h⟩
theorem x_ix  (h0 : wE C a e M (fun x M1 => wE C b e M1 (fun y M2 => wR (gIx x y M2) Q X) X) X) : wE C (.ix a b) e M Q X := by unfold wE; exact h0
instance j_x_ix  : Step (wE C (.ix a b) e M Q X) (wE C a e M (fun x M1 => wE C b e M1 (fun y M2 => wR (gIx x y M2) Q X) X) X) := ⟨fun h => x_ix h⟩
theorem x_sl {f : Bool} {lo hi : Exo} (h0 : wE C a e M (fun x M1 => wO C lo e M1 (fun l M2 => wO C hi e M2 (fun h M3 => wR (gSl f x l h M3) Q X) X) X) X) : wE C (.sl f a lo hi) e M Q X := by unfold wE; exact h0
instance j_x_sl {f : Bool} {lo hi : Exo} : Step (wE C (.sl f a lo hi) e M Q X) (wE C a e M (fun x M1 => wO C lo e M1 (fun l M2 => wO C hi e M2 (fun h M3 => wR (gSl f x l h M3) Q X) X) X) X) := ⟨fun h => x_sl h⟩
theorem x_tup  (h0 : wEs C es e M (fun ds M1 => wR (gTup ds M1) Q X) X) : wE C (.tup es) e M Q X := by unfold wE; exact h0
instance j_x_tup  : Step (wE C (.tup es) e M Q X) (wEs C es e M (fun ds M1 => wR (gTup ds M1) Q X) X) := ⟨fun h => x_tup h⟩
theorem x_lst {f : Bool} (h0 : wEs C es e M (fun ds M1 => wR (gLst f ds M1) Q X) X) : wE C (.lst f es) e M Q X := by unfold wE; exact h0
instance j_x_lst {f : Bool} : Step (wE C (.lst f es) e M Q X) (wEs C es e M (fun ds M1 => wR (gLst f ds M1) Q X) X) := ⟨fun h => x_lst h⟩
theorem x_mt {m : Mth} (h0 : wE C a e M (fun x M1 => (rdLst M1 x).isSome = true ∧ wEs C es e M1 (fun ds M2 => wR (m.g x ds M2) Q X) X) X) : wE C (.mt m a es) e M Q X := by unfold wE; exact h0
instance j_x_mt {m : Mth} : Step (wE C (.mt m a es) e M Q X) (wE C a e M (fun x M1 => (rdLst M1 x).isSome = true ∧ wEs C es e M1 (fun ds M2 => wR (m.g x ds M2) Q X) X) X) := ⟨fun h => x_mt h⟩
theorem x_d0  (h0 : Q (.dct []) M) : wE C .d0 e M Q X := by unfold wE; exact h0
instance j_x_d0  : Step (wE C .d0 e M Q X) (Q (.dct []) M) := ⟨fun h => x_d0 h⟩
theorem x_exv {k f : Str} (h0 : wEs C es e M (fun ds M1 => wR (gExv k f ds M1) Q X) X) : wE C (.exv k f es) e M Q X := by unfold wE; exact h0
instance j_x_exv {k f : Str} : Step (wE C (.exv k f es) e M Q X) (wEs C es e M (fun ds M1 => wR (gExv k f ds M1) Q X) X) := ⟨fun h => x_exv h⟩
theorem t_and  (h0 : wT C a e M (fun t M1 => (t = true → wT C b e M1 QB X) ∧ (t = false → QB false M1)) X) : wT C (.and a b) e M QB X := by unfold wT; exact h0
instance j_t_and  : Step (wT C (.and a b) e M QB X) (wT C a e M (fun t M1 => (t = true → wT C b e M1 QB X) ∧ (t = false → QB false M1)) X) := ⟨fun h => t_and h⟩
theorem t_or  (h0 : wT C a e M (fun t M1 => (t = true → QB true M1) ∧ (t = false → wT C b e M1 QB X)) X) : wT C (.or a b) e M QB X := by unfold wT; exact h0
instance j_t_or  : Step (wT C (.or a b) e M QB X) (wT C a e M (fun t M1 => (t = true → QB true M1) ∧ (t = false → wT C b e M1 QB X)) X) := ⟨fun h => t_or h⟩
theorem t_not  (h0 : wT C a e M (fun t M1 => QB (!t) M1) X) : wT C (.not a) e M QB X := by unfold wT; exact h0
instance j_t_not  : Step (wT C (.not a) e M QB X) (wT C a e M (fun t M1 => QB (!t) M1) X) := ⟨fun h => t_not h⟩
theorem t_v0 {r : Ev} (h0 : wR (tru d M) QB X) : wT C (.var 0) (some d :: r) M QB X := by unfold wT; exact h0
instance j_t_v0 {r : Ev} : Step (wT C (.var 0) (some d :: r) M QB X) (wR (tru d M) QB X) := ⟨fun h => t_v0 h⟩
theorem t_v1 {x0 : Option D} {r : Ev} (h0 : wR (tru d M) QB X) : wT C (.var 1) (x0 :: some d :: r) M QB X := by unfold wT; exact h0
instance j_t_v1 {x0 : Option D} {r : Ev} : Step (wT C (.var 1) (x0 :: some d :: r) M QB X) (wR (tru d M) QB X) := ⟨fun h => t_v1 h⟩
theorem t_v2 {x0 x1 : Option D} {r : Ev} (h0 : wR (tru d M) QB X) : wT C (.var 2) (x0 :: x1 :: some d :: r) M QB X := by unfold wT; exact h0
instance j_t_v2 {x0 x1 : Option D} {r : Ev} : Step (wT C (.var 2) (x0 :: x1 :: some d :: r) M QB X) (wR (tru d M) QB X) := ⟨fun h => t_v2 h⟩
theorem t_v3 {x0 x1 x2 : Option D} {r : Ev} (h0 : wR (tru d M) QB X) : wT C (.var 3) (x0 :: x1 :: x2 :: some d :: r) M QB X := by unfold wT; exact h0
instance j_t_v3 {x0 x1 x2 : Option D} {r : Ev} : Step (wT C (.var 3) (x0 :: x1 :: x2 :: some d :: r) M QB X) (wR (tru d M) QB X) := ⟨fun h => t_v3 h⟩
theorem t_v4 {x0 x1 x2 x3 : Option D} {r : Ev} (h0 : wR (tru d M) QB X) : wT C (.var 4) (x0 :: x1 :: x2 :: x3 :: some d :: r) M QB X := by unfold wT; exact h0
instance j_t_v4 {x0 x1 x2 x3 : Option D} {r : Ev} : Step (wT C (.var 4) (x0 :: x1 :: x2 :: x3 :: some d :: r) M QB X) (wR (tru d M) QB X) := ⟨fun h => t_v4 h⟩
theorem t_v5 {x0 x1 x2 x3 x4 : Option D} {r : Ev} (h0 : wR (tru d M) QB X) : wT C (.var 5) (x0 :: x1 :: x2 :: x3 :: x4 :: some d :: r) M QB X := by unfold wT; exact h0
instance j_t_v5 {x0 x1 x2 x3 x4 : Option D} {r : Ev} : Step (wT C (.var 5) (x0 :: x1 :: x2 :: x3 :: x4 :: some d :: r) M QB X) (wR (tru d M) QB X) := ⟨fun h => t_v5 h⟩
theorem t_v6 {x0 x1 x2 x3 x4 x5 : Option D} {r : Ev} (h0 : wR (tru d M) QB X) : wT C (.var 6) (x0 :: x1 :: x2 :: x3 :: x4 :: x5 :: some d :: r) M QB X := by unfold wT; exact h0
instance j_t_v6 {x0 x1 x2 x3 x4 x5 : Option D} {r : Ev} : Step (wT C (.var 6) (x0 :: x1 :: x2 :: x3 :: x4 :: x5 :: some d :: r) M QB X) (wR (tru d M) QB X) := ⟨fun h => t_v6 h⟩
theorem t_v7 {x0 x1 x2 x3 x4 x5 x6 : Option D} {r : Ev} (h0 : wR (tru d M) QB X) : wT C (.var 7) (x0 :: x1 :: x2 :: x3 :: x4 :: x5 :: x6 :: some d :: r) M QB X := by unfold wT; exact h0
instance j_t_v7 {x0 x1 x2 x3 x4 x5 x6 : Option D} {r : Ev} : Step (wT C (.var 7) (x0 :: x1 :: x2 :: x3 :: x4 :: x5 :: x6 :: some d :: r) M QB X) (wR (tru d M) QB X) := ⟨fun h => t_v7 h⟩
theorem t_v8 {x0 x1 x2 x3 x4 x5 x6 x7 : Option D} {r : Ev} (h0 : wR (tru d M) QB X) : wT C (.var 8) (x0 :: x1 :: x2 :: x3 :: x4 :: x5 :: x6 :: x7 :: some d :: r) M QB X := by unfold wT; exact h0
instance j_t_v8 {x0 x1 x2 x3 x4 x5 x6 x7 : Option D} {r : Ev} : Step (wT C (.var 8) (x0 :: x1 :: x2 :: x3 :: x4 :: x5 :: x6 :: x7 :: some d :: r) M QB X) (wR (tru d M) QB X) := ⟨fun h => t_v8 h⟩
theorem t_v9 {x0 x1 x2 x3 x4 x5 x6 x7 x8 : Option D} {r : Ev} (h0 : wR (tru d M) QB X) : wT C (.var 9) (x0 :: x1 :: x2 :: x3 :: x4 :: x5 :: x6 :: x7 :: x8 :: some d :: r) M QB X := by unfold wT; exact h0
instance j_t_v9 {x0 x1 x2 x3 x4 x5 x6 x7 x8 : Option D} {r : Ev} : Step (wT C (.var 9) (x0 :: x1 :: x2 :: x3 :: x4 :: x5 :: x6 :: x7 :: x8 :: some d :: r) M QB X) (wR (tru d M) QB X) := ⟨fun h => t_v9 h⟩
theorem t_v10 {x0 x1 x2 x3 x4 x5 x6 x7 x8 x9 : Option D} {r : Ev} (h0 : wR (tru d M) QB X) : wT C (.var 10) (x0 :: x1 :: x2 :: x3 :: x4 :: x5 :: x6 :: x7 :: x8 :: x9 :: some d :: r) M QB X := by unfold wT; exact h0
instance j_t_v10 {x0 x1 x2 x3 x4 x5 x6 x7 x8 x9 : Option D} {r : Ev} : Step (wT C (.var 10) (x0 :: x1 :: x2 :: x3 :: x4 :: x5 :: x6 :: x7 :: x8 :: x9 :: some d :: r) M QB X) (wR (tru d M) QB X) := ⟨fun h => t_v10 h⟩
theorem t_v11 {x0 x1 x2 x3 x4 x5 x6 x7 x8 x9 x10 : Option D} {r : Ev} (h0 : wR (tru d M) QB X) : wT C (.var 11) (x0 :: x1 :: x2 :: x3 :: x4 :: x5 :: x6 :: x7 :: x8 :: x9 :: x10 :: some d :: r) M QB X := by unfold wT; exact h0
instance j_t_v11 {x0 x1 x2 x3 x4 x5 x6 x7 x8 x9 x10 : Option D} {r : Ev} : Step (wT C (.var 11) (x0 :: x1 :: x2 :: x3 :: x4 :: x5 :: x6 :: x7 :: x8 :: x9 :: x10 :: some d :: r) M QB X) (wR (tru d M) QB X) := ⟨fun h => t_v11 h⟩
theorem t_v12 {x0 x1 x2 x3 x4 x5 x6 x7 x8 x9 x10 x11 : Option D} {r : Ev} (h0 : wR (tru d M) QB X) : wT C (.var 12) (x0 :: x1 :: x2 :: x3 :: x4 :: x5 :: x6 :: x7 :: x8 :: x9 :: x10 :: x11 :: some d :: r) M QB X := by unfold wT; exact h0
instance j_t_v12 {x0 x1 x2 x3 x4 x5 x6 x7 x8 x9 x10 x11 : Option D} {r : Ev} : Step (wT C (.var 12) (x0 :: x1 :: x2 :: x3 :: x4 :: x5 :: x6 :: x7 :: x8 :: x9 :: x10 :: x11 :: some d :: r) M QB X) (wR (tru d M) QB X) := ⟨fun h => t_v12 h⟩
theorem t_v13 {x0 x1 x2 x3 x4 x5 x6 x7 x8 x9 x10 x11 x12 : Option D} {r : Ev} (h0 : wR (tru d M) QB X) : wT C (.var 13) (x0 :: x1 :: x2 :: x3 :: x4 :: x5 :: x6 :: x7 :: x8 :: x9 :: x10 :: x11 :: x12 :: some d :: r) M QB X := by unfold wT; exact h0
instance j_t_v13 {x0 x1 x2 x3 x4 x5 x6 x7 x8 x9 x10 x11 x12 : Option D} {r : Ev} : Step (wT C (.var 13) (x0 :: x1 :: x2 :: x3 :: x4 :: x5 :: x6 :: x7 :: x8 :: x9 :: x10 :: x11 :: x12 :: some d :: r) M QB X) (wR (tru d M) QB X) := ⟨fun h => t_v13 h⟩
theorem t_v14 {x0 x1 x2 x3 x4 x5 x6 x7 x8 x9 x10 x11 x12 x13 : Option D} {r : Ev} (h0 : wR (tru d M) QB X) : wT C (.var 14) (x0 :: x1 :: x2 :: x3 :: x4 :: x5 :: x6 :: x7 :: x8 :: x9 :: x10 :: x11 :: x12 :: x13 :: some d :: r) M QB X := by unfold wT; exact h0
instance j_t_v14 {x0 x1 x2 x3 x4 x5 x6 x7 x8 x9 x10 x11 x12 x13 : Option D} {r : Ev} : Step (wT C (.var 14) (x0 :: x1 :: x2 :: x3 :: x4 :: x5 :: x6 :: x7 :: x8 :: x9 :: x10 :: x11 :: x12 :: x13 :: some d :: r) M QB X) (wR (tru d M) QB X) := ⟨fun h => t_v14 h⟩
theorem t_v15 {x0 x1 x2 x3 x4 x5 x6 x7 x8 x9 x10 x11 x12 x13 x14 : Option D} {r : Ev} (h0 : wR (tru d M) QB X) : wT C (.var 15) (x0 :: x1 :: x2 :: x3 :: x4 :: x5 :: x6 :: x7 :: x8 :: x9 :: x10 :: x11 :: x12 :: x13 :: x14 :: some d :: r) M QB X := by unfold wT; exact h0
instance j_t_v15 {x0 x1 x2 x3 x4 x5 x6 x7 x8 x9 x10 x11 x12 x13 x14 : Option D} {r : Ev} : Step (wT C (.var 15) (x0 :: x1 :: x2 :: x3 :: x4 :: x5 :: x6 :: x7 :: x8 :: x9 :: x10 :: x11 :: x12 :: x13 :: x14 :: some d :: r) M QB X) (wR (tru d M) QB X) := ⟨fun h => t_v15 h⟩
theorem t_v16 {x0 x1 x2 x3 x4 x5 x6 x7 x8 x9 x10 x11 x12 x13 x14 x15 : Option D} {r : Ev} (h0 : wR (tru d M) QB X) : wT C (.var 16) (x0 :: x1 :: x2 :: x3 :: x4 :: x5 :: x6 :: x7 :: x8 :: x9 :: x10 :: x11 :: x12 :: x13 :: x14 :: x15 :: some d :: r) M QB X := by unfold wT; exact h0
instance j_t_v16 {x0 x1 x2 x3 x4 x5 x6 x7 x8 x9 x10 x11 x12 x13 x14 x15 : Option D} {r : Ev} : Step (wT C (.var 16) (x0 :: x1 :: x2 :: x3 :: x4 :: x5 :: x6 :: x7 :: x8 :: x9 :: x10 :: x11 :: x12 :: x13 :: x14 :: x15 :: some d :: r) M QB X) (wR (tru d M) QB X) := ⟨fun h => t_v16 h⟩
theorem t_v17 {x0 x1 x2 x3 x4 x5 x6 x7 x8 x9 x10 x11 x12 x13 x14 x15 x16 : Option D} {r : Ev} (h0 : wR (tru d M) QB X) : wT C (.var 17) (x0 :: x1 :: x2 :: x3 :: x4 :: x5 :: x6 :: x7 :: x8 :: x9 :: x10 :: x11 :: x12 :: x13 :: x14 :: x15 :: x16 :: some d :: r) M QB X := by unfold wT; exact h0
instance j_t_v17 {x0 x1 x2 x3 x4 x5 x6 x7 x8 x9 x10 x11 x12 x13 x14 x15 x16 : Option D} {r : Ev} : Step (wT C (.var 17) (x0 :: x1 :: x2 :: x3 :: x4 :: x5 :: x6 :: x7 :: x8 :: x9 :: x10 :: x11 :: x12 :: x13 :: x14 :: x15 :: x16 :: some d :: r) M QB X) (wR (tru d M) QB X) := ⟨fun h => t_v17 h⟩
theorem t_v18 {x0 x1 x2 x3 x4 x5 x6 x7 x8 x9 x10 x11 x12 x13 x14 x15 x16 x17 : Option D} {r : Ev} (h0 : wR (tru d M) QB X) : wT C (.var 18) (x0 :: x1 :: x2 :: x3 :: x4 :: x5 :: x6 :: x7 :: x8 :: x9 :: x10 :: x11 :: x12 :: x13 :: x14 :: x15 :: x16 :: x17 :: some d :: r) M QB X := by unfold wT; exact h0
instance j_t_v18 {x0 x1 x2 x3 x4 x5 x6 x7 x8 x9 x10 x11 x12 x13 x14 x15 x16 x17 : Option D} {r : Ev} : Step (wT C (.var 18) (x0 :: x1 :: x2 :: x3 :: x4 :: x5 :: x6 :: x7 :: x8 :: x9 :: x10 :: x11 :: x12 :: x13 :: x14 :: x15 :: x16 :: x17 :: some d :: r) M QB X) (wR (tru d M) QB X) := ⟨fun h => t_v18 h⟩
theorem t_v19 {x0 x1 x2 x3 x4 x5 x6 x7 x8 x9 x10 x11 x12 x13 x14 x15 x16 x17 x18 : Option D} {r : Ev} (h0 : wR (tru d M) QB X) : wT C (.var 19) (x0 :: x1 :: x2 :: x3 :: x4 :: x5 :: x6 :: x7 :: x8 :: x9 :: x10 :: x11 :: x12 :: x13 :: x14 :: x15 :: x16 :: x17 :: x18 :: some d :: r) M QB X := by unfold wT; exact h0
instance j_t_v19 {x0 x1 x2 x3 x4 x5 x6 x7 x8 x9 x10 x11 x12 x13 x14 x15 x16 x17 x18 : Option D} {r : Ev} : Step (wT C (.var 19) (x0 :: x1 :: x2 :: x3 :: x4 :: x5 :: x6 :: x7 :: x8 :: x9 :: x10 :: x11 :: x12 :: x13 :: x14 :: x15 :: x16 :: x17 :: x18 :: some d :: r) M QB X) (wR (tru d M) QB X) := ⟨fun h => t_v19 h⟩
theorem t_v20 {x0 x1 x2 x3 x4 x5 x6 x7 x8 x9 x10 x11 x12 x13 x14 x15 x16 x17 x18 x19 : Option D} {r : Ev} (h0 : wR (tru d M) QB X) : wT C (.var 20) (x0 :: x1 :: x2 :: x3 :: x4 :: x5 :: x6 :: x7 :: x8 :: x9 :: x10 :: x11 :: x12 :: x13 :: x14 :: x15 :: x16 :: x17 :: x18 :: x19 :: some d :: r) M QB X := by unfold wT; exact h0
instance j_t_v20 {x0 x1 x2 x3 x4 x5 x6 x7 x8 x9 x10 x11 x12 x13 x14 x15 x16 x17 x18 x19 : Option D} {r : Ev} : Step (wT C (.var 20) (x0 :: x1 :: x2 :: x3 :: x4 :: x5 :: x6 :: x7 :: x8 :: x9 :: x10 :: x11 :: x12 :: x13 :: x14 :: x15 :: x16 :: x17 :: x18 :: x19 :: some d :: r) M QB X) (wR (tru d M) QB X) := ⟨fun h => t_v20 h⟩
theorem t_v21 {x0 x1 x2 x3 x4 x5 x6 x7 x8 x9 x10 x11 x12 x13 x14 x15 x16 x17 x18 x19 x20 : Option D} {r : Ev} (h0 : wR (tru d M) QB X) : wT C (.var 21) (x0 :: x1 :: x2 :: x3 :: x4 :: x5 :: x6 :: x7 :: x8 :: x9 :: x10 :: x11 :: x12 :: x13 :: x14 :: x15 :: x16 :: x17 :: x18 :: x19 :: x20 :: some d :: r) M QB X := by unfold wT; exact h0
instance j_t_v21 {x0 x1 x2 x3 x4 x5 x6 x7 x8 x9 x10 x11 x12 x13 x14 x15 x16 x17 x18 x19 x20 : Option D} {r : Ev} : Step (wT C (.var 21) (x0 :: x1 :: x2 :: x3 :: x4 :: x5 :: x6 :: x7 :: x8 :: x9 :: x10 :: x11 :: x12 :: x13 :: x14 :: x15 :: x16 :: x17 :: x18 :: x19 :: x20 :: some d :: r) M QB X) (wR (tru d M) QB X) := ⟨fun h => t_v21 h⟩
theorem t_v22 {x0 x1 x2 x3 x4 x5 x6 x7 x8 x9 x10 x11 x12 x13 x14 x15 x16 x17 x18 x19 x20 x21 : Option D} {r : Ev} (h0 : wR (tru d M) QB X) : wT C (.var 22) (x0 :: x1 :: x2 :: x3 :: x4 :: x5 :: x6 :: x7 :: x8 :: x9 :: x10 :: x11 :: x12 :: x13 :: x14 :: x15 :: x16 :: x17 :: x18 :: x19 :: x20 :: x21 :: some d :: r) M QB X := by unfold wT; exact h0
instance j_t_v22 {x0 x1 x2 x3 x4 x5 x6 x7 x8 x9 x10 x11 x12 x13 x14 x15 x16 x17 x18 x19 x20 x21 : Option D} {r : Ev} : Step (wT C (.var 22) (x0 :: x1 :: x2 :: x3 :: x4 :: x5 :: x6 :: x7 :: x8 :: x9 :: x10 :: x11 :: x12 :: x13 :: x14 :: x15 :: x16 :: x17 :: x18 :: x19 :: x20 :: x21 :: some d :: r) M QB X) (wR (tru d M) QB X) := ⟨fun h => t_v22 h⟩
theorem t_v23 {x0 x1 x2 x3 x4 x5 x6 x7 x8 x9 x10 x11 x12 x13 x14 x15 x16 x17 x18 x19 x20 x21 x22 : Option D} {r : Ev} (h0 : wR (tru d M) QB X) : wT C (.var 23) (x0 :: x1 :: x2 :: x3 :: x4 :: x5 :: x6 :: x7 :: x8 :: x9 :: x10 :: x11 :: x12 :: x13 :: x14 :: x15 :: x16 :: x17 :: x18 :: x19 :: x20 :: x21 :: x22 :: some d :: r) M QB X := by unfold wT; exact h0
instance j_t_v23 {x0 x1 x2 x3 x4 x5 x6 x7 x8 x9 x10 x11 x12 x13 x14 x15 x16 x17 x18 x19 x20 x21 x22 : Option D} {r : Ev} : Step (wT C (.var 23) (x0 :: x1 :: x2 :: x3 :: x4 :: x5 :: x6 :: x7 :: x8 :: x9 :: x10 :: x11 :: x12 :: x13 :: x14 :: x15 :: x16 :: x17 :: x18 :: x19 :: x20 :: x21 :: x22 :: some d :: r) M QB X) (wR (tru d M) QB X) := ⟨fun h => t_v23 h⟩
theorem t_cst  (h0 : wR (tru d M) QB X) : wT C (.cst d) e M QB X := by unfold wT; exact h0
instance j_t_cst  : Step (wT C (.cst d) e M QB X) (wR (tru d M) QB X) := ⟨fun h => t_cst h⟩
theorem t_op {o : Bop} (h0 : wE C a e M (fun x M1 => wE C b e M1 (fun y M2 => wR (o.g x y M2) (fun z M3 => wR (tru z M3) QB X) X) X) X) : wT C (.op o a b) e M QB X := by unfold wT; exact h0
instance j_t_op {o : Bop} : Step (wT C (.op o a b) e M QB X) (wE C a e M (fun x M1 => wE C b e M1 (fun y M2 => wR (o.g x y M2) (fun z M3 => wR (tru z M3) QB X) X) X) X) := ⟨fun h => t_op h⟩
theorem t_fld {cs fs : List Str} {f : Str} (h0 : wE C a e M (fun x M1 => wR (gFld cs fs f x M1) (fun z M3 => wR (tru z M3) QB X) X) X) : wT C (.fld cs fs f a) e M QB X := by unfold wT; exact h0
instance j_t_fld {cs fs : List Str} {f : Str} : Step (wT C (.fld cs fs f a) e M QB X) (wE C a e M (fun x M1 => wR (gFld cs fs f x M1) (fun z M3 => wR (tru z M3) QB X) X) X) := ⟨fun h => t_fld h⟩
theorem t_neg  (h0 : wE C a e M (fun x M1 => wR (gNeg x M1) (fun z M3 => wR (tru z M3) QB X) X) X) : wT C (.neg a) e M QB X := by unfold wT; exact h0
instance j_t_neg  : Step (wT C (.neg a) e M QB X) (wE C a e M (fun x M1 => wR (gNeg x M1) (fun z M3 => wR (tru z M3) QB X) X) X) := ⟨fun h => t_neg h⟩
theorem t_chain {o p : Bop} (h0 : wE C a e M (fun x M1 => wE C b e M1 (fun y M2 => wR (o.g x y M2) (fun z M3 => ∃ t, z = .bl t ∧ (t = true → wE C c e M3 (fun u M4 => wR (p.g y u M4) (fun z M5 => wR (tru z M5) QB X) X) X) ∧ (t = false → QB false M3)) X) X) X) : wT C (.chain o p a b c) e M QB X := by unfold wT; exact h0
instance j_t_chain {o p : Bop} : Step (wT C (.chain o p a b c) e M QB X) (wE C a e M (fun x M1 => wE C b e M1 (fun y M2 => wR (o.g x y M2) (fun z M3 => ∃ t, z = .bl t ∧ (t = true → wE C c e M3 (fun u M4 => wR (p.g y u M4) (fun z M5 => wR (tru z M5) QB X) X) X) ∧ (t = false → QB false M3)) X) X) X) := ⟨fun h => t_chain h⟩
theorem t_blt {f : Blt} (h0 : wEs C es e M (fun ds M1 => wR (f.g ds M1) (fun z M3 => wR (tru z M3) QB X) X) X) : wT C (.blt f es) e M QB X := by unfold wT; exact h0
instance j_t_blt {f : Blt} : Step (wT C (.blt f es) e M QB X) (wEs C es e M (fun ds M1 => wR (f.g ds M1) (fun z M3 => wR (tru z M3) QB X) X) X) := ⟨fun h => t_blt h⟩
theorem t_call {f : Str} {n : Nat} (h0 : wEs C es e M (fun ds M1 => ds.length = n ∧ wR (C f ds M1) (fun z M3 => wR (tru z M3) QB X) X) X) : wT C (.call f n es) e M QB X := by unfold wT; exact h0
instance j_t_call {f : Str} {n : Nat} : Step (wT C (.call f n es) e M QB X) (wEs C es e M (fun ds M1 => ds.length = n ∧ wR (C f ds M1) (fun z M3 => wR (tru z M3) QB X) X) X) := ⟨fun h => t_call h⟩
theorem t_callK {f : Str} {n : Nat} {ord : List Nat} (h0 : wEs C es e M (fun ds M1 => (pick ord ds).length = n ∧ wR (C f (pick ord ds) M1) (fun z M3 => wR (tru z M3) QB X) X) X) : wT C (.callK f n ord es) e M QB X := by unfold wT; exact h0
instance j_t_callK {f : Str} {n : Nat} {ord : List Nat} : Step (wT C (.callK f n ord es) e M QB X) (wEs C es e M (fun ds M1 => (pick ord ds).length = n ∧ wR (C f (pick ord ds) M1) (fun z M3 => wR (tru z M3) QB X) X) X) := ⟨fun h => t_callK h⟩
theorem t_ix  (h0 : wE C a e M (fun x M1 => wE C b e M1 (fun y M2 => wR (gIx x y M2) (fun z M3 => wR (tru z M3) QB X) X) X) X) : wT C (.ix a b) e M QB X := by unfold wT; exact h0
instance j_t_ix  : Step (wT C (.ix a b) e M QB X) (wE C a e M (fun x M1 => wE C b e M1 (fun y M2 => wR (gIx x y M2) (fun z M3 => wR (tru z M3) QB X) X) X) X) := ⟨fun h => t_ix h⟩
theorem t_mt {m : Mth} (h0 : wE C a e M (fun x M1 => (rdLst M1 x).isSome = true ∧ wEs C es e M1 (fun ds M2 => wR (m.g x ds M2) (fun z M3 => wR (tru z M3) QB X) X) X) X) : wT C (.mt m a es) e M QB X := by unfold wT; exact h0
instance j_t_mt {m : Mth} : Step (wT C (.mt m a es) e M QB X) (wE C a e M (fun x M1 => (rdLst M1 x).isSome = true ∧ wEs C es e M1 (fun ds M2 => wR (m.g x ds M2) (fun z M3 => wR (tru z M3) QB X) X) X) X) := ⟨fun h => t_mt h⟩
theorem es_nil  (h0 : QL [] M) : wEs C .nil e M QL X := by unfold wEs; exact h0
instance j_es_nil  : Step (wEs C .nil e M QL X) (QL [] M) := ⟨fun h => es_nil h⟩
theorem es_cons  (h0 : wE C a e M (fun x M1 => wEs C es e M1 (fun xs M2 => QL (x :: xs) M2) X) X) : wEs C (.cons a es) e M QL X := by unfold wEs; exact h0
instance j_es_cons  : Step (wEs C (.cons a es) e M QL X) (wE C a e M (fun x M1 => wEs C es e M1 (fun xs M2 => QL (x :: xs) M2) X) X) := ⟨fun h => es_cons h⟩
theorem es_star  (h0 : wE C a e M (fun x M1 => ∃ xs, rdSeq M1 x = some xs ∧ wEs C es e M1 (fun ys M2 => QL (xs ++ ys) M2) X) X) : wEs C (.star a es) e M QL X := by unfold wEs; exact h0
instance j_es_star  : Step (wEs C (.star a es) e M QL X) (wE C a e M (fun x M1 => ∃ xs, rdSeq M1 x = some xs ∧ wEs C es e M1 (fun ys M2 => QL (xs ++ ys) M2) X) X) := ⟨fun h => es_star h⟩
theorem es_stup {xs : List D} {F : List D → Prop} (h0 : F xs) : ∃ ys, rdSeq M (.tup xs) = some ys ∧ F ys := ⟨_, rfl, h0⟩
instance j_es_stup {xs : List D} {F : List D → Prop} : Step (∃ ys, rdSeq M (.tup xs) = some ys ∧ F ys) (F xs) := ⟨fun h => es_stup h⟩
theorem es_slst {xs : List D} {F : List D → Prop} (h0 : F xs) : ∃ ys, rdSeq M (.lst xs) = some ys ∧ F ys := ⟨_, rfl, h0⟩
instance j_es_slst {xs : List D} {F : List D → Prop} : Step (∃ ys, rdSeq M (.lst xs) = some ys ∧ F ys) (F xs) := ⟨fun h => es_slst h⟩
theorem es_sscr {xs : List D} {F : List D → Prop} (h0 : F xs) : ∃ ys, rdSeq M (.scr xs) = some ys ∧ F ys := ⟨_, rfl, h0⟩
instance j_es_sscr {xs : List D} {F : List D → Prop} : Step (∃ ys, rdSeq M (.scr xs) = some ys ∧ F ys) (F xs) := ⟨fun h => es_sscr h⟩
theorem o_none  (h0 : QO none M) : wO C .none e M QO X := by unfold wO; exact h0
instance j_o_none  : Step (wO C .none e M QO X) (QO none M) := ⟨fun h => o_none h⟩
theorem o_some  (h0 : wE C a e M (fun x M1 => ∃ i, x = .int i ∧ QO (some i) M1) X) : wO C (.some a) e M QO X := by unfold wO; exact h0
instance j_o_some  : Step (wO C (.some a) e M QO X) (wE C a e M (fun x M1 => ∃ i, x = .int i ∧ QO (some i) M1) X) := ⟨fun h => o_some h⟩
theorem o_int {i : Int} {F : Int → Prop} (h0 : F i) : ∃ j, D.int i = .int j ∧ F j := ⟨_, rfl, h0⟩
instance j_o_int {i : Int} {F : Int → Prop} : Step (∃ j, D.int i = .int j ∧ F j) (F i) := ⟨fun h => o_int h⟩
theorem c_none  (h0 : QB true M) : wC C .none e M QB X := by unfold wC; exact h0
instance j_c_none  : Step (wC C .none e M QB X) (QB true M) := ⟨fun h => c_none h⟩
theorem c_some  (h0 : wT C a e M QB X) : wC C (.some a) e M QB X := by unfold wC; exact h0
instance j_c_some  : Step (wC C (.some a) e M QB X) (wT C a e M QB X) := ⟨fun h => c_some h⟩
theorem w_seq  (h0 : wE C a e M (fun x M1 => wR (gWd x M1) QW X) X) : wW C (.seq a) e M QW X := by unfold wW; exact h0
instance j_w_seq  : Step (wW C (.seq a) e M QW X) (wE C a e M (fun x M1 => wR (gWd x M1) QW X) X) := ⟨fun h => w_seq h⟩
theorem w_rev  (h0 : wE C a e M (fun x M1 => wR (gRev x M1) QW X) X) : wW C (.rev a) e M QW X := by unfold wW; exact h0
instance j_w_rev  : Step (wW C (.rev a) e M QW X) (wE C a e M (fun x M1 => wR (gRev x M1) QW X) X) := ⟨fun h => w_rev h⟩
theorem w_rng1  (h0 : wEs C es e M (fun ds M1 => wR (gRng1 ds M1) QW X) X) : wW C (.rng1 es) e M QW X := by unfold wW; exact h0
instance j_w_rng1  : Step (wW C (.rng1 es) e M QW X) (wEs C es e M (fun ds M1 => wR (gRng1 ds M1) QW X) X) := ⟨fun h => w_rng1 h⟩
theorem w_rng2  (h0 : wEs C es e M (fun ds M1 => wR (gRng2 ds M1) QW X) X) : wW C (.rng2 es) e M QW X := by unfold wW; exact h0
instance j_w_rng2  : Step (wW C (.rng2 es) e M QW X) (wEs C es e M (fun ds M1 => wR (gRng2 ds M1) QW X) X) := ⟨fun h => w_rng2 h⟩
theorem w_rng3  (h0 : wEs C es e M (fun ds M1 => wR (gRng3 ds M1) QW X) X) : wW C (.rng3 es) e M QW X := by unfold wW; exact h0
instance j_w_rng3  : Step (wW C (.rng3 es) e M QW X) (wEs C es e M (fun ds M1 => wR (gRng3 ds M1) QW X) X) := ⟨fun h => w_rng3 h⟩
theorem w_enum  (h0 : wEs C es e M (fun ds M1 => wR (gEnum ds M1) QW X) X) : wW C (.enum es) e M QW X := by unfold wW; exact h0
instance j_w_enum  : Step (wW C (.enum es) e M QW X) (wEs C es e M (fun ds M1 => wR (gEnum ds M1) QW X) X) := ⟨fun h => w_enum h⟩
theorem w_zip  (h0 : wEs C es e M (fun ds M1 => wR (gZip ds M1) QW X) X) : wW C (.zip es) e M QW X := by unfold wW; exact h0
instance j_w_zip  : Step (wW C (.zip es) e M QW X) (wEs C es e M (fun ds M1 => wR (gZip ds M1) QW X) X) := ⟨fun h => w_zip h⟩
theorem g_0 {z : Option D} {r : Ev} (h0 : N (some d :: r) M) : wG C (.nm 0) d (z :: r) M N XE := by unfold wG; exact h0
instance j_g_0 {z : Option D} {r : Ev} : Step (wG C (.nm 0) d (z :: r) M N XE) (N (some d :: r) M) := ⟨fun h => g_0 h⟩
theorem g_1 {x0 : Option D} {z : Option D} {r : Ev} (h0 : N (x0 :: some d :: r) M) : wG C (.nm 1) d (x0 :: z :: r) M N XE := by unfold wG; exact h0
instance j_g_1 {x0 : Option D} {z : Option D} {r : Ev} : Step (wG C (.nm 1) d (x0 :: z :: r) M N XE) (N (x0 :: some d :: r) M) := ⟨fun h => g_1 h⟩
theorem g_2 {x0 x1 : Option D} {z : Option D} {r : Ev} (h0 : N (x0 :: x1 :: some d :: r) M) : wG C (.nm 2) d (x0 :: x1 :: z :: r) M N XE := by unfold wG; exact h0
instance j_g_2 {x0 x1 : Option D} {z : Option D} {r : Ev} : Step (wG C (.nm 2) d (x0 :: x1 :: z :: r) M N XE) (N (x0 :: x1 :: some d :: r) M) := ⟨fun h => g_2 h⟩
theorem g_3 {x0 x1 x2 : Option D} {z : Option D} {r : Ev} (h0 : N (x0 :: x1 :: x2 :: some d :: r) M) : wG C (.nm 3) d (x0 :: x1 :: x2 :: z :: r) M N XE := by unfold wG; exact h0
instance j_g_3 {x0 x1 x2 : Option D} {z : Option D} {r : Ev} : Step (wG C (.nm 3) d (x0 :: x1 :: x2 :: z :: r) M N XE) (N (x0 :: x1 :: x2 :: some d :: r) M) := ⟨fun h => g_3 h⟩
theorem g_4 {x0 x1 x2 x3 : Option D} {z : Option D} {r : Ev} (h0 : N (x0 :: x1 :: x2 :: x3 :: some d :: r) M) : wG C (.nm 4) d (x0 :: x1 :: x2 :: x3 :: z :: r) M N XE := by unfold wG; exact h0
instance j_g_4 {x0 x1 x2 x3 : Option D} {z : Option D} {r : Ev} : Step (wG C (.nm 4) d (x0 :: x1 :: x2 :: x3 :: z :: r) M N XE) (N (x0 :: x1 :: x2 :: x3 :: some d :: r) M) := ⟨fun h => g_4 h⟩
theorem g_5 {x0 x1 x2 x3 x4 : Option D} {z : Option D} {r : Ev} (h0 : N (x0 :: x1 :: x2 :: x3 :: x4 :: some d :: r) M) : wG C (.nm 5) d (x0 :: x1 :: x2 :: x3 :: x4 :: z :: r) M N XE := by unfold wG; exact h0
instance j_g_5 {x0 x1 x2 x3 x4 : Option D} {z : Option D} {r : Ev} : Step (wG C (.nm 5) d (x0 :: x1 :: x2 :: x3 :: x4 :: z :: r) M N XE) (N (x0 :: x1 :: x2 :: x3 :: x4 :: some d :: r) M) := ⟨fun h => g_5 h⟩
theorem g_6 {x0 x1 x2 x3 x4 x5 : Option D} {z : Option D} {r : Ev} (h0 : N (x0 :: x1 :: x2 :: x3 :: x4 :: x5 :: some d :: r) M) : wG C (.nm 6) d (x0 :: x1 :: x2 :: x3 :: x4 :: x5 :: z :: r) M N XE := by unfold wG; exact h0
instance j_g_6 {x0 x1 x2 x3 x4 x5 : Option D} {z : Option D} {r : Ev} : Step (wG C (.nm 6) d (x0 :: x1 :: x2 :: x3 :: x4 :: x5 :: z :: r) M N XE) (N (x0 :: x1 :: x2 :: x3 :: x4 :: x5 :: some d :: r) M) := ⟨fun h => g_6 h⟩
theorem g_7 {x0 x1 x2 x3 x4 x5 x6 : Option D} {z : Option D} {r : Ev} (h0 : N (x0 :: x1 :: x2 :: x3 :: x4 :: x5 :: x6 :: some d :: r) M) : wG C (.nm 7) d (x0 :: x1 :: x2 :: x3 :: x4 :: x5 :: x6 :: z :: r) M N XE := by unfold wG; exact h0
instance j_g_7 {x0 x1 x2 x3 x4 x5 x6 : Option D} {z : Option D} {r : Ev} : Step (wG C (.nm 7) d (x0 :: x1 :: x2 :: x3 :: x4 :: x5 :: x6 :: z :: r) M N XE) (N (x0 :: x1 :: x2 :: x3 :: x4 :: x5 :: x6 :: some d :: r) M) := ⟨fun h => g_7 h⟩
theorem g_8 {x0 x1 x2 x3 x4 x5 x6 x7 : Option D} {z : Option D} {r : Ev} (h0 : N (x0 :: x1 :: x2 :: x3 :: x4 :: x5 :: x6 :: x7 :: some d :: r) M) : wG C (.nm 8) d (x0 :: x1 :: x2 :: x3 :: x4 :: x5 :: x6 :: x7 :: z :: r) M N XE := by unfold wG; exact h0
instance j_g_8 {x0 x1 x2 x3 x4 x5 x6 x7 : Option D} {z : Option D} {r : Ev} : Step (wG C (.nm 8) d (x0 :: x1 :: x2 :: x3 :: x4 :: x5 :: x6 :: x7 :: z :: r) M N XE) (N (x0 :: x1 :: x2 :: x3 :: x4 :: x5 :: x6 :: x7 :: some d :: r) M) := ⟨fun h => g_8 h⟩
theorem g_9 {x0 x1 x2 x3 x4 x5 x6 x7 x8 : Option D} {z : Option D} {r : Ev} (h0 : N (x0 :: x1 :: x2 :: x3 :: x4 :: x5 :: x6 :: x7 :: x8 :: some d :: r) M) : wG C (.nm 9) d (x0 :: x1 :: x2 :: x3 :: x4 :: x5 :: x6 :: x7 :: x8 :: z :: r) M N XE := by unfold wG; exact h0
instance j_g_9 {x0 x1 x2 x3 x4 x5 x6 x7 x8 : Option D} {z : Option D} {r : Ev} : Step (wG C (.nm 9) d (x0 :: x1 :: x2 :: x3 :: x4 :: x5 :: x6 :: x7 :: x8 :: z :: r) M N XE) (N (x0 :: x1 :: x2 :: x3 :: x4 :: x5 :: x6 :: x7 :: x8 :: some d :: r) M) := ⟨fun h => g_9 h⟩
theorem g_10 {x0 x1 x2 x3 x4 x5 x6 x7 x8 x9 : Option D} {z : Option D} {r : Ev} (h0 : N (x0 :: x1 :: x2 :: x3 :: x4 :: x5 :: x6 :: x7 :: x8 :: x9 :: some d :: r) M) : wG C (.nm 10) d (x0 :: x1 :: x2 :: x3 :: x4 :: x5 :: x6 :: x7 :: x8 :: x9 :: z :: r) M N XE := by unfold wG; exact h0
instance j_g_10 {x0 x1 x2 x3 x4 x5 x6 x7 x8 x9 : Option D} {z : Option D} {r : Ev} : Step (wG C (.nm 10) d (x0 :: x1 :: x2 :: x3 :: x4 :: x5 :: x6 :: x7 :: x8 :: x9 :: z :: r) M N XE) (N (x0 :: x1 :: x2 :: x3 :: x4 :: x5 :: x6 :: x7 :: x8 :: x9 :: some d :: r) M) := ⟨fun h => g_10 h⟩
theorem g_11 {x0 x1 x2 x3 x4 x5 x6 x7 x8 x9 x10 : Option D} {z : Option D} {r : Ev} (h0 : N (x0 :: x1 :: x2 :: x3 :: x4 :: x5 :: x6 :: x7 :: x8 :: x9 :: x10 :: some d :: r) M) : wG C (.nm 11) d (x0 :: x1 :: x2 :: x3 :: x4 :: x5 :: x6 :: x7 :: x8 :: x9 :: x10 :: z :: r) M N XE := by unfold wG; exact h0
instance j_g_11 {x0 x1 x2 x3 x4 x5 x6 x7 x8 x9 x10 : Option D} {z : Option D} {r : Ev} : Step (wG C (.nm 11) d (x0 :: x1 :: x2 :: x3 :: x4 :: x5 :: x6 :: x7 :: x8 :: x9 :: x10 :: z :: r) M N XE) (N (x0 :: x1 :: x2 :: x3 :: x4 :: x5 :: x6 :: x7 :: x8 :: x9 :: x10 :: some d :: r) M) := ⟨fun h => g_11 h⟩
theorem g_12 {x0 x1 x2 x3 x4 x5 x6 x7 x8 x9 x10 x11 : Option D} {z : Option D} {r : Ev} (h0 : N (x0 :: x1 :: x2 :: x3 :: x4 :: x5 :: x6 :: x7 :: x8 :: x9 :: x10 :: x11 :: some d :: r) M) : wG C (.nm 12) d (x0 :: x1 :: x2 :: x3 :: x4 :: x5 :: x6 :: x7 :: x8 :: x9 :: x10 :: x11 :: z :: r) M N XE := by unfold wG; exact h0
instance j_g_12 {x0 x1 x2 x3 x4 x5 x6 x7 x8 x9 x10 x11 : Option D} {z : Option D} {r : Ev} : Step (wG C (.nm 12) d (x0 :: x1 :: x2 :: x3 :: x4 :: x5 :: x6 :: x7 :: x8 :: x9 :: x10 :: x11 :: z :: r) M N XE) (N (x0 :: x1 :: x2 :: x3 :: x4 :: x5 :: x6 :: x7 :: x8 :: x9 :: x10 :: x11 :: some d :: r) M) := ⟨fun h => g_12 h⟩
theorem g_13 {x0 x1 x2 x3 x4 x5 x6 x7 x8 x9 x10 x11 x12 : Option D} {z : Option D} {r : Ev} (h0 : N (x0 :: x1 :: x2 :: x3 :: x4 :: x5 :: x6 :: x7 :: x8 :: x9 :: x10 :: x11 :: x12 :: some d :: r) M) : wG C (.nm 13) d (x0 :: x1 :: x2 :: x3 :: x4 :: x5 :: x6 :: x7 :: x8 :: x9 :: x10 :: x11 :: x12 :: z :: r) M N XE := by unfold wG; exact h0
instance j_g_13 {x0 x1 x2 x3 x4 x5 x6 x7 x8 x9 x10 x11 x12 : Option D} {z : Option D} {r : Ev} : Step (wG C (.nm 13) d (x0 :: x1 :: x2 :: x3 :: x4 :: x5 :: x6 :: x7 :: x8 :: x9 :: x10 :: x11 :: x12 :: z :: r) M N XE) (N (x0 :: x1 :: x2 :: x3 :: x4 :: x5 :: x6 :: x7 :: x8 :: x9 :: x10 :: x11 :: x12 :: some d :: r) M) := ⟨fun h => g_13 h⟩
theorem g_14 {x0 x1 x2 x3 x4 x5 x6 x7 x8 x9 x10 x11 x12 x13 : Option D} {z : Option D} {r : Ev} (h0 : N (x0 :: x1 :: x2 :: x3 :: x4 :: x5 :: x6 :: x7 :: x8 :: x9 :: x10 :: x11 :: x12 :: x13 :: some d :: r) M) : wG C (.nm 14) d (x0 :: x1 :: x2 :: x3 :: x4 :: x5 :: x6 :: x7 :: x8 :: x9 :: x10 :: x11 :: x12 :: x13 :: z :: r) M N XE := by unfold wG; exact h0
instance j_g_14 {x0 x1 x2 x3 x4 x5 x6 x7 x8 x9 x10 x11 x12 x13 : Option D} {z : Option D} {r : Ev} : Step (wG C (.nm 14) d (x0 :: x1 :: x2 :: x3 :: x4 :: x5 :: x6 :: x7 :: x8 :: x9 :: x10 :: x11 :: x12 :: x13 :: z :: r) M N XE) (N (x0 :: x1 :: x2 :: x3 :: x4 :: x5 :: x6 :: x7 :: x8 :: x9 :: x10 :: x11 :: x12 :: x13 :: some d :: r) M) := ⟨fun h => g_14 h⟩
theorem g_15 {x0 x1 x2 x3 x4 x5 x6 x7 x8 x9 x10 x11 x12 x13 x14 : Option D} {z : Option D} {r : Ev} (h0 : N (x0 :: x1 :: x2 :: x3 :: x4 :: x5 :: x6 :: x7 :: x8 :: x9 :: x10 :: x11 :: x12 :: x13 :: x14 :: some d :: r) M) : wG C (.nm 15) d (x0 :: x1 :: x2 :: x3 :: x4 :: x5 :: x6 :: x7 :: x8 :: x9 :: x10 :: x11 :: x12 :: x13 :: x14 :: z :: r) M N XE := by unfold wG; exact h0
instance j_g_15 {x0 x1 x2 x3 x4 x5 x6 x7 x8 x9 x10 x11 x12 x13 x14 : Option D} {z : Option D} {r : Ev} : Step (wG C (.nm 15) d (x0 :: x1 :: x2 :: x3 :: x4 :: x5 :: x6 :: x7 :: x8 :: x9 :: x10 :: x11 :: x12 :: x13 :: x14 :: z :: r) M N XE) (N (x0 :: x1 :: x2 :: x3 :: x4 :: x5 :: x6 :: x7 :: x8 :: x9 :: x10 :: x11 :: x12 :: x13 :: x14 :: some d :: r) M) := ⟨fun h => g_15 h⟩
theorem g_16 {x0 x1 x2 x3 x4 x5 x6 x7 x8 x9 x10 x11 x12 x13 x14 x15 : Option D} {z : Option D} {r : Ev} (h0 : N (x0 :: x1 :: x2 :: x3 :: x4 :: x5 :: x6 :: x7 :: x8 :: x9 :: x10 :: x11 :: x12 :: x13 :: x14 :: x15 :: some d :: r) M) : wG C (.nm 16) d (x0 :: x1 :: x2 :: x3 :: x4 :: x5 :: x6 :: x7 :: x8 :: x9 :: x10 :: x11 :: x12 :: x13 :: x14 :: x15 :: z :: r) M N XE := by unfold wG; exact h0
instance j_g_16 {x0 x1 x2 x3 x4 x5 x6 x7 x8 x9 x10 x11 x12 x13 x14 x15 : Option D} {z : Option D} {r : Ev} : Step (wG C (.nm 16) d (x0 :: x1 :: x2 :: x3 :: x4 :: x5 :: x6 :: x7 :: x8 :: x9 :: x10 :: x11 :: x12 :: x13 :: x14 :: x15 :: z :: r) M N XE) (N (x0 :: x1 :: x2 :: x3 :: x4 :: x5 :: x6 :: x7 :: x8 :: x9 :: x10 :: x11 :: x12 :: x13 :: x14 :: x15 :: some d :: r) M) := ⟨fun h => g_16 h⟩
theorem g_17 {x0 x1 x2 x3 x4 x5 x6 x7 x8 x9 x10 x11 x12 x13 x14 x15 x16 : Option D} {z : Option D} {r : Ev} (h0 : N (x0 :: x1 :: x2 :: x3 :: x4 :: x5 :: x6 :: x7 :: x8 :: x9 :: x10 :: x11 :: x12 :: x13 :: x14 :: x15 :: x16 :: some d :: r) M) : wG C (.nm 17) d (x0 :: x1 :: x2 :: x3 :: x4 :: x5 :: x6 :: x7 :: x8 :: x9 :: x10 :: x11 :: x12 :: x13 :: x14 :: x15 :: x16 :: z :: r) M N XE := by unfold wG; exact h0
instance j_g_17 {x0 x1 x2 x3 x4 x5 x6 x7 x8 x9 x10 x11 x12 x13 x14 x15 x16 : Option D} {z : Option D} {r : Ev} : Step (wG C (.nm 17) d (x0 :: x1 :: x2 :: x3 :: x4 :: x5 :: x6 :: x7 :: x8 :: x9 :: x10 :: x11 :: x12 :: x13 :: x14 :: x15 :: x16 :: z :: r) M N XE) (N (x0 :: x1 :: x2 :: x3 :: x4 :: x5 :: x6 :: x7 :: x8 :: x9 :: x10 :: x11 :: x12 :: x13 :: x14 :: x15 :: x16 :: some d :: r) M) := ⟨fun h => g_17 h⟩
theorem g_18 {x0 x1 x2 x3 x4 x5 x6 x7 x8 x9 x10 x11 x12 x13 x14 x15 x16 x17 : Option D} {z : Option D} {r : Ev} (h0 : N (x0 :: x1 :: x2 :: x3 :: x4 :: x5 :: x6 :: x7 :: x8 :: x9 :: x10 :: x11 :: x12 :: x13 :: x14 :: x15 :: x16 :: x17 :: some d :: r) M) : wG C (.nm 18) d (x0 :: x1 :: x2 :: x3 :: x4 :: x5 :: x6 :: x7 :: x8 :: x9 :: x10 :: x11 :: x12 :: x13 :: x14 :: x15 :: x16 :: x17 :: z :: r) M N XE := by unfold wG; exact h0
instance j_g_18 {x0 x1 x2 x3 x4 x5 x6 x7 x8 x9 x10 x11 x12 x13 x14 x15 x16 x17 : Option D} {z : Option D} {r : Ev} : Step (wG C (.nm 18) d (x0 :: x1 :: x2 :: x3 :: x4 :: x5 :: x6 :: x7 :: x8 :: x9 :: x10 :: x11 :: x12 :: x13 :: x14 :: x15 :: x16 :: x17 :: z :: r) M N XE) (N (x0 :: x1 :: x2 :: x3 :: x4 :: x5 :: x6 :: x7 :: x8 :: x9 :: x10 :: x11 :: x12 :: x13 :: x14 :: x15 :: x16 :: x17 :: some d :: r) M) := ⟨fun h => g_18 h⟩
theorem g_19 {x0 x1 x2 x3 x4 x5 x6 x7 x8 x9 x10 x11 x12 x13 x14 x15 x16 x17 x18 : Option D} {z : Option D} {r : Ev} (h0 : N (x0 :: x1 :: x2 :: x3 :: x4 :: x5 :: x6 :: x7 :: x8 :: x9 :: x10 :: x11 :: x12 :: x13 :: x14 :: x15 :: x16 :: x17 :: x18 :: some d :: r) M) : wG C (.nm 19) d (x0 :: x1 :: x2 :: x3 :: x4 :: x5 :: x6 :: x7 :: x8 :: x9 :: x10 :: x11 :: x12 :: x13 :: x14 :: x15 :: x16 :: x17 :: x18 :: z :: r) M N XE := by unfold wG; exact h0
instance j_g_19 {x0 x1 x2 x3 x4 x5 x6 x7 x8 x9 x10 x11 x12 x13 x14 x15 x16 x17 x18 : Option D} {z : Option D} {r : Ev} : Step (wG C (.nm 19) d (x0 :: x1 :: x2 :: x3 :: x4 :: x5 :: x6 :: x7 :: x8 :: x9 :: x10 :: x11 :: x12 :: x13 :: x14 :: x15 :: x16 :: x17 :: x18 :: z :: r) M N XE) (N (x0 :: x1 :: x2 :: x3 :: x4 :: x5 :: x6 :: x7 :: x8 :: x9 :: x10 :: x11 :: x12 :: x13 :: x14 :: x15 :: x16 :: x17 :: x18 :: some d :: r) M) := ⟨fun h => g_19 h⟩
theorem g_20 {x0 x1 x2 x3 x4 x5 x6 x7 x8 x9 x10 x11 x12 x13 x14 x15 x16 x17 x18 x19 : Option D} {z : Option D} {r : Ev} (h0 : N (x0 :: x1 :: x2 :: x3 :: x4 :: x5 :: x6 :: x7 :: x8 :: x9 :: x10 :: x11 :: x12 :: x13 :: x14 :: x15 :: x16 :: x17 :: x18 :: x19 :: some d :: r) M) : wG C (.nm 20) d (x0 :: x1 :: x2 :: x3 :: x4 :: x5 :: x6 :: x7 :: x8 :: x9 :: x10 :: x11 :: x12 :: x13 :: x14 :: x15 :: x16 :: x17 :: x18 :: x19 :: z :: r) M N XE := by unfold wG; exact h0
instance j_g_20 {x0 x1 x2 x3 x4 x5 x6 x7 x8 x9 x10 x11 x12 x13 x14 x15 x16 x17 x18 x19 : Option D} {z : Option D} {r : Ev} : Step (wG C (.nm 20) d (x0 :: x1 :: x2 :: x3 :: x4 :: x5 :: x6 :: x7 :: x8 :: x9 :: x10 :: x11 :: x12 :: x13 :: x14 :: x15 :: x16 :: x17 :: x18 :: x19 :: z :: r) M N XE) (N (x0 :: x1 :: x2 :: x3 :: x4 :: x5 :: x6 :: x7 :: x8 :: x9 :: x10 :: x11 :: x12 :: x13 :: x14 :: x15 :: x16 :: x17 :: x18 :: x19 :: some d :: r) M) := ⟨fun h => g_20 h⟩
theorem g_21 {x0 x1 x2 x3 x4 x5 x6 x7 x8 x9 x10 x11 x12 x13 x14 x15 x16 x17 x18 x19 x20 : Option D} {z : Option D} {r : Ev} (h0 : N (x0 :: x1 :: x2 :: x3 :: x4 :: x5 :: x6 :: x7 :: x8 :: x9 :: x10 :: x11 :: x12 :: x13 :: x14 :: x15 :: x16 :: x17 :: x18 :: x19 :: x20 :: some d :: r) M) : wG C (.nm 21) d (x0 :: x1 :: x2 :: x3 :: x4 :: x5 :: x6 :: x7 :: x8 :: x9 :: x10 :: x11 :: x12 :: x13 :: x14 :: x15 :: x16 :: x17 :: x18 :: x19 :: x20 :: z :: r) M N XE := by unfold wG; exact h0
instance j_g_21 {x0 x1 x2 x3 x4 x5 x6 x7 x8 x9 x10 x11 x12 x13 x14 x15 x16 x17 x18 x19 x20 : Option D} {z : Option D} {r : Ev} : Step (wG C (.nm 21) d (x0 :: x1 :: x2 :: x3 :: x4 :: x5 :: x6 :: x7 :: x8 :: x9 :: x10 :: x11 :: x12 :: x13 :: x14 :: x15 :: x16 :: x17 :: x18 :: x19 :: x20 :: z :: r) M N XE) (N (x0 :: x1 :: x2 :: x3 :: x4 :: x5 :: x6 :: x7 :: x8 :: x9 :: x10 :: x11 :: x12 :: x13 :: x14 :: x15 :: x16 :: x17 :: x18 :: x19 :: x20 :: some d :: r) M) := ⟨fun h => g_21 h⟩
theorem g_22 {x0 x1 x2 x3 x4 x5 x6 x7 x8 x9 x10 x11 x12 x13 x14 x15 x16 x17 x18 x19 x20 x21 : Option D} {z : Option D} {r : Ev} (h0 : N (x0 :: x1 :: x2 :: x3 :: x4 :: x5 :: x6 :: x7 :: x8 :: x9 :: x10 :: x11 :: x12 :: x13 :: x14 :: x15 :: x16 :: x17 :: x18 :: x19 :: x20 :: x21 :: some d :: r) M) : wG C (.nm 22) d (x0 :: x1 :: x2 :: x3 :: x4 :: x5 :: x6 :: x7 :: x8 :: x9 :: x10 :: x11 :: x12 :: x13 :: x14 :: x15 :: x16 :: x17 :: x18 :: x19 :: x20 :: x21 :: z :: r) M N XE := by unfold wG; exact h0
instance j_g_22 {x0 x1 x2 x3 x4 x5 x6 x7 x8 x9 x10 x11 x12 x13 x14 x15 x16 x17 x18 x19 x20 x21 : Option D} {z : Option D} {r : Ev} : Step (wG C (.nm 22) d (x0 :: x1 :: x2 :: x3 :: x4 :: x5 :: x6 :: x7 :: x8 :: x9 :: x10 :: x11 :: x12 :: x13 :: x14 :: x15 :: x16 :: x17 :: x18 :: x19 :: x20 :: x21 :: z :: r) M N XE) (N (x0 :: x1 :: x2 :: x3 :: x4 :: x5 :: x6 :: x7 :: x8 :: x9 :: x10 :: x11 :: x12 :: x13 :: x14 :: x15 :: x16 :: x17 :: x18 :: x19 :: x20 :: x21 :: some d :: r) M) := ⟨fun h => g_22 h⟩
theorem g_23 {x0 x1 x2 x3 x4 x5 x6 x7 x8 x9 x10 x11 x12 x13 x14 x15 x16 x17 x18 x19 x20 x21 x22 : Option D} {z : Option D} {r : Ev} (h0 : N (x0 :: x1 :: x2 :: x3 :: x4 :: x5 :: x6 :: x7 :: x8 :: x9 :: x10 :: x11 :: x12 :: x13 :: x14 :: x15 :: x16 :: x17 :: x18 :: x19 :: x20 :: x21 :: x22 :: some d :: r) M) : wG C (.nm 23) d (x0 :: x1 :: x2 :: x3 :: x4 :: x5 :: x6 :: x7 :: x8 :: x9 :: x10 :: x11 :: x12 :: x13 :: x14 :: x15 :: x16 :: x17 :: x18 :: x19 :: x20 :: x21 :: x22 :: z :: r) M N XE := by unfold wG; exact h0
instance j_g_23 {x0 x1 x2 x3 x4 x5 x6 x7 x8 x9 x10 x11 x12 x13 x14 x15 x16 x17 x18 x19 x20 x21 x22 : Option D} {z : Option D} {r : Ev} : Step (wG C (.nm 23) d (x0 :: x1 :: x2 :: x3 :: x4 :: x5 :: x6 :: x7 :: x8 :: x9 :: x10 :: x11 :: x12 :: x13 :: x14 :: x15 :: x16 :: x17 :: x18 :: x19 :: x20 :: x21 :: x22 :: z :: r) M N XE) (N (x0 :: x1 :: x2 :: x3 :: x4 :: x5 :: x6 :: x7 :: x8 :: x9 :: x10 :: x11 :: x12 :: x13 :: x14 :: x15 :: x16 :: x17 :: x18 :: x19 :: x20 :: x21 :: x22 :: some d :: r) M) := ⟨fun h => g_23 h⟩
theorem g_tup {n : Nat} {ts : Tgs} {ds : List D} (h0 : ds.length = n) (h1 : wGs C ts ds e M N XE) : wG C (.tup n ts) (.tup ds) e M N XE := by unfold wG; exact ⟨_, .inl rfl, h0, h1⟩
theorem g_tupL {n : Nat} {ts : Tgs} {ds : List D} (h0 : ds.length = n) (h1 : wGs C ts ds e M N XE) : wG C (.tup n ts) (.lst ds) e M N XE := by unfold wG; exact ⟨_, .inr (.inl rfl), h0, h1⟩
theorem g_sub  (h0 : wE C a e M (fun ov M1 => wE C b e M1 (fun iv M2 => ∃ M3, putAt M2 ov iv d = some M3 ∧ N e M3) (XE e)) (XE e)) : wG C (.sub a b) d e M N XE := by unfold wG; exact h0
instance j_g_sub  : Step (wG C (.sub a b) d e M N XE) (wE C a e M (fun ov M1 => wE C b e M1 (fun iv M2 => ∃ M3, putAt M2 ov iv d = some M3 ∧ N e M3) (XE e)) (XE e)) := ⟨fun h => g_sub h⟩
theorem ts_nil  (h0 : N e M) : wGs C .nil [] e M N XE := by unfold wGs; exact ⟨rfl, h0⟩
instance j_ts_nil  : Step (wGs C .nil [] e M N XE) (N e M) := ⟨fun h => ts_nil h⟩
theorem ts_cons {t : Tg} {ts : Tgs} {ds : List D} (h0 : wG C t d e M (fun e1 M1 => wGs C ts ds e1 M1 N XE) XE) : wGs C (.cons t ts) (d :: ds) e M N XE := by unfold wGs; exact ⟨_, _, rfl, h0⟩
instance j_ts_cons {t : Tg} {ts : Tgs} {ds : List D} : Step (wGs C (.cons t ts) (d :: ds) e M N XE) (wG C t d e M (fun e1 M1 => wGs C ts ds e1 M1 N XE) XE) := ⟨fun h => ts_cons h⟩
theorem s_pass  (h0 : P.nx e M) : wS C sub .pass e M P := by unfold wS; exact h0
instance j_s_pass  : Step (wS C sub .pass e M P) (P.nx e M) := ⟨fun h => s_pass h⟩
theorem s_asg {t : Tg} (h0 : wE C a e M (fun d M1 => wG C t d e M1 P.nx P.ex) (P.ex e)) : wS C sub (.asg t a) e M P := by unfold wS; exact h0
instance j_s_asg {t : Tg} : Step (wS C sub (.asg t a) e M P) (wE C a e M (fun d M1 => wG C t d e M1 P.nx P.ex) (P.ex e)) := ⟨fun h => s_asg h⟩
theorem s_par {i j : Nat} (h0 : wEs C es e M (fun ds M1 => ∃ a b, ds = [a, b] ∧ P.nx ((e.set i (some a)).set j (some b)) M1) (P.ex e)) : wS C sub (.par i j es) e M P := by unfold wS; exact h0
instance j_s_par {i j : Nat} : Step (wS C sub (.par i j es) e M P) (wEs C es e M (fun ds M1 => ∃ a b, ds = [a, b] ∧ P.nx ((e.set i (some a)).set j (some b)) M1) (P.ex e)) := ⟨fun h => s_par h⟩
theorem s_par3 {i j k : Nat} (h0 : wEs C es e M (fun ds M1 => ∃ a b c, ds = [a, b, c] ∧ P.nx (((e.set i (some a)).set j (some b)).set k (some c)) M1) (P.ex e)) : wS C sub (.par3 i j k es) e M P := by unfold wS; exact h0
instance j_s_par3 {i j k : Nat} : Step (wS C sub (.par3 i j k es) e M P) (wEs C es e M (fun ds M1 => ∃ a b c, ds = [a, b, c] ∧ P.nx (((e.set i (some a)).set j (some b)).set k (some c)) M1) (P.ex e)) := ⟨fun h => s_par3 h⟩
theorem s_two {d2 : D} {F : D → D → Prop} (h0 : F d d2) : ∃ x y, [d, d2] = [x, y] ∧ F x y := ⟨_, _, rfl, h0⟩
instance j_s_two {d2 : D} {F : D → D → Prop} : Step (∃ x y, [d, d2] = [x, y] ∧ F x y) (F d d2) := ⟨fun h => s_two h⟩
theorem s_thr {d2 d3 : D} {F : D → D → D → Prop} (h0 : F d d2 d3) : ∃ x y z, [d, d2, d3] = [x, y, z] ∧ F x y z := ⟨_, _, _, rfl, h0⟩
instance j_s_thr {d2 d3 : D} {F : D → D → D → Prop} : Step (∃ x y z, [d, d2, d3] = [x, y, z] ∧ F x y z) (F d d2 d3) := ⟨fun h => s_thr h⟩
theorem s_aug0 {o : Bop} {r : Ev} (h0 : wE C a (some d :: r) M (fun y M1 => wR (o.g d y M1) (fun z M2 => P.nx (some z :: r) M2) (P.ex (some d :: r))) (P.ex (some d :: r))) : wS C sub (.aug o 0 a) (some d :: r) M P := by unfold wS; exact h0
instance j_s_aug0 {o : Bop} {r : Ev} : Step (wS C sub (.aug o 0 a) (some d :: r) M P) (wE C a (some d :: r) M (fun y M1 => wR (o.g d y M1) (fun z M2 => P.nx (some z :: r) M2) (P.ex (some d :: r))) (P.ex (some d :: r))) := ⟨fun h => s_aug0 h⟩
theorem s_aug1 {x0 : Option D} {o : Bop} {r : Ev} (h0 : wE C a (x0 :: some d :: r) M (fun y M1 => wR (o.g d y M1) (fun z M2 => P.nx (x0 :: some z :: r) M2) (P.ex (x0 :: some d :: r))) (P.ex (x0 :: some d :: r))) : wS C sub (.aug o 1 a) (x0 :: some d :: r) M P := by unfold wS; exact h0
instance j_s_aug1 {x0 : Option D} {o : Bop} {r : Ev} : Step (wS C sub (.aug o 1 a) (x0 :: some d :: r) M P) (wE C a (x0 :: some d :: r) M (fun y M1 => wR (o.g d y M1) (fun z M2 => P.nx (x0 :: some z :: r) M2) (P.ex (x0 :: some d :: r))) (P.ex (x0 :: some d :: r))) := ⟨fun h => s_aug1 h⟩
theorem s_aug2 {x0 x1 : Option D} {o : Bop} {r : Ev} (h0 : wE C a (x0 :: x1 :: some d :: r) M (fun y M1 => wR (o.g d y M1) (fun z M2 => P.nx (x0 :: x1 :: some z :: r) M2) (P.ex (x0 :: x1 :: some d :: r))) (P.ex (x0 :: x1 :: some d :: r))) : wS C sub (.aug o 2 a) (x0 :: x1 :: some d :: r) M P := by unfold wS; exact h0
instance j_s_aug2 {x0 x1 : Option D} {o : Bop} {r : Ev} : Step (wS C sub (.aug o 2 a) (x0 :: x1 :: some d :: r) M P) (wE C a (x0 :: x1 :: some d :: r) M (fun y M1 => wR (o.g d y M1) (fun z M2 => P.nx (x0 :: x1 :: some z :: r) M2) (P.ex (x0 :: x1 :: some d :: r))) (P.ex (x0 :: x1 :: some d :: r))) := ⟨fun h => s_aug2 h⟩
theorem s_aug3 {x0 x1 x2 : Option D} {o : Bop} {r : Ev} (h0 : wE C a (x0 :: x1 :: x2 :: some d :: r) M (fun y M1 => wR (o.g d y M1) (fun z M2 => P.nx (x0 :: x1 :: x2 :: some z :: r) M2) (P.ex (x0 :: x1 :: x2 :: some d :: r))) (P.ex (x0 :: x1 :: x2 :: some d :: r))) : wS C sub (.aug o 3 a) (x0 :: x1 :: x2 :: some d :: r) M P := by unfold wS; exact h0
instance j_s_aug3 {x0 x1 x2 : Option D} {o : Bop} {r : Ev} : Step (wS C sub (.aug o 3 a) (x0 :: x1 :: x2 :: some d :: r) M P) (wE C a (x0 :: x1 :: x2 :: some d :: r) M (fun y M1 => wR (o.g d y M1) (fun z M2 => P.nx (x0 :: x1 :: x2 :: some z :: r) M2) (P.ex (x0 :: x1 :: x2 :: some d :: r))) (P.ex (x0 :: x1 :: x2 :: some d :: r))) := ⟨fun h => s_aug3 h⟩
theorem s_aug4 {x0 x1 x2 x3 : Option D} {o : Bop} {r : Ev} (h0 : wE C a (x0 :: x1 :: x2 :: x3 :: some d :: r) M (fun y M1 => wR (o.g d y M1) (fun z M2 => P.nx (x0 :: x1 :: x2 :: x3 :: some z :: r) M2) (P.ex (x0 :: x1 :: x2 :: x3 :: some d :: r))) (P.ex (x0 :: x1 :: x2 :: x3 :: some d :: r))) : wS C sub (.aug o 4 a) (x0 :: x1 :: x2 :: x3 :: some d :: r) M P := by unfold wS; exact h0
instance j_s_aug4 {x0 x1 x2 x3 : Option D} {o : Bop} {r : Ev} : Step (wS C sub (.aug o 4 a) (x0 :: x1 :: x2 :: x3 :: some d :: r) M P) (wE C a (x0 :: x1 :: x2 :: x3 :: some d :: r) M (fun y M1 => wR (o.g d y M1) (fun z M2 => P.nx (x0 :: x1 :: x2 :: x3 :: some z :: r) M2) (P.ex (x0 :: x1 :: x2 :: x3 :: some d :: r))) (P.ex (x0 :: x1 :: x2 :: x3 :: some d :: r))) := ⟨fun h => s_aug4 h⟩
theorem s_aug5 {x0 x1 x2 x3 x4 : Option D} {o : Bop} {r : Ev} (h0 : wE C a (x0 :: x1 :: x2 :: x3 :: x4 :: some d :: r) M (fun y M1 => wR (o.g d y M1) (fun z M2 => P.nx (x0 :: x1 :: x2 :: x3 :: x4 :: some z :: r) M2) (P.ex (x0 :: x1 :: x2 :: x3 :: x4 :: some d :: r))) (P.ex (x0 :: x1 :: x2 :: x3 :: x4 :: some d :: r))) : wS C sub (.aug o 5 a) (x0 :: x1 :: x2 :: x3 :: x4 :: some d :: r) M P := by unfold wS; exact h0
instance j_s_aug5 {x0 x1 x2 x3 x4 : Option D} {o : Bop} {r : Ev} : Step (wS C sub (.aug o 5 a) (x0 :: x1 :: x2 :: x3 :: x4 :: some d :: r) M P) (wE C a (x0 :: x1 :: x2 :: x3 :: x4 :: some d :: r) M (fun y M1 => wR (o.g d y M1) (fun z M2 => P.nx (x0 :: x1 :: x2 :: x3 :: x4 :: some z :: r) M2) (P.ex (x0 :: x1 :: x2 :: x3 :: x4 :: some d :: r))) (P.ex (x0 :: x1 :: x2 :: x3 :: x4 :: some d :: r))) := ⟨fun h => s_aug5 h⟩
theorem s_aug6 {x0 x1 x2 x3 x4 x5 : Option D} {o : Bop} {r : Ev} (h0 : wE C a (x0 :: x1 :: x2 :: x3 :: x4 :: x5 :: some d :: r) M (fun y M1 => wR (o.g d y M1) (fun z M2 => P.nx (x0 :: x1 :: x2 :: x3 :: x4 :: x5 :: some z :: r) M2) (P.ex (x0 :: x1 :: x2 :: x3 :: x4 :: x5 :: some d :: r))) (P.ex (x0 :: x1 :: x2 :: x3 :: x4 :: x5 :: some d :: r))) : wS C sub (.aug o 6 a) (x0 :: x1 :: x2 :: x3 :: x4 :: x5 :: some d :: r) M P := by unfold wS; exact h0
instance j_s_aug6 {x0 x1 x2 x3 x4 x5 : Option D} {o : Bop} {r : Ev} : Step (wS C sub (.aug o 6 a) (x0 :: x1 :: x2 :: x3 :: x4 :: x5 :: some d :: r) M P) (wE C a (x0 :: x1 :: x2 :: x3 :: x4 :: x5 :: some d :: r) M (fun y M1 => wR (o.g d y M1) (fun z M2 => P.nx (x0 :: x1 :: x2 :: x3 :: x4 :: x5 :: some z :: r) M2) (P.ex (x0 :: x1 :: x2 :: x3 :: x4 :: x5 :: some d :: r))) (P.ex (x0 :: x1 :: x2 :: x3 :: x4 :: x5 :: some d :: r))) := ⟨fun h => s_aug6 h⟩
theorem s_aug7 {x0 x1 x2 x3 x4 x5 x6 : Option D} {o : Bop} {r : Ev} (h0 : wE C a (x0 :: x1 :: x2 :: x3 :: x4 :: x5 :: x6 :: some d :: r) M (fun y M1 => wR (o.g d y M1) (fun z M2 => P.nx (x0 :: x1 :: x2 :: x3 :: x4 :: x5 :: x6 :: some z :: r) M2) (P.ex (x0 :: x1 :: x2 :: x3 :: x4 :: x5 :: x6 :: some d :: r))) (P.ex (x0 :: x1 :: x2 :: x3 :: x4 :: x5 :: x6 :: some d :: r))) : wS C sub (.aug o 7 a) (x0 :: x1 :: x2 :: x3 :: x4 :: x5 :: x6 :: some d :: r) M P := by unfold wS; exact h0
instance j_s_aug7 {x0 x1 x2 x3 x4 x5 x6 : Option D} {o : Bop} {r : Ev} : Step (wS C sub (.aug o 7 a) (x0 :: x1 :: x2 :: x3 :: x4 :: x5 :: x6 :: some d :: r) M P) (wE C a (x0 :: x1 :: x2 :: x3 :: x4 :: x5 :: x6 :: some d :: r) M (fun y M1 => wR (o.g d y M1) (fun z M2 => P.nx (x0 :: x1 :: x2 :: x3 :: x4 :: x5 :: x6 :: some z :: r) M2) (P.ex (x0 :: x1 :: x2 :: x3 :: x4 :: x5 :: x6 :: some d :: r))) (P.ex (x0 :: x1 :: x2 :: x3 :: x4 :: x5 :: x6 :: some d :: r))) := ⟨fun h => s_aug7 h⟩
theorem s_aug8 {x0 x1 x2 x3 x4 x5 x6 x7 : Option D} {o : Bop} {r : Ev} (h0 : wE C a (x0 :: x1 :: x2 :: x3 :: x4 :: x5 :: x6 :: x7 :: some d :: r) M (fun y M1 => wR (o.g d y M1) (fun z M2 => P.nx (x0 :: x1 :: x2 :: x3 :: x4 :: x5 :: x6 :: x7 :: some z :: r) M2) (P.ex (x0 :: x1 :: x2 :: x3 :: x4 :: x5 :: x6 :: x7 :: some d :: r))) (P.ex (x0 :: x1 :: x2 :: x3 :: x4 :: x5 :: x6 :: x7 :: some d :: r))) : wS C sub (.aug o 8 a) (x0 :: x1 :: x2 :: x3 :: x4 :: x5 :: x6 :: x7 :: some d :: r) M P := by unfold wS; exact h0
instance j_s_aug8 {x0 x1 x2 x3 x4 x5 x6 x7 : Option D} {o : Bop} {r : Ev} : Step (wS C sub (.aug o 8 a) (x0 :: x1 :: x2 :: x3 :: x4 :: x5 :: x6 :: x7 :: some d :: r) M P) (wE C a (x0 :: x1 :: x2 :: x3 :: x4 :: x5 :: x6 :: x7 :: some d :: r) M (fun y M1 => wR (o.g d y M1) (fun z M2 => P.nx (x0 :: x1 :: x2 :: x3 :: x4 :: x5 :: x6 :: x7 :: some z :: r) M2) (P.ex (x0 :: x1 :: x2 :: x3 :: x4 :: x5 :: x6 :: x7 :: some d :: r))) (P.ex (x0 :: x1 :: x2 :: x3 :: x4 :: x5 :: x6 :: x7 :: some d :: r))) := ⟨fun h => s_aug8 h⟩
theorem s_aug9 {x0 x1 x2 x3 x4 x5 x6 x7 x8 : Option D} {o : Bop} {r : Ev} (h0 : wE C a (x0 :: x1 :: x2 :: x3 :: x4 :: x5 :: x6 :: x7 :: x8 :: some d :: r) M (fun y M1 => wR (o.g d y M1) (fun z M2 => P.nx (x0 :: x1 :: x2 :: x3 :: x4 :: x5 :: x6 :: x7 :: x8 :: some z :: r) M2) (P.ex (x0 :: x1 :: x2 :: x3 :: x4 :: x5 :: x6 :: x7 :: x8 :: some d :: r))) (P.ex (x0 :: x1 :: x2 :: x3 :: x4 :: x5 :: x6 :: x7 :: x8 :: some d :: r))) : wS C sub (.aug o 9 a) (x0 :: x1 :: x2 :: x3 :: x4 :: x5 :: x6 :: x7 :: x8 :: some d :: r) M P := by unfold wS; exact h0
instance j_s_aug9 {x0 x1 x2 x3 x4 x5 x6 x7 x8 : Option D} {o : Bop} {r : Ev} : Step (wS C sub (.aug o 9 a) (x0 :: x1 :: x2 :: x3 :: x4 :: x5 :: x6 :: x7 :: x8 :: some d :: r) M P) (wE C a (x0 :: x1 :: x2 :: x3 :: x4 :: x5 :: x6 :: x7 :: x8 :: some d :: r) M (fun y M1 => wR (o.g d y M1) (fun z M2 => P.nx (x0 :: x1 :: x2 :: x3 :: x4 :: x5 :: x6 :: x7 :: x8 :: some z :: r) M2) (P.ex (x0 :: x1 :: x2 :: x3 :: x4 :: x5 :: x6 :: x7 :: x8 :: some d :: r))) (P.ex (x0 :: x1 :: x2 :: x3 :: x4 :: x5 :: x6 :: x7 :: x8 :: some d :: r))) := ⟨fun h => s_aug9 h⟩
theorem s_aug10 {x0 x1 x2 x3 x4 x5 x6 x7 x8 x9 : Option D} {o : Bop} {r : Ev} (h0 : wE C a (x0 :: x1 :: x2 :: x3 :: x4 :: x5 :: x6 :: x7 :: x8 :: x9 :: some d :: r) M (fun y M1 => wR (o.g d y M1) (fun z M2 => P.nx (x0 :: x1 :: x2 :: x3 :: x4 :: x5 :: x6 :: x7 :: x8 :: x9 :: some z :: r) M2) (P.ex (x0 :: x1 :: x2 :: x3 :: x4 :: x5 :: x6 :: x7 :: x8 :: x9 :: some d :: r))) (P.ex (x0 :: x1 :: x2 :: x3 :: x4 :: x5 :: x6 :: x7 :: x8 :: x9 :: some d :: r))) : wS C sub (.aug o 10 a) (x0 :: x1 :: x2 :: x3 :: x4 :: x5 :: x6 :: x7 :: x8 :: x9 :: some d :: r) M P := by unfold wS; exact h0
instance j_s_aug10 {x0 x1 x2 x3 x4 x5 x6 x7 x8 x9 : Option D} {o : Bop} {r : Ev} : Step (wS C sub (.aug o 10 a) (x0 :: x1 :: x2 :: x3 :: x4 :: x5 :: x6 :: x7 :: x8 :: x9 :: some d :: r) M P) (wE C a (x0 :: x1 :: x2 :: x3 :: x4 :: x5 :: x6 :: x7 :: x8 :: x9 :: some d :: r) M (fun y M1 => wR (o.g d y M1) (fun z M2 => P.nx (x0 :: x1 :: x2 :: x3 :: x4 :: x5 :: x6 :: x7 :: x8 :: x9 :: some z :: r) M2) (P.ex (x0 :: x1 :: x2 :: x3 :: x4 :: x5 :: x6 :: x7 :: x8 :: x9 :: some d :: r))) (P.ex (x0 :: x1 :: x2 :: x3 :: x4 :: x5 :: x6 :: x7 :: x8 :: x9 :: some d :: r))) := ⟨fun h => s_aug10 h⟩
theorem s_aug11 {x0 x1 x2 x3 x4 x5 x6 x7 x8 x9 x10 : Option D} {o : Bop} {r : Ev} (h0 : wE C a (x0 :: x1 :: x2 :: x3 :: x4 :: x5 :: x6 :: x7 :: x8 :: x9 :: x10 :: some d :: r) M (fun y M1 => wR (o.g d y M1) (fun z M2 => P.nx (x0 :: x1 :: x2 :: x3 :: x4 :: x5 :: x6 :: x7 :: x8 :: x9 :: x10 :: some z :: r) M2) (P.ex (x0 :: x1 :: x2 :: x3 :: x4 :: x5 :: x6 :: x7 :: x8 :: x9 :: x10 :: some d :: r))) (P.ex (x0 :: x1 :: x2 :: x3 :: x4 :: x5 :: x6 :: x7 :: x8 :: x9 :: x10 :: some d :: r))) : wS C sub (.aug o 11 a) (x0 :: x1 :: x2 :: x3 :: x4 :: x5 :: x6 :: x7 :: x8 :: x9 :: x10 :: some d :: r) M P := by unfold wS; exact h0
instance j_s_aug11 {x0 x1 x2 x3 x4 x5 x6 x7 x8 x9 x10 : Option D} {o : Bop} {r : Ev} : Step (wS C sub (.aug o 11 a) (x0 :: x1 :: x2 :: x3 :: x4 :: x5 :: x6 :: x7 :: x8 :: x9 :: x10 :: some d :: r) M P) (wE C a (x0 :: x1 :: x2 :: x3 :: x4 :: x5 :: x6 :: x7 :: x8 :: x9 :: x10 :: some d :: r) M (fun y M1 => wR (o.g d y M1) (fun z M2 => P.nx (x0 :: x1 :: x2 :: x3 :: x4 :: x5 :: x6 :: x7 :: x8 :: x9 :: x10 :: some z :: r) M2) (P.ex (x0 :: x1 :: x2 :: x3 :: x4 :: x5 :: x6 :: x7 :: x8 :: x9 :: x10 :: some d :: r))) (P.ex (x0 :: x1 :: x2 :: x3 :: x4 :: x5 :: x6 :: x7 :: x8 :: x9 :: x10 :: some d :: r))) := ⟨fun h => s_aug11 h⟩
theorem s_aug12 {x0 x1 x2 x3 x4 x5 x6 x7 x8 x9 x10 x11 : Option D} {o : Bop} {r : Ev} (h0 : wE C a (x0 :: x1 :: x2 :: x3 :: x4 :: x5 :: x6 :: x7 :: x8 :: x9 :: x10 :: x11 :: some d :: r) M (fun y M1 => wR (o.g d y M1) (fun z M2 => P.nx (x0 :: x1 :: x2 :: x3 :: x4 :: x5 :: x6 :: x7 :: x8 :: x9 :: x10 :: x11 :: some z :: r) M2) (P.ex (x0 :: x1 :: x2 :: x3 :: x4 :: x5 :: x6 :: x7 :: x8 :: x9 :: x10 :: x11 :: some d :: r))) (P.ex (x0 :: x1 :: x2 :: x3 :: x4 :: x5 :: x6 :: x7 :: x8 :: x9 :: x10 :: x11 :: some d :: r))) : wS C sub (.aug o 12 a) (x0 :: x1 :: x2 :: x3 :: x4 :: x5 :: x6 :: x7 :: x8 :: x9 :: x10 :: x11 :: some d :: r) M P := by unfold wS; exact h0
instance j_s_aug12 {x0 x1 x2 x3 x4 x5 x6 x7 x8 x9 x10 x11 : Option D} {o : Bop} {r : Ev} : Step (wS C sub (.aug o 12 a) (x0 :: x1 :: x2 :: x3 :: x4 :: x5 :: x6 :: x7 :: x8 :: x9 :: x10 :: x11 :: some d :: r) M P) (wE C a (x0 :: x1 :: x2 :: x3 :: x4 :: x5 :: x6 :: x7 :: x8 :: x9 :: x10 :: x11 :: some d :: r) M (fun y M1 => wR (o.g d y M1) (fun z M2 => P.nx (x0 :: x1 :: x2 :: x3 :: x4 :: x5 :: x6 :: x7 :: x8 :: x9 :: x10 :: x11 :: some z :: r) M2) (P.ex (x0 :: x1 :: x2 :: x3 :: x4 :: x5 :: x6 :: x7 :: x8 :: x9 :: x10 :: x11 :: some d :: r))) (P.ex (x0 :: x1 :: x2 :: x3 :: x4 :: x5 :: x6 :: x7 :: x8 :: x9 :: x10 :: x11 :: some d :: r))) := ⟨fun h => s_aug12 h⟩
theorem s_aug13 {x0 x1 x2 x3 x4 x5 x6 x7 x8 x9 x10 x11 x12 : Option D} {o : Bop} {r : Ev} (h0 : wE C a (x0 :: x1 :: x2 :: x3 :: x4 :: x5 :: x6 :: x7 :: x8 :: x9 :: x10 :: x11 :: x12 :: some d :: r) M (fun y M1 => wR (o.g d y M1) (fun z M2 => P.nx (x0 :: x1 :: x2 :: x3 :: x4 :: x5 :: x6 :: x7 :: x8 :: x9 :: x10 :: x11 :: x12 :: some z :: r) M2) (P.ex (x0 :: x1 :: x2 :: x3 :: x4 :: x5 :: x6 :: x7 :: x8 :: x9 :: x10 :: x11 :: x12 :: some d :: r))) (P.ex (x0 :: x1 :: x2 :: x3 :: x4 :: x5 :: x6 :: x7 :: x8 :: x9 :: x10 :: x11 :: x12 :: some d :: r))) : wS C sub (.aug o 13 a) (x0 :: x1 :: x2 :: x3 :: x4 :: x5 :: x6 :: x7 :: x8 :: x9 :: x10 :: x11 :: x12 :: some d :: r) M P := by unfold wS; exact h0
instance j_s_aug13 {x0 x1 x2 x3 x4 x5 x6 x7 x8 x9 x10 x11 x12 : Option D} {o : Bop} {r : Ev} : Step (wS C sub (.aug o 13 a) (x0 :: x1 :: x2 :: x3 :: x4 :: x5 :: x6 :: x7 :: x8 :: x9 :: x10 :: x11 :: x12 :: some d :: r) M P) (wE C a (x0 :: x1 :: x2 :: x3 :: x4 :: x5 :: x6 :: x7 :: x8 :: x9 :: x10 :: x11 :: x12 :: some d :: r) M (fun y M1 => wR (o.g d y M1) (fun z M2 => P.nx (x0 :: x1 :: x2 :: x3 :: x4 :: x5 :: x6 :: x7 :: x8 :: x9 :: x10 :: x11 :: x12 :: some z :: r) M2) (P.ex (x0 :: x1 :: x2 :: x3 :: x4 :: x5 :: x6 :: x7 :: x8 :: x9 :: x10 :: x11 :: x12 :: some d :: r))) (P.ex (x0 :: x1 :: x2 :: x3 :: x4 :: x5 :: x6 :: x7 :: x8 :: x9 :: x10 :: x11 :: x12 :: some d :: r))) := ⟨fun h => s_aug13 h⟩
theorem s_aug14 {x0 x1 x2 x3 x4 x5 x6 x7 x8 x9 x10 x11 x12 x13 : Option D} {o : Bop} {r : Ev} (h0 : wE C a (x0 :: x1 :: x2 :: x3 :: x4 :: x5 :: x6 :: x7 :: x8 :: x9 :: x10 :: x11 :: x12 :: x13 :: some d :: r) M (fun y M1 => wR (o.g d y M1) (fun z M2 => P.nx (x0 :: x1 :: x2 :: x3 :: x4 :: x5 :: x6 :: x7 :: x8 :: x9 :: x10 :: x11 :: x12 :: x13 :: some z :: r) M2) (P.ex (x0 :: x1 :: x2 :: x3 :: x4 :: x5 :: x6 :: x7 :: x8 :: x9 :: x10 :: x11 :: x12 :: x13 :: some d :: r))) (P.ex (x0 :: x1 :: x2 :: x3 :: x4 :: x5 :: x6 :: x7 :: x8 :: x9 :: x10 :: x11 :: x12 :: x13 :: some d :: r))) : wS C sub (.aug o 14 a) (x0 :: x1 :: x2 :: x3 :: x4 :: x5 :: x6 :: x7 :: x8 :: x9 :: x10 :: x11 :: x12 :: x13 :: some d :: r) M P := by unfold wS; exact h0
instance j_s_aug14 {x0 x1 x2 x3 x4 x5 x6 x7 x8 x9 x10 x11 x12 x13 : Option D} {o : Bop} {r : Ev} : Step (wS C sub (.aug o 14 a) (x0 :: x1 :: x2 :: x3 :: x4 :: x5 :: x6 :: x7 :: x8 :: x9 :: x10 :: x11 :: x12 :: x13 :: some d :: r) M P) (wE C a (x0 :: x1 :: x2 :: x3 :: x4 :: x5 :: x6 :: x7 :: x8 :: x9 :: x10 :: x11 :: x12 :: x13 :: some d :: r) M (fun y M1 => wR (o.g d y M1) (fun z M2 => P.nx (x0 :: x1 :: x2 :: x3 :: x4 :: x5 :: x6 :: x7 :: x8 :: x9 :: x10 :: x11 :: x12 :: x13 :: some z :: r) M2) (P.ex (x0 :: x1 :: x2 :: x3 :: x4 :: x5 :: x6 :: x7 :: x8 :: x9 :: x10 :: x11 :: x12 :: x13 :: some d :: r))) (P.ex (x0 :: x1 :: x2 :: x3 :: x4 :: x5 :: x6 :: x7 :: x8 :: x9 :: x10 :: x11 :: x12 :: x13 :: some d :: r))) := ⟨fun h => s_aug14 h⟩
theorem s_aug15 {x0 x1 x2 x3 x4 x5 x6 x7 x8 x9 x10 x11 x12 x13 x14 : Option D} {o : Bop} {r : Ev} (h0 : wE C a (x0 :: x1 :: x2 :: x3 :: x4 :: x5 :: x6 :: x7 :: x8 :: x9 :: x10 :: x11 :: x12 :: x13 :: x14 :: some d :: r) M (fun y M1 => wR (o.g d y M1) (fun z M2 => P.nx (x0 :: x1 :: x2 :: x3 :: x4 :: x5 :: x6 :: x7 :: x8 :: x9 :: x10 :: x11 :: x12 :: x13 :: x14 :: some z :: r) M2) (P.ex (x0 :: x1 :: x2 :: x3 :: x4 :: x5 :: x6 :: x7 :: x8 :: x9 :: x10 :: x11 :: x12 :: x13 :: x14 :: some d :: r))) (P.ex (x0 :: x1 :: x2 :: x3 :: x4 :: x5 :: x6 :: x7 :: x8 :: x9 :: x10 :: x11 :: x12 :: x13 :: x14 :: some d :: r))) : wS C sub (.aug o 15 a) (x0 :: x1 :: x2 :: x3 :: x4 :: x5 :: x6 :: x7 :: x8 :: x9 :: x10 :: x11 :: x12 :: x13 :: x14 :: some d :: r) M P := by unfold wS; exact h0
instance j_s_aug15 {x0 x1 x2 x3 x4 x5 x6 x7 x8 x9 x10 x11 x12 x13 x14 : Option D} {o : Bop} {r : Ev} : Step (wS C sub (.aug o 15 a) (x0 :: x1 :: x2 :: x3 :: x4 :: x5 :: x6 :: x7 :: x8 :: x9 :: x10 :: x11 :: x12 :: x13 :: x14 :: some d :: r) M P) (wE C a (x0 :: x1 :: x2 :: x3 :: x4 :: x5 :: x6 :: x7 :: x8 :: x9 :: x10 :: x11 :: x12 :: x13 :: x14 :: some d :: r) M (fun y M1 => wR (o.g d y M1) (fun z M2 => P.nx (x0 :: x1 :: x2 :: x3 :: x4 :: x5 :: x6 :: x7 :: x8 :: x9 :: x10 :: x11 :: x12 :: x13 :: x14 :: some z :: r) M2) (P.ex (x0 :: x1 :: x2 :: x3 :: x4 :: x5 :: x6 :: x7 :: x8 :: x9 :: x10 :: x11 :: x12 :: x13 :: x14 :: some d :: r))) (P.ex (x0 :: x1 :: x2 :: x3 :: x4 :: x5 :: x6 :: x7 :: x8 :: x9 :: x10 :: x11 :: x12 :: x13 :: x14 :: some d :: r))) := ⟨fun h => s_aug15 h⟩
theorem s_aug16 {x0 x1 x2 x3 x4 x5 x6 x7 x8 x9 x10 x11 x12 x13 x14 x15 : Option D} {o : Bop} {r : Ev} (h0 : wE C a (x0 :: x1 :: x2 :: x3 :: x4 :: x5 :: x6 :: x7 :: x8 :: x9 :: x10 :: x11 :: x12 :: x13 :: x14 :: x15 :: some d :: r) M (fun y M1 => wR (o.g d y M1) (fun z M2 => P.nx (x0 :: x1 :: x2 :: x3 :: x4 :: x5 :: x6 :: x7 :: x8 :: x9 :: x10 :: x11 :: x12 :: x13 :: x14 :: x15 :: some z :: r) M2) (P.ex (x0 :: x1 :: x2 :: x3 :: x4 :: x5 :: x6 :: x7 :: x8 :: x9 :: x10 :: x11 :: x12 :: x13 :: x14 :: x15 :: some d :: r))) (P.ex (x0 :: x1 :: x2 :: x3 :: x4 :: x5 :: x6 :: x7 :: x8 :: x9 :: x10 :: x11 :: x12 :: x13 :: x14 :: x15 :: some d :: r))) : wS C sub (.aug o 16 a) (x0 :: x1 :: x2 :: x3 :: x4 :: x5 :: x6 :: x7 :: x8 :: x9 :: x10 :: x11 :: x12 :: x13 :: x14 :: x15 :: some d :: r) M P := by unfold wS; exact h0
instance j_s_aug16 {x0 x1 x2 x3 x4 x5 x6 x7 x8 x9 x10 x11 x12 x13 x14 x15 : Option D} {o : Bop} {r : Ev} : Step (wS C sub (.aug o 16 a) (x0 :: x1 :: x2 :: x3 :: x4 :: x5 :: x6 :: x7 :: x8 :: x9 :: x10 :: x11 :: x12 :: x13 :: x14 :: x15 :: some d :: r) M P) (wE C a (x0 :: x1 :: x2 :: x3 :: x4 :: x5 :: x6 :: x7 :: x8 :: x9 :: x10 :: x11 :: x12 :: x13 :: x14 :: x15 :: some d :: r) M (fun y M1 => wR (o.g d y M1) (fun z M2 => P.nx (x0 :: x1 :: x2 :: x3 :: x4 :: x5 :: x6 :: x7 :: x8 :: x9 :: x10 :: x11 :: x12 :: x13 :: x14 :: x15 :: some z :: r) M2) (P.ex (x0 :: x1 :: x2 :: x3 :: x4 :: x5 :: x6 :: x7 :: x8 :: x9 :: x10 :: x11 :: x12 :: x13 :: x14 :: x15 :: some d :: r))) (P.ex (x0 :: x1 :: x2 :: x3 :: x4 :: x5 :: x6 :: x7 :: x8 :: x9 :: x10 :: x11 :: x12 :: x13 :: x14 :: x15 :: some d :: r))) := ⟨fun h => s_aug16 h⟩
theorem s_aug17 {x0 x1 x2 x3 x4 x5 x6 x7 x8 x9 x10 x11 x12 x13 x14 x15 x16 : Option D} {o : Bop} {r : Ev} (h0 : wE C a (x0 :: x1 :: x2 :: x3 :: x4 :: x5 :: x6 :: x7 :: x8 :: x9 :: x10 :: x11 :: x12 :: x13 :: x14 :: x15 :: x16 :: some d :: r) M (fun y M1 => wR (o.g d y M1) (fun z M2 => P.nx (x0 :: x1 :: x2 :: x3 :: x4 :: x5 :: x6 :: x7 :: x8 :: x9 :: x10 :: x11 :: x12 :: x13 :: x14 :: x15 :: x16 :: some z :: r) M2) (P.ex (x0 :: x1 :: x2 :: x3 :: x4 :: x5 :: x6 :: x7 :: x8 :: x9 :: x10 :: x11 :: x12 :: x13 :: x14 :: x15 :: x16 :: some d :: r))) (P.ex (x0 :: x1 :: x2 :: x3 :: x4 :: x5 :: x6 :: x7 :: x8 :: x9 :: x10 :: x11 :: x12 :: x13 :: x14 :: x15 :: x16 :: some d :: r))) : wS C sub (.aug o 17 a) (x0 :: x1 :: x2 :: x3 :: x4 :: x5 :: x6 :: x7 :: x8 :: x9 :: x10 :: x11 :: x12 :: x13 :: x14 :: x15 :: x16 :: some d :: r) M P := by unfold wS; exact h0
instance j_s_aug17 {x0 x1 x2 x3 x4 x5 x6 x7 x8 x9 x10 x11 x12 x13 x14 x15 x16 : Option D} {o : Bop} {r : Ev} : Step (wS C sub (.aug o 17 a) (x0 :: x1 :: x2 :: x3 :: x4 :: x5 :: x6 :: x7 :: x8 :: x9 :: x10 :: x11 :: x12 :: x13 :: x14 :: x15 :: x16 :: some d :: r) M P) (wE C a (x0 :: x1 :: x2 :: x3 :: x4 :: x5 :: x6 :: x7 :: x8 :: x9 :: x10 :: x11 :: x12 :: x13 :: x14 :: x15 :: x16 :: some d :: r) M (fun y M1 => wR (o.g d y M1) (fun z M2 => P.nx (x0 :: x1 :: x2 :: x3 :: x4 :: x5 :: x6 :: x7 :: x8 :: x9 :: x10 :: x11 :: x12 :: x13 :: x14 :: x15 :: x16 :: some z :: r) M2) (P.ex (x0 :: x1 :: x2 :: x3 :: x4 :: x5 :: x6 :: x7 :: x8 :: x9 :: x10 :: x11 :: x12 :: x13 :: x14 :: x15 :: x16 :: some d :: r))) (P.ex (x0 :: x1 :: x2 :: x3 :: x4 :: x5 :: x6 :: x7 :: x8 :: x9 :: x10 :: x11 :: x12 :: x13 :: x14 :: x15 :: x16 :: some d :: r))) := ⟨fun h => s_aug17 h⟩
theorem s_aug18 {x0 x1 x2 x3 x4 x5 x6 x7 x8 x9 x10 x11 x12 x13 x14 x15 x16 x17 : Option D} {o : Bop} {r : Ev} (h0 : wE C a (x0 :: x1 :: x2 :: x3 :: x4 :: x5 :: x6 :: x7 :: x8 :: x9 :: x10 :: x11 :: x12 :: x13 :: x14 :: x15 :: x16 :: x17 :: some d :: r) M (fun y M1 => wR (o.g d y M1) (fun z M2 => P.nx (x0 :: x1 :: x2 :: x3 :: x4 :: x5 :: x6 :: x7 :: x8 :: x9 :: x10 :: x11 :: x12 :: x13 :: x14 :: x15 :: x16 :: x17 :: some z :: r) M2) (P.ex (x0 :: x1 :: x2 :: x3 :: x4 :: x5 :: x6 :: x7 :: x8 :: x9 :: x10 :: x11 :: x12 :: x13 :: x14 :: x15 :: x16 :: x17 :: some d :: r))) (P.ex (x0 :: x1 :: x2 :: x3 :: x4 :: x5 :: x6 :: x7 :: x8 :: x9 :: x10 :: x11 :: x12 :: x13 :: x14 :: x15 :: x16 :: x17 :: some d :: r))) : wS C sub (.aug o 18 a) (x0 :: x1 :: x2 :: x3 :: x4 :: x5 :: x6 :: x7 :: x8 :: x9 :: x10 :: x11 :: x12 :: x13 :: x14 :: x15 :: x16 :: x17 :: some d :: r) M P := by unfold wS; exact h0
instance j_s_aug18 {x0 x1 x2 x3 x4 x5 x6 x7 x8 x9 x10 x11 x12 x13 x14 x15 x16 x17 : Option D} {o : Bop} {r : Ev} : Step (wS C sub (.aug o 18 a) (x0 :: x1 :: x2 :: x3 :: x4 :: x5 :: x6 :: x7 :: x8 :: x9 :: x10 :: x11 :: x12 :: x13 :: x14 :: x15 :: x16 :: x17 :: some d :: r) M P) (wE C a (x0 :: x1 :: x2 :: x3 :: x4 :: x5 :: x6 :: x7 :: x8 :: x9 :: x10 :: x11 :: x12 :: x13 :: x14 :: x15 :: x16 :: x17 :: some d :: r) M (fun y M1 => wR (o.g d y M1) (fun z M2 => P.nx (x0 :: x1 :: x2 :: x3 :: x4 :: x5 :: x6 :: x7 :: x8 :: x9 :: x10 :: x11 :: x12 :: x13 :: x14 :: x15 :: x16 :: x17 :: some z :: r) M2) (P.ex (x0 :: x1 :: x2 :: x3 :: x4 :: x5 :: x6 :: x7 :: x8 :: x9 :: x10 :: x11 :: x12 :: x13 :: x14 :: x15 :: x16 :: x17 :: some d :: r))) (P.ex (x0 :: x1 :: x2 :: x3 :: x4 :: x5 :: x6 :: x7 :: x8 :: x9 :: x10 :: x11 :: x12 :: x13 :: x14 :: x15 :: x16 :: x17 :: some d :: r))) := ⟨fun h => s_aug18 h⟩
theorem s_aug19 {x0 x1 x2 x3 x4 x5 x6 x7 x8 x9 x10 x11 x12 x13 x14 x15 x16 x17 x18 : Option D} {o : Bop} {r : Ev} (h0 : wE C a (x0 :: x1 :: x2 :: x3 :: x4 :: x5 :: x6 :: x7 :: x8 :: x9 :: x10 :: x11 :: x12 :: x13 :: x14 :: x15 :: x16 :: x17 :: x18 :: some d :: r) M (fun y M1 => wR (o.g d y M1) (fun z M2 => P.nx (x0 :: x1 :: x2 :: x3 :: x4 :: x5 :: x6 :: x7 :: x8 :: x9 :: x10 :: x11 :: x12 :: x13 :: x14 :: x15 :: x16 :: x17 :: x18 :: some z :: r) M2) (P.ex (x0 :: x1 :: x2 :: x3 :: x4 :: x5 :: x6 :: x7 :: x8 :: x9 :: x10 :: x11 :: x12 :: x13 :: x14 :: x15 :: x16 :: x17 :: x18 :: some d :: r))) (P.ex (x0 :: x1 :: x2 :: x3 :: x4 :: x5 :: x6 :: x7 :: x8 :: x9 :: x10 :: x11 :: x12 :: x13 :: x14 :: x15 :: x16 :: x17 :: x18 :: some d :: r))) : wS C sub (.aug o 19 a) (x0 :: x1 :: x2 :: x3 :: x4 :: x5 :: x6 :: x7 :: x8 :: x9 :: x10 :: x11 :: x12 :: x13 :: x14 :: x15 :: x16 :: x17 :: x18 :: some d :: r) M P := by unfold wS; exact h0
instance j_s_aug19 {x0 x1 x2 x3 x4 x5 x6 x7 x8 x9 x10 x11 x12 x13 x14 x15 x16 x17 x18 : Option D} {o : Bop} {r : Ev} : Step (wS C sub (.aug o 19 a) (x0 :: x1 :: x2 :: x3 :: x4 :: x5 :: x6 :: x7 :: x8 :: x9 :: x10 :: x11 :: x12 :: x13 :: x14 :: x15 :: x16 :: x17 :: x18 :: some d :: r) M P) (wE C a (x0 :: x1 :: x2 :: x3 :: x4 :: x5 :: x6 :: x7 :: x8 :: x9 :: x10 :: x11 :: x12 :: x13 :: x14 :: x15 :: x16 :: x17 :: x18 :: some d :: r) M (fun y M1 => wR (o.g d y M1) (fun z M2 => P.nx (x0 :: x1 :: x2 :: x3 :: x4 :: x5 :: x6 :: x7 :: x8 :: x9 :: x10 :: x11 :: x12 :: x13 :: x14 :: x15 :: x16 :: x17 :: x18 :: some z :: r) M2) (P.ex (x0 :: x1 :: x2 :: x3 :: x4 :: x5 :: x6 :: x7 :: x8 :: x9 :: x10 :: x11 :: x12 :: x13 :: x14 :: x15 :: x16 :: x17 :: x18 :: some d :: r))) (P.ex (x0 :: x1 :: x2 :: x3 :: x4 :: x5 :: x6 :: x7 :: x8 :: x9 :: x10 :: x11 :: x12 :: x13 :: x14 :: x15 :: x16 :: x17 :: x18 :: some d :: r))) := ⟨fun h => s_aug19 h⟩
theorem s_aug20 {x0 x1 x2 x3 x4 x5 x6 x7 x8 x9 x10 x11 x12 x13 x14 x15 x16 x17 x18 x19 : Option D} {o : Bop} {r : Ev} (h0 : wE C a (x0 :: x1 :: x2 :: x3 :: x4 :: x5 :: x6 :: x7 :: x8 :: x9 :: x10 :: x11 :: x12 :: x13 :: x14 :: x15 :: x16 :: x17 :: x18 :: x19 :: some d :: r) M (fun y M1 => wR (o.g d y M1) (fun z M2 => P.nx (x0 :: x1 :: x2 :: x3 :: x4 :: x5 :: x6 :: x7 :: x8 :: x9 :: x10 :: x11 :: x12 :: x13 :: x14 :: x15 :: x16 :: x17 :: x18 :: x19 :: some z :: r) M2) (P.ex (x0 :: x1 :: x2 :: x3 :: x4 :: x5 :: x6 :: x7 :: x8 :: x9 :: x10 :: x11 :: x12 :: x13 :: x14 :: x15 :: x16 :: x17 :: x18 :: x19 :: some d :: r))) (P.ex (x0 :: x1 :: x2 :: x3 :: x4 :: x5 :: x6 :: x7 :: x8 :: x9 :: x10 :: x11 :: x12 :: x13 :: x14 :: x15 :: x16 :: x17 :: x18 :: x19 :: some d :: r))) : wS C sub (.aug o 20 a) (x0 :: x1 :: x2 :: x3 :: x4 :: x5 :: x6 :: x7 :: x8 :: x9 :: x10 :: x11 :: x12 :: x13 :: x14 :: x15 :: x16 :: x17 :: x18 :: x19 :: some d :: r) M P := by unfold wS; exact h0
instance j_s_aug20 {x0 x1 x2 x3 x4 x5 x6 x7 x8 x9 x10 x11 x12 x13 x14 x15 x16 x17 x18 x19 : Option D} {o : Bop} {r : Ev} : Step (wS C sub (.aug o 20 a) (x0 :: x1 :: x2 :: x3 :: x4 :: x5 :: x6 :: x7 :: x8 :: x9 :: x10 :: x11 :: x12 :: x13 :: x14 :: x15 :: x16 :: x17 :: x18 :: x19 :: some d :: r) M P) (wE C a (x0 :: x1 :: x2 :: x3 :: x4 :: x5 :: x6 :: x7 :: x8 :: x9 :: x10 :: x11 :: x12 :: x13 :: x14 :: x15 :: x16 :: x17 :: x18 :: x19 :: some d :: r) M (fun y M1 => wR (o.g d y M1) (fun z M2 => P.nx (x0 :: x1 :: x2 :: x3 :: x4 :: x5 :: x6 :: x7 :: x8 :: x9 :: x10 :: x11 :: x12 :: x13 :: x14 :: x15 :: x16 :: x17 :: x18 :: x19 :: some z :: r) M2) (P.ex (x0 :: x1 :: x2 :: x3 :: x4 :: x5 :: x6 :: x7 :: x8 :: x9 :: x10 :: x11 :: x12 :: x13 :: x14 :: x15 :: x16 :: x17 :: x18 :: x19 :: some d :: r))) (P.ex (x0 :: x1 :: x2 :: x3 :: x4 :: x5 :: x6 :: x7 :: x8 :: x9 :: x10 :: x11 :: x12 :: x13 :: x14 :: x15 :: x16 :: x17 :: x18 :: x19 :: some d :: r))) := ⟨fun h => s_aug20 h⟩
theorem s_aug21 {x0 x1 x2 x3 x4 x5 x6 x7 x8 x9 x10 x11 x12 x13 x14 x15 x16 x17 x18 x19 x20 : Option D} {o : Bop} {r : Ev} (h0 : wE C a (x0 :: x1 :: x2 :: x3 :: x4 :: x5 :: x6 :: x7 :: x8 :: x9 :: x10 :: x11 :: x12 :: x13 :: x14 :: x15 :: x16 :: x17 :: x18 :: x19 :: x20 :: some d :: r) M (fun y M1 => wR (o.g d y M1) (fun z M2 => P.nx (x0 :: x1 :: x2 :: x3 :: x4 :: x5 :: x6 :: x7 :: x8 :: x9 :: x10 :: x11 :: x12 :: x13 :: x14 :: x15 :: x16 :: x17 :: x18 :: x19 :: x20 :: some z :: r) M2) (P.ex (x0 :: x1 :: x2 :: x3 :: x4 :: x5 :: x6 :: x7 :: x8 :: x9 :: x10 :: x11 :: x12 :: x13 :: x14 :: x15 :: x16 :: x17 :: x18 :: x19 :: x20 :: some d :: r))) (P.ex (x0 :: x1 :: x2 :: x3 :: x4 :: x5 :: x6 :: x7 :: x8 :: x9 :: x10 :: x11 :: x12 :: x13 :: x14 :: x15 :: x16 :: x17 :: x18 :: x19 :: x20 :: some d :: r))) : wS C sub (.aug o 21 a) (x0 :: x1 :: x2 :: x3 :: x4 :: x5 :: x6 :: x7 :: x8 :: x9 :: x10 :: x11 :: x12 :: x13 :: x14 :: x15 :: x16 :: x17 :: x18 :: x19 :: x20 :: some d :: r) M P := by unfold wS; exact h0
instance j_s_aug21 {x0 x1 x2 x3 x4 x5 x6 x7 x8 x9 x10 x11 x12 x13 x14 x15 x16 x17 x18 x19 x20 : Option D} {o : Bop} {r : Ev} : Step (wS C sub (.aug o 21 a) (x0 :: x1 :: x2 :: x3 :: x4 :: x5 :: x6 :: x7 :: x8 :: x9 :: x10 :: x11 :: x12 :: x13 :: x14 :: x15 :: x16 :: x17 :: x18 :: x19 :: x20 :: some d :: r) M P) (wE C a (x0 :: x1 :: x2 :: x3 :: x4 :: x5 :: x6 :: x7 :: x8 :: x9 :: x10 :: x11 :: x12 :: x13 :: x14 :: x15 :: x16 :: x17 :: x18 :: x19 :: x20 :: some d :: r) M (fun y M1 => wR (o.g d y M1) (fun z M2 => P.nx (x0 :: x1 :: x2 :: x3 :: x4 :: x5 :: x6 :: x7 :: x8 :: x9 :: x10 :: x11 :: x12 :: x13 :: x14 :: x15 :: x16 :: x17 :: x18 :: x19 :: x20 :: some z :: r) M2) (P.ex (x0 :: x1 :: x2 :: x3 :: x4 :: x5 :: x6 :: x7 :: x8 :: x9 :: x10 :: x11 :: x12 :: x13 :: x14 :: x15 :: x16 :: x17 :: x18 :: x19 :: x20 :: some d :: r))) (P.ex (x0 :: x1 :: x2 :: x3 :: x4 :: x5 :: x6 :: x7 :: x8 :: x9 :: x10 :: x11 :: x12 :: x13 :: x14 :: x15 :: x16 :: x17 :: x18 :: x19 :: x20 :: some d :: r))) := ⟨fun h => s_aug21 h⟩
theorem s_aug22 {x0 x1 x2 x3 x4 x5 x6 x7 x8 x9 x10 x11 x12 x13 x14 x15 x16 x17 x18 x19 x20 x21 : Option D} {o : Bop} {r : Ev} (h0 : wE C a (x0 :: x1 :: x2 :: x3 :: x4 :: x5 :: x6 :: x7 :: x8 :: x9 :: x10 :: x11 :: x12 :: x13 :: x14 :: x15 :: x16 :: x17 :: x18 :: x19 :: x20 :: x21 :: some d :: r) M (fun y M1 => wR (o.g d y M1) (fun z M2 => P.nx (x0 :: x1 :: x2 :: x3 :: x4 :: x5 :: x6 :: x7 :: x8 :: x9 :: x10 :: x11 :: x12 :: x13 :: x14 :: x15 :: x16 :: x17 :: x18 :: x19 :: x20 :: x21 :: some z :: r) M2) (P.ex (x0 :: x1 :: x2 :: x3 :: x4 :: x5 :: x6 :: x7 :: x8 :: x9 :: x10 :: x11 :: x12 :: x13 :: x14 :: x15 :: x16 :: x17 :: x18 :: x19 :: x20 :: x21 :: some d :: r))) (P.ex (x0 :: x1 :: x2 :: x3 :: x4 :: x5 :: x6 :: x7 :: x8 :: x9 :: x10 :: x11 :: x12 :: x13 :: x14 :: x15 :: x16 :: x17 :: x18 :: x19 :: x20 :: x21 :: some d :: r))) : wS C sub (.aug o 22 a) (x0 :: x1 :: x2 :: x3 :: x4 :: x5 :: x6 :: x7 :: x8 :: x9 :: x10 :: x11 :: x12 :: x13 :: x14 :: x15 :: x16 :: x17 :: x18 :: x19 :: x20 :: x21 :: some d :: r) M P := by unfold wS; exact h0
instance j_s_aug22 {x0 x1 x2 x3 x4 x5 x6 x7 x8 x9 x10 x11 x12 x13 x14 x15 x16 x17 x18 x19 x20 x21 : Option D} {o : Bop} {r : Ev} : Step (wS C sub (.aug o 22 a) (x0 :: x1 :: x2 :: x3 :: x4 :: x5 :: x6 :: x7 :: x8 :: x9 :: x10 :: x11 :: x12 :: x13 :: x14 :: x15 :: x16 :: x17 :: x18 :: x19 :: x20 :: x21 :: some d :: r) M P) (wE C a (x0 :: x1 :: x2 :: x3 :: x4 :: x5 :: x6 :: x7 :: x8 :: x9 :: x10 :: x11 :: x12 :: x13 :: x14 :: x15 :: x16 :: x17 :: x18 :: x19 :: x20 :: x21 :: some d :: r) M (fun y M1 => wR (o.g d y M1) (fun z M2 => P.nx (x0 :: x1 :: x2 :: x3 :: x4 :: x5 :: x6 :: x7 :: x8 :: x9 :: x10 :: x11 :: x12 :: x13 :: x14 :: x15 :: x16 :: x17 :: x18 :: x19 :: x20 :: x21 :: some z :: r) M2) (P.ex (x0 :: x1 :: x2 :: x3 :: x4 :: x5 :: x6 :: x7 :: x8 :: x9 :: x10 :: x11 :: x12 :: x13 :: x14 :: x15 :: x16 :: x17 :: x18 :: x19 :: x20 :: x21 :: some d :: r))) (P.ex (x0 :: x1 :: x2 :: x3 :: x4 :: x5 :: x6 :: x7 :: x8 :: x9 :: x10 :: x11 :: x12 :: x13 :: x14 :: x15 :: x16 :: x17 :: x18 :: x19 :: x20 :: x21 :: some d :: r))) := ⟨fun h => s_aug22 h⟩
theorem s_aug23 {x0 x1 x2 x3 x4 x5 x6 x7 x8 x9 x10 x11 x12 x13 x14 x15 x16 x17 x18 x19 x20 x21 x22 : Option D} {o : Bop} {r : Ev} (h0 : wE C a (x0 :: x1 :: x2 :: x3 :: x4 :: x5 :: x6 :: x7 :: x8 :: x9 :: x10 :: x11 :: x12 :: x13 :: x14 :: x15 :: x16 :: x17 :: x18 :: x19 :: x20 :: x21 :: x22 :: some d :: r) M (fun y M1 => wR (o.g d y M1) (fun z M2 => P.nx (x0 :: x1 :: x2 :: x3 :: x4 :: x5 :: x6 :: x7 :: x8 :: x9 :: x10 :: x11 :: x12 :: x13 :: x14 :: x15 :: x16 :: x17 :: x18 :: x19 :: x20 :: x21 :: x22 :: some z :: r) M2) (P.ex (x0 :: x1 :: x2 :: x3 :: x4 :: x5 :: x6 :: x7 :: x8 :: x9 :: x10 :: x11 :: x12 :: x13 :: x14 :: x15 :: x16 :: x17 :: x18 :: x19 :: x20 :: x21 :: x22 :: some d :: r))) (P.ex (x0 :: x1 :: x2 :: x3 :: x4 :: x5 :: x6 :: x7 :: x8 :: x9 :: x10 :: x11 :: x12 :: x13 :: x14 :: x15 :: x16 :: x17 :: x18 :: x19 :: x20 :: x21 :: x22 :: some d :: r))) : wS C sub (.aug o 23 a) (x0 :: x1 :: x2 :: x3 :: x4 :: x5 :: x6 :: x7 :: x8 :: x9 :: x10 :: x11 :: x12 :: x13 :: x14 :: x15 :: x16 :: x17 :: x18 :: x19 :: x20 :: x21 :: x22 :: some d :: r) M P := by unfold wS; exact h0
instance j_s_aug23 {x0 x1 x2 x3 x4 x5 x6 x7 x8 x9 x10 x11 x12 x13 x14 x15 x16 x17 x18 x19 x20 x21 x22 : Option D} {o : Bop} {r : Ev} : Step (wS C sub (.aug o 23 a) (x0 :: x1 :: x2 :: x3 :: x4 :: x5 :: x6 :: x7 :: x8 :: x9 :: x10 :: x11 :: x12 :: x13 :: x14 :: x15 :: x16 :: x17 :: x18 :: x19 :: x20 :: x21 :: x22 :: some d :: r) M P) (wE C a (x0 :: x1 :: x2 :: x3 :: x4 :: x5 :: x6 :: x7 :: x8 :: x9 :: x10 :: x11 :: x12 :: x13 :: x14 :: x15 :: x16 :: x17 :: x18 :: x19 :: x20 :: x21 :: x22 :: some d :: r) M (fun y M1 => wR (o.g d y M1) (fun z M2 => P.nx (x0 :: x1 :: x2 :: x3 :: x4 :: x5 :: x6 :: x7 :: x8 :: x9 :: x10 :: x11 :: x12 :: x13 :: x14 :: x15 :: x16 :: x17 :: x18 :: x19 :: x20 :: x21 :: x22 :: some z :: r) M2) (P.ex (x0 :: x1 :: x2 :: x3 :: x4 :: x5 :: x6 :: x7 :: x8 :: x9 :: x10 :: x11 :: x12 :: x13 :: x14 :: x15 :: x16 :: x17 :: x18 :: x19 :: x20 :: x21 :: x22 :: some d :: r))) (P.ex (x0 :: x1 :: x2 :: x3 :: x4 :: x5 :: x6 :: x7 :: x8 :: x9 :: x10 :: x11 :: x12 :: x13 :: x14 :: x15 :: x16 :: x17 :: x18 :: x19 :: x20 :: x21 :: x22 :: some d :: r))) := ⟨fun h => s_aug23 h⟩
theorem s_expr  (h0 : wE C a e M (fun _ M1 => P.nx e M1) (P.ex e)) : wS C sub (.expr a) e M P := by unfold wS; exact h0
instance j_s_expr  : Step (wS C sub (.expr a) e M P) (wE C a e M (fun _ M1 => P.nx e M1) (P.ex e)) := ⟨fun h => s_expr h⟩
theorem s_ret  (h0 : wE C a e M (fun d M1 => P.rt d M1) (P.ex e)) : wS C sub (.ret a) e M P := by unfold wS; exact h0
instance j_s_ret  : Step (wS C sub (.ret a) e M P) (wE C a e M (fun d M1 => P.rt d M1) (P.ex e)) := ⟨fun h => s_ret h⟩
theorem s_retN  (h0 : P.rt .non M) : wS C sub .retN e M P := by unfold wS; exact h0
instance j_s_retN  : Step (wS C sub .retN e M P) (P.rt .non M) := ⟨fun h => s_retN h⟩
theorem s_ife {x y : Sxs} (h0 : wT C c e M (fun t M1 => (t = true → wSs C sub x e M1 P) ∧ (t = false → wSs C sub y e M1 P)) (P.ex e)) : wS C sub (.ife c x y) e M P := by unfold wS; exact h0
theorem s_for {w : Wx} {t : Tg} {x : Sxs} (h0 : wW C w e M (fun wd M1 => ForG C sub t x wd e M1 P) (P.ex e)) : wS C sub (.forr w t x) e M P := by unfold wS; exact h0
instance j_s_for {w : Wx} {t : Tg} {x : Sxs} : Step (wS C sub (.forr w t x) e M P) (wW C w e M (fun wd M1 => ForG C sub t x wd e M1 P) (P.ex e)) := ⟨fun h => s_for h⟩
theorem s_whl {x : Sxs} (h0 : WhlG C sub c x e M P) : wS C sub (.whl c x) e M P := by unfold wS; exact h0
instance j_s_whl {x : Sxs} : Step (wS C sub (.whl c x) e M P) (WhlG C sub c x e M P) := ⟨fun h => s_whl h⟩
theorem x_lc {f : Bool} {w : Wx} {t : Tn} {cond : Exo} {own : List Nat} (h0 : wW C w e M (fun wd M1 => LcG C f t cond a own wd e M1 Q X) X) : wE C (.lc f w t cond a own) e M Q X := by unfold wE; exact h0
instance j_x_lc {f : Bool} {w : Wx} {t : Tn} {cond : Exo} {own : List Nat} : Step (wE C (.lc f w t cond a own) e M Q X) (wW C w e M (fun wd M1 => LcG C f t cond a own wd e M1 Q X) X) := ⟨fun h => x_lc h⟩
theorem s_brk  (h0 : P.bk e M) : wS C sub .brk e M P := by unfold wS; exact h0
instance j_s_brk  : Step (wS C sub .brk e M P) (P.bk e M) := ⟨fun h => s_brk h⟩
theorem s_cnt  (h0 : P.ct e M) : wS C sub .cnt e M P := by unfold wS; exact h0
instance j_s_cnt  : Step (wS C sub .cnt e M P) (P.ct e M) := ⟨fun h => s_cnt h⟩
theorem s_raise {k f : Str} (h0 : wEs C es e M (fun ds M1 => ∃ d, ds = [d] ∧ P.ex e k [(f, d)] M1) (P.ex e)) : wS C sub (.raise k f es) e M P := by unfold wS; exact h0
instance j_s_raise {k f : Str} : Step (wS C sub (.raise k f es) e M P) (wEs C es e M (fun ds M1 => ∃ d, ds = [d] ∧ P.ex e k [(f, d)] M1) (P.ex e)) := ⟨fun h => s_raise h⟩
theorem s_fset {cs fs : List Str} {f : Str} {o : Ex} (h0 : wE C a e M (fun v M1 => wE C o e M1 (fun d M2 => ∃ n c as, insAt M2 d = some (n, c, as) ∧ (cs.contains c && fs.contains f && decide (as.length < 1000)) = true ∧ P.nx e (M2.set n (some (.ins c (putD f v as))))) (P.ex e)) (P.ex e)) : wS C sub (.fset cs fs f o a) e M P := by unfold wS; exact h0
instance j_s_fset {cs fs : List Str} {f : Str} {o : Ex} : Step (wS C sub (.fset cs fs f o a) e M P) (wE C a e M (fun v M1 => wE C o e M1 (fun d M2 => ∃ n c as, insAt M2 d = some (n, c, as) ∧ (cs.contains c && fs.contains f && decide (as.length < 1000)) = true ∧ P.nx e (M2.set n (some (.ins c (putD f v as))))) (P.ex e)) (P.ex e)) := ⟨fun h => s_fset h⟩
theorem s_one {F : D → Prop} (h0 : F d) : ∃ z, [d] = [z] ∧ F z := ⟨_, rfl, h0⟩
instance j_s_one {F : D → Prop} : Step (∃ z, [d] = [z] ∧ F z) (F d) := ⟨fun h => s_one h⟩
theorem s_tri {x : Sxs} {hs : List Hd} (h0 : wSs C sub x e M (PoH sub hs P)) : wS C sub (.tri x hs) e M P := by unfold wS; exact h0
instance j_s_tri {x : Sxs} {hs : List Hd} : Step (wS C sub (.tri x hs) e M P) (wSs C sub x e M (PoH sub hs P)) := ⟨fun h => s_tri h⟩
theorem ss_nil  (h0 : P.nx e M) : wSs C sub .nil e M P := by unfold wSs; exact h0
instance j_ss_nil  : Step (wSs C sub .nil e M P) (P.nx e M) := ⟨fun h => ss_nil h⟩
theorem ss_one {s : Sx} (h0 : wS C sub s e M P) : wSs C sub (.one s) e M P := by unfold wSs; exact h0
instance j_ss_one {s : Sx} : Step (wSs C sub (.one s) e M P) (wS C sub s e M P) := ⟨fun h => ss_one h⟩
theorem ss_cons {s : Sx} {r : Sxs} (h0 : wS C sub s e M (PoK (fun e1 M1 => wSs C sub r e1 M1 P) P)) : wSs C sub (.cons s r) e M P := by unfold wSs; exact h0
instance j_ss_cons {s : Sx} {r : Sxs} : Step (wSs C sub (.cons s r) e M P) (wS C sub s e M (PoK (fun e1 M1 => wSs C sub r e1 M1 P) P)) := ⟨fun h => ss_cons h⟩
theorem p_k_nx {F : Ev → Mem → Prop} (h0 : F e M) : (PoK F P).nx e M := h0
instance j_p_k_nx {F : Ev → Mem → Prop} : Step ((PoK F P).nx e M) (F e M) := ⟨fun h => p_k_nx h⟩
theorem p_k_rt {F : Ev → Mem → Prop} (h0 : P.rt d M) : (PoK F P).rt d M := h0
instance j_p_k_rt {F : Ev → Mem → Prop} : Step ((PoK F P).rt d M) (P.rt d M) := ⟨fun h => p_k_rt h⟩
theorem p_k_bk {F : Ev → Mem → Prop} (h0 : P.bk e M) : (PoK F P).bk e M := h0
instance j_p_k_bk {F : Ev → Mem → Prop} : Step ((PoK F P).bk e M) (P.bk e M) := ⟨fun h => p_k_bk h⟩
theorem p_k_ct {F : Ev → Mem → Prop} (h0 : P.ct e M) : (PoK F P).ct e M := h0
instance j_p_k_ct {F : Ev → Mem → Prop} : Step ((PoK F P).ct e M) (P.ct e M) := ⟨fun h => p_k_ct h⟩
theorem p_k_ex {F : Ev → Mem → Prop} {k : Str} {fs : List (Str × D)} (h0 : P.ex e k fs M) : (PoK F P).ex e k fs M := h0
instance j_p_k_ex {F : Ev → Mem → Prop} {k : Str} {fs : List (Str × D)} : Step ((PoK F P).ex e k fs M) (P.ex e k fs M) := ⟨fun h => p_k_ex h⟩
theorem p_l_nx {F : Ev → Mem → Prop} (h0 : F e M) : (PoL F P).nx e M := h0
instance j_p_l_nx {F : Ev → Mem → Prop} : Step ((PoL F P).nx e M) (F e M) := ⟨fun h => p_l_nx h⟩
theorem p_l_rt {F : Ev → Mem → Prop} (h0 : P.rt d M) : (PoL F P).rt d M := h0
instance j_p_l_rt {F : Ev → Mem → Prop} : Step ((PoL F P).rt d M) (P.rt d M) := ⟨fun h => p_l_rt h⟩
theorem p_l_bk {F : Ev → Mem → Prop} (h0 : P.nx e M) : (PoL F P).bk e M := h0
instance j_p_l_bk {F : Ev → Mem → Prop} : Step ((PoL F P).bk e M) (P.nx e M) := ⟨fun h => p_l_bk h⟩
theorem p_l_ct {F : Ev → Mem → Prop} (h0 : F e M) : (PoL F P).ct e M := h0
instance j_p_l_ct {F : Ev → Mem → Prop} : Step ((PoL F P).ct e M) (F e M) := ⟨fun h => p_l_ct h⟩
theorem p_l_ex {F : Ev → Mem → Prop} {k : Str} {fs : List (Str × D)} (h0 : P.ex e k fs M) : (PoL F P).ex e k fs M := h0
instance j_p_l_ex {F : Ev → Mem → Prop} {k : Str} {fs : List (Str × D)} : Step ((PoL F P).ex e k fs M) (P.ex e k fs M) := ⟨fun h => p_l_ex h⟩
theorem p_h_nx {hs : List Hd} (h0 : P.nx e M) : (PoH sub hs P).nx e M := h0
instance j_p_h_nx {hs : List Hd} : Step ((PoH sub hs P).nx e M) (P.nx e M) := ⟨fun h => p_h_nx h⟩
theorem p_h_rt {hs : List Hd} (h0 : P.rt d M) : (PoH sub hs P).rt d M := h0
instance j_p_h_rt {hs : List Hd} : Step ((PoH sub hs P).rt d M) (P.rt d M) := ⟨fun h => p_h_rt h⟩
theorem p_h_bk {hs : List Hd} (h0 : P.bk e M) : (PoH sub hs P).bk e M := h0
instance j_p_h_bk {hs : List Hd} : Step ((PoH sub hs P).bk e M) (P.bk e M) := ⟨fun h => p_h_bk h⟩
theorem p_h_ct {hs : List Hd} (h0 : P.ct e M) : (PoH sub hs P).ct e M := h0
instance j_p_h_ct {hs : List Hd} : Step ((PoH sub hs P).ct e M) (P.ct e M) := ⟨fun h => p_h_ct h⟩
theorem p_h_ex {hs : List Hd} {k : Str} {fs : List (Str × D)} (h0 : wSR (handleD sub e k fs M hs) P) : (PoH sub hs P).ex e k fs M := h0
instance j_p_h_ex {hs : List Hd} {k : Str} {fs : List (Str × D)} : Step ((PoH sub hs P).ex e k fs M) (wSR (handleD sub e k fs M hs) P) := ⟨fun h => p_h_ex h⟩
theorem q_nx  (h0 : Q .non M) : (PoD Q X).nx e M := h0
instance j_q_nx  : Step ((PoD Q X).nx e M) (Q .non M) := ⟨fun h => q_nx h⟩
theorem q_rt  (h0 : Q d M) : (PoD Q X).rt d M := h0
instance j_q_rt  : Step ((PoD Q X).rt d M) (Q d M) := ⟨fun h => q_rt h⟩
theorem q_ex {k : Str} {fs : List (Str × D)} (h0 : X k fs M) : (PoD Q X).ex e k fs M := h0
instance j_q_ex {k : Str} {fs : List (Str × D)} : Step ((PoD Q X).ex e k fs M) (X k fs M) := ⟨fun h => q_ex h⟩
theorem r_ok {α : Type} {z : α} {QA : α → Mem → Prop} (h0 : QA z M) : wR (.ok z M) QA X := h0
instance j_r_ok {α : Type} {z : α} {QA : α → Mem → Prop} : Step (wR (.ok z M) QA X) (QA z M) := ⟨fun h => r_ok h⟩
theorem r_exc {α : Type} {QA : α → Mem → Prop} {k : Str} {fs : List (Str × D)} (h0 : X k fs M) : wR (.exc k fs M) QA X := h0
instance j_r_exc {α : Type} {QA : α → Mem → Prop} {k : Str} {fs : List (Str × D)} : Step (wR (.exc k fs M) QA X) (X k fs M) := ⟨fun h => r_exc h⟩
theorem r_tb {t : Bool} (h0 : QB t M) : wR (tru (.bl t) M) QB X := h0
instance j_r_tb {t : Bool} : Step (wR (tru (.bl t) M) QB X) (QB t M) := ⟨fun h => r_tb h⟩
theorem r_ti {i : Int} (h0 : QB (i != 0) M) : wR (tru (.int i) M) QB X := h0
instance j_r_ti {i : Int} : Step (wR (tru (.int i) M) QB X) (QB (i != 0) M) := ⟨fun h => r_ti h⟩
theorem r_tn  (h0 : QB false M) : wR (tru .non M) QB X := h0
instance j_r_tn  : Step (wR (tru .non M) QB X) (QB false M) := ⟨fun h => r_tn h⟩
theorem r_lt {i j : Int} (h0 : Q (.bl (decide (i < j))) M) : wR (Bop.g .lt (.int i) (.int j) M) Q X := h0
instance j_r_lt {i j : Int} : Step (wR (Bop.g .lt (.int i) (.int j) M) Q X) (Q (.bl (decide (i < j))) M) := ⟨fun h => r_lt h⟩
theorem r_le {i j : Int} (h0 : Q (.bl (decide (i ≤ j))) M) : wR (Bop.g .le (.int i) (.int j) M) Q X := h0
instance j_r_le {i j : Int} : Step (wR (Bop.g .le (.int i) (.int j) M) Q X) (Q (.bl (decide (i ≤ j))) M) := ⟨fun h => r_le h⟩
theorem r_gt {i j : Int} (h0 : Q (.bl (decide (j < i))) M) : wR (Bop.g .gt (.int i) (.int j) M) Q X := h0
instance j_r_gt {i j : Int} : Step (wR (Bop.g .gt (.int i) (.int j) M) Q X) (Q (.bl (decide (j < i))) M) := ⟨fun h => r_gt h⟩
theorem r_ge {i j : Int} (h0 : Q (.bl (decide (j ≤ i))) M) : wR (Bop.g .ge (.int i) (.int j) M) Q X := h0
instance j_r_ge {i j : Int} : Step (wR (Bop.g .ge (.int i) (.int j) M) Q X) (Q (.bl (decide (j ≤ i))) M) := ⟨fun h => r_ge h⟩
theorem r_add {i j : Int} {f : Bool} (h0 : Q (.int (i + j)) M) : wR (Bop.g (.add f) (.int i) (.int j) M) Q X := h0
instance j_r_add {i j : Int} {f : Bool} : Step (wR (Bop.g (.add f) (.int i) (.int j) M) Q X) (Q (.int (i + j)) M) := ⟨fun h => r_add h⟩
theorem r_sub {i j : Int} (h0 : Q (.int (i - j)) M) : wR (Bop.g .sub (.int i) (.int j) M) Q X := h0
instance j_r_sub {i j : Int} : Step (wR (Bop.g .sub (.int i) (.int j) M) Q X) (Q (.int (i - j)) M) := ⟨fun h => r_sub h⟩
theorem r_addI {i j : Int} (h0 : Q (.int (i + j)) M) : wR (Bop.g .addI (.int i) (.int j) M) Q X := h0
instance j_r_addI {i j : Int} : Step (wR (Bop.g .addI (.int i) (.int j) M) Q X) (Q (.int (i + j)) M) := ⟨fun h => r_addI h⟩
theorem r_subI {i j : Int} (h0 : Q (.int (i - j)) M) : wR (Bop.g .subI (.int i) (.int j) M) Q X := h0
instance j_r_subI {i j : Int} : Step (wR (Bop.g .subI (.int i) (.int j) M) Q X) (Q (.int (i - j)) M) := ⟨fun h => r_subI h⟩
theorem r_neg {i : Int} (h0 : Q (.int (-i)) M) : wR (gNeg (.int i) M) Q X := h0
instance j_r_neg {i : Int} : Step (wR (gNeg (.int i) M) Q X) (Q (.int (-i)) M) := ⟨fun h => r_neg h⟩
theorem r_eqi {i j : Int} (h0 : Q (.bl (decide (i = j))) M) : wR (Bop.g .eq (.int i) (.int j) M) Q X := by show wR (gEq (.int i) (.int j) M) Q X; rw [eq_int]; exact h0
instance j_r_eqi {i j : Int} : Step (wR (Bop.g .eq (.int i) (.int j) M) Q X) (Q (.bl (decide (i = j))) M) := ⟨fun h => r_eqi h⟩
theorem r_nei {i j : Int} (h0 : Q (.bl (!decide (i = j))) M) : wR (Bop.g .ne (.int i) (.int j) M) Q X := by show wR (gNe (.int i) (.int j) M) Q X; rw [ne_int]; exact h0
instance j_r_nei {i j : Int} : Step (wR (Bop.g .ne (.int i) (.int j) M) Q X) (Q (.bl (!decide (i = j))) M) := ⟨fun h => r_nei h⟩
theorem r_eqb {i j : Bool} (h0 : Q (.bl (decide (i = j))) M) : wR (Bop.g .eq (.bl i) (.bl j) M) Q X := by show wR (gEq (.bl i) (.bl j) M) Q X; rw [eq_bl]; exact h0
instance j_r_eqb {i j : Bool} : Step (wR (Bop.g .eq (.bl i) (.bl j) M) Q X) (Q (.bl (decide (i = j))) M) := ⟨fun h => r_eqb h⟩
theorem r_isb {i j : Bool} (h0 : Q (.bl (decide (i = j))) M) : wR (Bop.g .isT (.bl i) (.bl j) M) Q X := h0
instance j_r_isb {i j : Bool} : Step (wR (Bop.g .isT (.bl i) (.bl j) M) Q X) (Q (.bl (decide (i = j))) M) := ⟨fun h => r_isb h⟩
theorem r_isnb {i j : Bool} (h0 : Q (.bl (!decide (i = j))) M) : wR (Bop.g .isN (.bl i) (.bl j) M) Q X := h0
instance j_r_isnb {i j : Bool} : Step (wR (Bop.g .isN (.bl i) (.bl j) M) Q X) (Q (.bl (!decide (i = j))) M) := ⟨fun h => r_isnb h⟩
theorem r_is_non  (h0 : Q (.bl true) M) : wR (Bop.g .isT .non .non M) Q X := h0
instance j_r_is_non  : Step (wR (Bop.g .isT .non .non M) Q X) (Q (.bl true) M) := ⟨fun h => r_is_non h⟩
theorem r_isn_non  (h0 : Q (.bl false) M) : wR (Bop.g .isN .non .non M) Q X := h0
instance j_r_isn_non  : Step (wR (Bop.g .isN .non .non M) Q X) (Q (.bl false) M) := ⟨fun h => r_isn_non h⟩
theorem r_is_int {i : Int} (h0 : Q (.bl false) M) : wR (Bop.g .isT (.int i) .non M) Q X := h0
instance j_r_is_int {i : Int} : Step (wR (Bop.g .isT (.int i) .non M) Q X) (Q (.bl false) M) := ⟨fun h => r_is_int h⟩
theorem r_isn_int {i : Int} (h0 : Q (.bl true) M) : wR (Bop.g .isN (.int i) .non M) Q X := h0
instance j_r_isn_int {i : Int} : Step (wR (Bop.g .isN (.int i) .non M) Q X) (Q (.bl true) M) := ⟨fun h => r_isn_int h⟩
theorem r_is_bl {i : Bool} (h0 : Q (.bl false) M) : wR (Bop.g .isT (.bl i) .non M) Q X := h0
instance j_r_is_bl {i : Bool} : Step (wR (Bop.g .isT (.bl i) .non M) Q X) (Q (.bl false) M) := ⟨fun h => r_is_bl h⟩
theorem r_isn_bl {i : Bool} (h0 : Q (.bl true) M) : wR (Bop.g .isN (.bl i) .non M) Q X := h0
instance j_r_isn_bl {i : Bool} : Step (wR (Bop.g .isN (.bl i) .non M) Q X) (Q (.bl true) M) := ⟨fun h => r_isn_bl h⟩
theorem r_is_tup {xs : List D} (h0 : Q (.bl false) M) : wR (Bop.g .isT (.tup xs) .non M) Q X := h0
instance j_r_is_tup {xs : List D} : Step (wR (Bop.g .isT (.tup xs) .non M) Q X) (Q (.bl false) M) := ⟨fun h => r_is_tup h⟩
theorem r_isn_tup {xs : List D} (h0 : Q (.bl true) M) : wR (Bop.g .isN (.tup xs) .non M) Q X := h0
instance j_r_isn_tup {xs : List D} : Step (wR (Bop.g .isN (.tup xs) .non M) Q X) (Q (.bl true) M) := ⟨fun h => r_isn_tup h⟩
theorem r_is_lst {xs : List D} (h0 : Q (.bl false) M) : wR (Bop.g .isT (.lst xs) .non M) Q X := h0
instance j_r_is_lst {xs : List D} : Step (wR (Bop.g .isT (.lst xs) .non M) Q X) (Q (.bl false) M) := ⟨fun h => r_is_lst h⟩
theorem r_isn_lst {xs : List D} (h0 : Q (.bl true) M) : wR (Bop.g .isN (.lst xs) .non M) Q X := h0
instance j_r_isn_lst {xs : List D} : Step (wR (Bop.g .isN (.lst xs) .non M) Q X) (Q (.bl true) M) := ⟨fun h => r_isn_lst h⟩
theorem r_is_loc {i : Nat} (h0 : Q (.bl false) M) : wR (Bop.g .isT (.loc i) .non M) Q X := h0
instance j_r_is_loc {i : Nat} : Step (wR (Bop.g .isT (.loc i) .non M) Q X) (Q (.bl false) M) := ⟨fun h => r_is_loc h⟩
theorem r_isn_loc {i : Nat} (h0 : Q (.bl true) M) : wR (Bop.g .isN (.loc i) .non M) Q X := h0
instance j_r_isn_loc {i : Nat} : Step (wR (Bop.g .isN (.loc i) .non M) Q X) (Q (.bl true) M) := ⟨fun h => r_isn_loc h⟩
theorem r_is_str {s : Str} (h0 : Q (.bl false) M) : wR (Bop.g .isT (.str s) .non M) Q X := h0
instance j_r_is_str {s : Str} : Step (wR (Bop.g .isT (.str s) .non M) Q X) (Q (.bl false) M) := ⟨fun h => r_is_str h⟩
theorem r_isn_str {s : Str} (h0 : Q (.bl true) M) : wR (Bop.g .isN (.str s) .non M) Q X := h0
instance j_r_isn_str {s : Str} : Step (wR (Bop.g .isN (.str s) .non M) Q X) (Q (.bl true) M) := ⟨fun h => r_isn_str h⟩
theorem r_mod {i j : Int} (h0 : 0 < j) (h1 : Q (.int (i % j)) M) : wR (Bop.g .mod (.int i) (.int j) M) Q X := by show wR (gMod (.int i) (.int j) M) Q X; rw [mod_int h0]; exact h1
theorem r_div {i j : Int} (h0 : 0 < j ∧ j < 2 ^ 199) (h1 : Q (.int (i / j)) M) : wR (Bop.g .div (.int i) (.int j) M) Q X := by show wR (gDiv (.int i) (.int j) M) Q X; rw [div_int h0.1 (by omega)]; exact h1
theorem r_mul {i j : Int} {f : Bool} (h0 : (-2 ^ 90 < i ∧ i < 2 ^ 90) ∧ -2 ^ 90 < j ∧ j < 2 ^ 90) (h1 : Q (.int (i * j)) M) : wR (Bop.g (.mul f) (.int i) (.int j) M) Q X := by show wR (gMul f (.int i) (.int j) M) Q X; rw [mul_int (a := 91) (b := 91) (by omega) (by omega) (by omega) (by omega) (by omega)]; exact h1
theorem r_mulI {i j : Int} (h0 : (-2 ^ 90 < i ∧ i < 2 ^ 90) ∧ -2 ^ 90 < j ∧ j < 2 ^ 90) (h1 : Q (.int (i * j)) M) : wR (Bop.g .mulI (.int i) (.int j) M) Q X := by show wR (gMulI (.int i) (.int j) M) Q X; rw [mulI_int (a := 91) (b := 91) (by omega) (by omega) (by omega) (by omega) (by omega)]; exact h1
theorem r_pow {i j : Int} (h0 : (0 ≤ j ∧ j ≤ 1000) ∧ -2 ^ 63 < i ∧ i < 2 ^ 63) (h1 : Q (.int (i ^ j.toNat)) M) : wR (Bop.g .pow (.int i) (.int j) M) Q X := by show wR (gPow (.int i) (.int j) M) Q X; rw [pow_int (by omega)]; exact h1
theorem r_int {i : Int} (h0 : Q (.int i) M) : wR (Blt.g .int [.int i] M) Q X := h0
instance j_r_int {i : Int} : Step (wR (Blt.g .int [.int i] M) Q X) (Q (.int i) M) := ⟨fun h => r_int h⟩
theorem r_abs {i : Int} (h0 : Q (.int (if i < 0 then -i else i)) M) : wR (Blt.g .abs [.int i] M) Q X := h0
instance j_r_abs {i : Int} : Step (wR (Blt.g .abs [.int i] M) Q X) (Q (.int (if i < 0 then -i else i)) M) := ⟨fun h => r_abs h⟩
theorem r_max {i j : Int} (h0 : Q (.int (if j > i then j else i)) M) : wR (Blt.g .max2 [.int i, .int j] M) Q X := h0
instance j_r_max {i j : Int} : Step (wR (Blt.g .max2 [.int i, .int j] M) Q X) (Q (.int (if j > i then j else i)) M) := ⟨fun h => r_max h⟩
theorem r_min {i j : Int} (h0 : Q (.int (if j < i then j else i)) M) : wR (Blt.g .min2 [.int i, .int j] M) Q X := h0
instance j_r_min {i j : Int} : Step (wR (Blt.g .min2 [.int i, .int j] M) Q X) (Q (.int (if j < i then j else i)) M) := ⟨fun h => r_min h⟩
theorem r_len_tup {xs : List D} (h0 : Q (.int (xs.length : Nat)) M) : wR (Blt.g .len [.tup xs] M) Q X := h0
instance j_r_len_tup {xs : List D} : Step (wR (Blt.g .len [.tup xs] M) Q X) (Q (.int (xs.length : Nat)) M) := ⟨fun h => r_len_tup h⟩
theorem r_len_lst {xs : List D} (h0 : Q (.int (xs.length : Nat)) M) : wR (Blt.g .len [.lst xs] M) Q X := h0
instance j_r_len_lst {xs : List D} : Step (wR (Blt.g .len [.lst xs] M) Q X) (Q (.int (xs.length : Nat)) M) := ⟨fun h => r_len_lst h⟩
theorem r_len_scr {xs : List D} (h0 : Q (.int (xs.length : Nat)) M) : wR (Blt.g .len [.scr xs] M) Q X := h0
instance j_r_len_scr {xs : List D} : Step (wR (Blt.g .len [.scr xs] M) Q X) (Q (.int (xs.length : Nat)) M) := ⟨fun h => r_len_scr h⟩
theorem r_tup {xs : List D} (h0 : xs.length ≤ 1000000) (h1 : Q (.tup xs) M) : wR (gTup xs M) Q X := by rw [tup_new h0]; exact h1
theorem r_frz {xs : List D} (h0 : xs.length ≤ 1000000) (h1 : Q (.lst xs) M) : wR (gLst false xs M) Q X := by rw [lst_frz h0]; exact h1
theorem r_new {xs : List D} (h0 : xs.length ≤ 1000000) (h1 : Q (.loc M.length) (M ++ [some (.lst xs)])) : wR (gLst true xs M) Q X := by rw [lst_new h0]; exact h1
theorem r_ix_tup0 {r : List D} (h0 : Q d M) : wR (gIx (.tup (d :: r)) (.int 0) M) Q X := by rw [ix_seq (x := .tup _) rfl (at_nat (by decide) rfl)]; exact h0
instance j_r_ix_tup0 {r : List D} : Step (wR (gIx (.tup (d :: r)) (.int 0) M) Q X) (Q d M) := ⟨fun h => r_ix_tup0 h⟩
theorem r_ix_tup1 {y0 : D} {r : List D} (h0 : Q d M) : wR (gIx (.tup (y0 :: d :: r)) (.int 1) M) Q X := by rw [ix_seq (x := .tup _) rfl (at_nat (by decide) rfl)]; exact h0
instance j_r_ix_tup1 {y0 : D} {r : List D} : Step (wR (gIx (.tup (y0 :: d :: r)) (.int 1) M) Q X) (Q d M) := ⟨fun h => r_ix_tup1 h⟩
theorem r_ix_tup2 {y0 y1 : D} {r : List D} (h0 : Q d M) : wR (gIx (.tup (y0 :: y1 :: d :: r)) (.int 2) M) Q X := by rw [ix_seq (x := .tup _) rfl (at_nat (by decide) rfl)]; exact h0
instance j_r_ix_tup2 {y0 y1 : D} {r : List D} : Step (wR (gIx (.tup (y0 :: y1 :: d :: r)) (.int 2) M) Q X) (Q d M) := ⟨fun h => r_ix_tup2 h⟩
theorem r_ix_tup3 {y0 y1 y2 : D} {r : List D} (h0 : Q d M) : wR (gIx (.tup (y0 :: y1 :: y2 :: d :: r)) (.int 3) M) Q X := by rw [ix_seq (x := .tup _) rfl (at_nat (by decide) rfl)]; exact h0
instance j_r_ix_tup3 {y0 y1 y2 : D} {r : List D} : Step (wR (gIx (.tup (y0 :: y1 :: y2 :: d :: r)) (.int 3) M) Q X) (Q d M) := ⟨fun h => r_ix_tup3 h⟩
theorem r_ix_tup4 {y0 y1 y2 y3 : D} {r : List D} (h0 : Q d M) : wR (gIx (.tup (y0 :: y1 :: y2 :: y3 :: d :: r)) (.int 4) M) Q X := by rw [ix_seq (x := .tup _) rfl (at_nat (by decide) rfl)]; exact h0
instance j_r_ix_tup4 {y0 y1 y2 y3 : D} {r : List D} : Step (wR (gIx (.tup (y0 :: y1 :: y2 :: y3 :: d :: r)) (.int 4) M) Q X) (Q d M) := ⟨fun h => r_ix_tup4 h⟩
theorem r_ix_tup5 {y0 y1 y2 y3 y4 : D} {r : List D} (h0 : Q d M) : wR (gIx (.tup (y0 :: y1 :: y2 :: y3 :: y4 :: d :: r)) (.int 5) M) Q X := by rw [ix_seq (x := .tup _) rfl (at_nat (by decide) rfl)]; exact h0
instance j_r_ix_tup5 {y0 y1 y2 y3 y4 : D} {r : List D} : Step (wR (gIx (.tup (y0 :: y1 :: y2 :: y3 :: y4 :: d :: r)) (.int 5) M) Q X) (Q d M) := ⟨fun h => r_ix_tup5 h⟩
theorem r_ix_tup6 {y0 y1 y2 y3 y4 y5 : D} {r : List D} (h0 : Q d M) : wR (gIx (.tup (y0 :: y1 :: y2 :: y3 :: y4 :: y5 :: d :: r)) (.int 6) M) Q X := by rw [ix_seq (x := .tup _) rfl (at_nat (by decide) rfl)]; exact h0
instance j_r_ix_tup6 {y0 y1 y2 y3 y4 y5 : D} {r : List D} : Step (wR (gIx (.tup (y0 :: y1 :: y2 :: y3 :: y4 :: y5 :: d :: r)) (.int 6) M) Q X) (Q d M) := ⟨fun h => r_ix_tup6 h⟩
theorem r_ix_tup7 {y0 y1 y2 y3 y4 y5 y6 : D} {r : List D} (h0 : Q d M) : wR (gIx (.tup (y0 :: y1 :: y2 :: y3 :: y4 :: y5 :: y6 :: d :: r)) (.int 7) M) Q X := by rw [ix_seq (x := .tup _) rfl (at_nat (by decide) rfl)]; exact h0
instance j_r_ix_tup7 {y0 y1 y2 y3 y4 y5 y6 : D} {r : List D} : Step (wR (gIx (.tup (y0 :: y1 :: y2 :: y3 :: y4 :: y5 :: y6 :: d :: r)) (.int 7) M) Q X) (Q d M) := ⟨fun h => r_ix_tup7 h⟩
theorem r_ix_lst0 {r : List D} (h0 : Q d M) : wR (gIx (.lst (d :: r)) (.int 0) M) Q X := by rw [ix_seq (x := .lst _) rfl (at_nat (by decide) rfl)]; exact h0
instance j_r_ix_lst0 {r : List D} : Step (wR (gIx (.lst (d :: r)) (.int 0) M) Q X) (Q d M) := ⟨fun h => r_ix_lst0 h⟩
theorem r_ix_lst1 {y0 : D} {r : List D} (h0 : Q d M) : wR (gIx (.lst (y0 :: d :: r)) (.int 1) M) Q X := by rw [ix_seq (x := .lst _) rfl (at_nat (by decide) rfl)]; exact h0
instance j_r_ix_lst1 {y0 : D} {r : List D} : Step (wR (gIx (.lst (y0 :: d :: r)) (.int 1) M) Q X) (Q d M) := ⟨fun h => r_ix_lst1 h⟩
theorem r_ix_lst2 {y0 y1 : D} {r : List D} (h0 : Q d M) : wR (gIx (.lst (y0 :: y1 :: d :: r)) (.int 2) M) Q X := by rw [ix_seq (x := .lst _) rfl (at_nat (by decide) rfl)]; exact h0
instance j_r_ix_lst2 {y0 y1 : D} {r : List D} : Step (wR (gIx (.lst (y0 :: y1 :: d :: r)) (.int 2) M) Q X) (Q d M) := ⟨fun h => r_ix_lst2 h⟩
theorem r_ix_lst3 {y0 y1 y2 : D} {r : List D} (h0 : Q d M) : wR (gIx (.lst (y0 :: y1 :: y2 :: d :: r)) (.int 3) M) Q X := by rw [ix_seq (x := .lst _) rfl (at_nat (by decide) rfl)]; exact h0
instance j_r_ix_lst3 {y0 y1 y2 : D} {r : List D} : Step (wR (gIx (.lst (y0 :: y1 :: y2 :: d :: r)) (.int 3) M) Q X) (Q d M) := ⟨fun h => r_ix_lst3 h⟩
theorem r_ix_lst4 {y0 y1 y2 y3 : D} {r : List D} (h0 : Q d M) : wR (gIx (.lst (y0 :: y1 :: y2 :: y3 :: d :: r)) (.int 4) M) Q X := by rw [ix_seq (x := .lst _) rfl (at_nat (by decide) rfl)]; exact h0
instance j_r_ix_lst4 {y0 y1 y2 y3 : D} {r : List D} : Step (wR (gIx (.lst (y0 :: y1 :: y2 :: y3 :: d :: r)) (.int 4) M) Q X) (Q d M) := ⟨fun h => r_ix_lst4 h⟩
theorem r_ix_lst5 {y0 y1 y2 y3 y4 : D} {r : List D} (h0 : Q d M) : wR (gIx (.lst (y0 :: y1 :: y2 :: y3 :: y4 :: d :: r)) (.int 5) M) Q X := by rw [ix_seq (x := .lst _) rfl (at_nat (by decide) rfl)]; exact h0
instance j_r_ix_lst5 {y0 y1 y2 y3 y4 : D} {r : List D} : Step (wR (gIx (.lst (y0 :: y1 :: y2 :: y3 :: y4 :: d :: r)) (.int 5) M) Q X) (Q d M) := ⟨fun h => r_ix_lst5 h⟩
theorem r_ix_lst6 {y0 y1 y2 y3 y4 y5 : D} {r : List D} (h0 : Q d M) : wR (gIx (.lst (y0 :: y1 :: y2 :: y3 :: y4 :: y5 :: d :: r)) (.int 6) M) Q X := by rw [ix_seq (x := .lst _) rfl (at_nat (by decide) rfl)]; exact h0
instance j_r_ix_lst6 {y0 y1 y2 y3 y4 y5 : D} {r : List D} : Step (wR (gIx (.lst (y0 :: y1 :: y2 :: y3 :: y4 :: y5 :: d :: r)) (.int 6) M) Q X) (Q d M) := ⟨fun h => r_ix_lst6 h⟩
theorem r_ix_lst7 {y0 y1 y2 y3 y4 y5 y6 : D} {r : List D} (h0 : Q d M) : wR (gIx (.lst (y0 :: y1 :: y2 :: y3 :: y4 :: y5 :: y6 :: d :: r)) (.int 7) M) Q X := by rw [ix_seq (x := .lst _) rfl (at_nat (by decide) rfl)]; exact h0
instance j_r_ix_lst7 {y0 y1 y2 y3 y4 y5 y6 : D} {r : List D} : Step (wR (gIx (.lst (y0 :: y1 :: y2 :: y3 :: y4 :: y5 :: y6 :: d :: r)) (.int 7) M) Q X) (Q d M) := ⟨fun h => r_ix_lst7 h⟩
theorem r_slt {f : Bool} {xs : List D} {lo hi : Option Int} (h0 : Q (.tup (cutD xs lo hi)) M) : wR (gSl f (.tup xs) lo hi M) Q X := h0
instance j_r_slt {f : Bool} {xs : List D} {lo hi : Option Int} : Step (wR (gSl f (.tup xs) lo hi M) Q X) (Q (.tup (cutD xs lo hi)) M) := ⟨fun h => r_slt h⟩
theorem r_sll {xs : List D} {lo hi : Option Int} (h0 : Q (.lst (cutD xs lo hi)) M) : wR (gSl false (.lst xs) lo hi M) Q X := h0
instance j_r_sll {xs : List D} {lo hi : Option Int} : Step (wR (gSl false (.lst xs) lo hi M) Q X) (Q (.lst (cutD xs lo hi)) M) := ⟨fun h => r_sll h⟩
theorem r_sls {xs : List D} {lo hi : Option Int} (h0 : Q (.lst (cutD xs lo hi)) M) : wR (gSl false (.scr xs) lo hi M) Q X := h0
instance j_r_sls {xs : List D} {lo hi : Option Int} : Step (wR (gSl false (.scr xs) lo hi M) Q X) (Q (.lst (cutD xs lo hi)) M) := ⟨fun h => r_sls h⟩
theorem r_lif {xs : List D} (h0 : Q (.lst xs) M) : wR (Blt.g (.list false) [.lst xs] M) Q X := h0
instance j_r_lif {xs : List D} : Step (wR (Blt.g (.list false) [.lst xs] M) Q X) (Q (.lst xs) M) := ⟨fun h => r_lif h⟩
theorem r_tif {xs : List D} (h0 : Q (.lst xs) M) : wR (Blt.g (.list false) [.tup xs] M) Q X := h0
instance j_r_tif {xs : List D} : Step (wR (Blt.g (.list false) [.tup xs] M) Q X) (Q (.lst xs) M) := ⟨fun h => r_tif h⟩
theorem r_lin {xs : List D} (h0 : Q (.loc M.length) (M ++ [some (.lst xs)])) : wR (Blt.g (.list true) [.lst xs] M) Q X := h0
instance j_r_lin {xs : List D} : Step (wR (Blt.g (.list true) [.lst xs] M) Q X) (Q (.loc M.length) (M ++ [some (.lst xs)])) := ⟨fun h => r_lin h⟩
theorem r_tin {xs : List D} (h0 : Q (.loc M.length) (M ++ [some (.lst xs)])) : wR (Blt.g (.list true) [.tup xs] M) Q X := h0
instance j_r_tin {xs : List D} : Step (wR (Blt.g (.list true) [.tup xs] M) Q X) (Q (.loc M.length) (M ++ [some (.lst xs)])) := ⟨fun h => r_tin h⟩
theorem r_tut {xs : List D} (h0 : Q (.tup xs) M) : wR (Blt.g .tuple [.tup xs] M) Q X := h0
instance j_r_tut {xs : List D} : Step (wR (Blt.g .tuple [.tup xs] M) Q X) (Q (.tup xs) M) := ⟨fun h => r_tut h⟩
theorem r_tul {xs : List D} (h0 : Q (.tup xs) M) : wR (Blt.g .tuple [.lst xs] M) Q X := h0
instance j_r_tul {xs : List D} : Step (wR (Blt.g .tuple [.lst xs] M) Q X) (Q (.tup xs) M) := ⟨fun h => r_tul h⟩
theorem r_dict {k : Str} (h0 : Q (.dct [(.inr k, d)]) M) : wR (Blt.g .dict [.lst [.tup [.str k, d]]] M) Q X := h0
instance j_r_dict {k : Str} : Step (wR (Blt.g .dict [.lst [.tup [.str k, d]]] M) Q X) (Q (.dct [(.inr k, d)]) M) := ⟨fun h => r_dict h⟩
theorem r_exv {k f : Str} (h0 : Q (.exc k [(f, d)]) M) : wR (gExv k f [d] M) Q X := h0
instance j_r_exv {k f : Str} : Step (wR (gExv k f [d] M) Q X) (Q (.exc k [(f, d)]) M) := ⟨fun h => r_exv h⟩
theorem r_finf {xs : List D} (h0 : Q (.lst xs) M) : wR (fin false xs M) Q X := h0
instance j_r_finf {xs : List D} : Step (wR (fin false xs M) Q X) (Q (.lst xs) M) := ⟨fun h => r_finf h⟩
theorem r_fint {xs : List D} (h0 : Q (.loc M.length) (M ++ [some (.lst xs)])) : wR (fin true xs M) Q X := h0
instance j_r_fint {xs : List D} : Step (wR (fin true xs M) Q X) (Q (.loc M.length) (M ++ [some (.lst xs)])) := ⟨fun h => r_fint h⟩
theorem r_wt {xs : List D} (h0 : QW ⟨none, xs⟩ M) : wR (gWd (.tup xs) M) QW X := h0
instance j_r_wt {xs : List D} : Step (wR (gWd (.tup xs) M) QW X) (QW ⟨none, xs⟩ M) := ⟨fun h => r_wt h⟩
theorem r_wl {xs : List D} (h0 : QW ⟨none, xs⟩ M) : wR (gWd (.lst xs) M) QW X := h0
instance j_r_wl {xs : List D} : Step (wR (gWd (.lst xs) M) QW X) (QW ⟨none, xs⟩ M) := ⟨fun h => r_wl h⟩
theorem r_ws {xs : List D} (h0 : QW ⟨none, xs⟩ M) : wR (gWd (.scr xs) M) QW X := h0
instance j_r_ws {xs : List D} : Step (wR (gWd (.scr xs) M) QW X) (QW ⟨none, xs⟩ M) := ⟨fun h => r_ws h⟩
theorem r_r1 {j : Int} (h0 : -1000000 ≤ j ∧ j ≤ 1000000) (h1 : QW ⟨none, rngD 0 j.toNat⟩ M) : wR (gRng1 [.int j] M) QW X := by show wR (ite _ _ _) _ _; rw [if_pos h0]; exact h1
theorem r_r3 {i j k : Int} (h0 : R3 i j k) (h1 : QW ⟨none, rngC i k (rngN i j k)⟩ M) : wR (gRng3 [.int i, .int j, .int k] M) QW X := by show wR (ite _ _ _) _ _; rw [if_pos h0]; exact h1
theorem r_l3 {i j k : Int} (h0 : R3 i j k) (h1 : Q (.lst (rngC i k (rngN i j k))) M) : wR (Blt.g (.rng3L false) [.int i, .int j, .int k] M) Q X := by show wR (ite _ _ _) _ _; rw [if_pos h0]; exact h1
theorem r_ln3 {i j k : Int} (h0 : R3 i j k) (h1 : Q (.loc M.length) (M ++ [some (.lst (rngC i k (rngN i j k)))])) : wR (Blt.g (.rng3L true) [.int i, .int j, .int k] M) Q X := by show wR (ite _ _ _) _ _; rw [if_pos h0]; exact h1
theorem r_lenR {i j k : Int} (h0 : R3 i j k) (h1 : Q (.int (rngN i j k : Nat)) M) : wR (Blt.g .lenR [.int i, .int j, .int k] M) Q X := by show wR (ite _ _ _) _ _; rw [if_pos h0]; exact h1
theorem r_max3 {i j k : Int} (h0 : Q (.int (if k > (if j > i then j else i) then k else (if j > i then j else i))) M) : wR (Blt.g .max3 [.int i, .int j, .int k] M) Q X := h0
instance j_r_max3 {i j k : Int} : Step (wR (Blt.g .max3 [.int i, .int j, .int k] M) Q X) (Q (.int (if k > (if j > i then j else i) then k else (if j > i then j else i))) M) := ⟨fun h => r_max3 h⟩
theorem r_r2 {i j : Int} (h0 : -1000000 ≤ i ∧ i ≤ 1000000 ∧ -1000000 ≤ j ∧ j ≤ 1000000) (h1 : QW ⟨none, rngD i (j - i).toNat⟩ M) : wR (gRng2 [.int i, .int j] M) QW X := by show wR (ite _ _ _) _ _; rw [if_pos h0]; exact h1
theorem r_rl1 {j : Int} (h0 : -1000000 ≤ j ∧ j ≤ 1000000) (h1 : Q (.lst (rngD 0 j.toNat)) M) : wR (gRngL false [.int j] M) Q X := by show wR (ite _ _ _) _ _; rw [if_pos h0]; exact h1
theorem r_rl2 {i j : Int} (h0 : -1000000 ≤ i ∧ i ≤ 1000000 ∧ -1000000 ≤ j ∧ j ≤ 1000000) (h1 : Q (.lst (rngD i (j - i).toNat)) M) : wR (gRngL false [.int i, .int j] M) Q X := by show wR (ite _ _ _) _ _; rw [if_pos h0]; exact h1
theorem r_isi_int_int {i : Int} (h0 : Q (.bl true) M) : wR (Blt.g .isi [(.int i), .ty "int"] M) Q X := h0
instance j_r_isi_int_int {i : Int} : Step (wR (Blt.g .isi [(.int i), .ty "int"] M) Q X) (Q (.bl true) M) := ⟨fun h => r_isi_int_int h⟩
theorem r_isi_int_bool {i : Int} (h0 : Q (.bl false) M) : wR (Blt.g .isi [(.int i), .ty "bool"] M) Q X := h0
instance j_r_isi_int_bool {i : Int} : Step (wR (Blt.g .isi [(.int i), .ty "bool"] M) Q X) (Q (.bl false) M) := ⟨fun h => r_isi_int_bool h⟩
theorem r_isi_int_str {i : Int} (h0 : Q (.bl false) M) : wR (Blt.g .isi [(.int i), .ty "str"] M) Q X := h0
instance j_r_isi_int_str {i : Int} : Step (wR (Blt.g .isi [(.int i), .ty "str"] M) Q X) (Q (.bl false) M) := ⟨fun h => r_isi_int_str h⟩
theorem r_isi_int_list {i : Int} (h0 : Q (.bl false) M) : wR (Blt.g .isi [(.int i), .ty "list"] M) Q X := h0
instance j_r_isi_int_list {i : Int} : Step (wR (Blt.g .isi [(.int i), .ty "list"] M) Q X) (Q (.bl false) M) := ⟨fun h => r_isi_int_list h⟩
theorem r_isi_int_tuple {i : Int} (h0 : Q (.bl false) M) : wR (Blt.g .isi [(.int i), .ty "tuple"] M) Q X := h0
instance j_r_isi_int_tuple {i : Int} : Step (wR (Blt.g .isi [(.int i), .ty "tuple"] M) Q X) (Q (.bl false) M) := ⟨fun h => r_isi_int_tuple h⟩
theorem r_isi_int_lt {i : Int} (h0 : Q (.bl false) M) : wR (Blt.g .isi [(.int i), .tup [.ty "list", .ty "tuple"]] M) Q X := h0
instance j_r_isi_int_lt {i : Int} : Step (wR (Blt.g .isi [(.int i), .tup [.ty "list", .ty "tuple"]] M) Q X) (Q (.bl false) M) := ⟨fun h => r_isi_int_lt h⟩
theorem r_isi_bl_int {i : Bool} (h0 : Q (.bl true) M) : wR (Blt.g .isi [(.bl i), .ty "int"] M) Q X := h0
instance j_r_isi_bl_int {i : Bool} : Step (wR (Blt.g .isi [(.bl i), .ty "int"] M) Q X) (Q (.bl true) M) := ⟨fun h => r_isi_bl_int h⟩
theorem r_isi_bl_bool {i : Bool} (h0 : Q (.bl true) M) : wR (Blt.g .isi [(.bl i), .ty "bool"] M) Q X := h0
instance j_r_isi_bl_bool {i : Bool} : Step (wR (Blt.g .isi [(.bl i), .ty "bool"] M) Q X) (Q (.bl true) M) := ⟨fun h => r_isi_bl_bool h⟩
theorem r_isi_bl_str {i : Bool} (h0 : Q (.bl false) M) : wR (Blt.g .isi [(.bl i), .ty "str"] M) Q X := h0
instance j_r_isi_bl_str {i : Bool} : Step (wR (Blt.g .isi [(.bl i), .ty "str"] M) Q X) (Q (.bl false) M) := ⟨fun h => r_isi_bl_str h⟩
theorem r_isi_bl_list {i : Bool} (h0 : Q (.bl false) M) : wR (Blt.g .isi [(.bl i), .ty "list"] M) Q X := h0
instance j_r_isi_bl_list {i : Bool} : Step (wR (Blt.g .isi [(.bl i), .ty "list"] M) Q X) (Q (.bl false) M) := ⟨fun h => r_isi_bl_list h⟩
theorem r_isi_bl_tuple {i : Bool} (h0 : Q (.bl false) M) : wR (Blt.g .isi [(.bl i), .ty "tuple"] M) Q X := h0
instance j_r_isi_bl_tuple {i : Bool} : Step (wR (Blt.g .isi [(.bl i), .ty "tuple"] M) Q X) (Q (.bl false) M) := ⟨fun h => r_isi_bl_tuple h⟩
theorem r_isi_bl_lt {i : Bool} (h0 : Q (.bl false) M) : wR (Blt.g .isi [(.bl i), .tup [.ty "list", .ty "tuple"]] M) Q X := h0
instance j_r_isi_bl_lt {i : Bool} : Step (wR (Blt.g .isi [(.bl i), .tup [.ty "list", .ty "tuple"]] M) Q X) (Q (.bl false) M) := ⟨fun h => r_isi_bl_lt h⟩
theorem r_isi_non_int  (h0 : Q (.bl false) M) : wR (Blt.g .isi [.non, .ty "int"] M) Q X := h0
instance j_r_isi_non_int  : Step (wR (Blt.g .isi [.non, .ty "int"] M) Q X) (Q (.bl false) M) := ⟨fun h => r_isi_non_int h⟩
theorem r_isi_non_bool  (h0 : Q (.bl false) M) : wR (Blt.g .isi [.non, .ty "bool"] M) Q X := h0
instance j_r_isi_non_bool  : Step (wR (Blt.g .isi [.non, .ty "bool"] M) Q X) (Q (.bl false) M) := ⟨fun h => r_isi_non_bool h⟩
theorem r_isi_non_str  (h0 : Q (.bl false) M) : wR (Blt.g .isi [.non, .ty "str"] M) Q X := h0
instance j_r_isi_non_str  : Step (wR (Blt.g .isi [.non, .ty "str"] M) Q X) (Q (.bl false) M) := ⟨fun h => r_isi_non_str h⟩
theorem r_isi_non_list  (h0 : Q (.bl false) M) : wR (Blt.g .isi [.non, .ty "list"] M) Q X := h0
instance j_r_isi_non_list  : Step (wR (Blt.g .isi [.non, .ty "list"] M) Q X) (Q (.bl false) M) := ⟨fun h => r_isi_non_list h⟩
theorem r_isi_non_tuple  (h0 : Q (.bl false) M) : wR (Blt.g .isi [.non, .ty "tuple"] M) Q X := h0
instance j_r_isi_non_tuple  : Step (wR (Blt.g .isi [.non, .ty "tuple"] M) Q X) (Q (.bl false) M) := ⟨fun h => r_isi_non_tuple h⟩
theorem r_isi_non_lt  (h0 : Q (.bl false) M) : wR (Blt.g .isi [.non, .tup [.ty "list", .ty "tuple"]] M) Q X := h0
instance j_r_isi_non_lt  : Step (wR (Blt.g .isi [.non, .tup [.ty "list", .ty "tuple"]] M) Q X) (Q (.bl false) M) := ⟨fun h => r_isi_non_lt h⟩
theorem r_isi_str_int {s : Str} (h0 : Q (.bl false) M) : wR (Blt.g .isi [(.str s), .ty "int"] M) Q X := h0
instance j_r_isi_str_int {s : Str} : Step (wR (Blt.g .isi [(.str s), .ty "int"] M) Q X) (Q (.bl false) M) := ⟨fun h => r_isi_str_int h⟩
theorem r_isi_str_bool {s : Str} (h0 : Q (.bl false) M) : wR (Blt.g .isi [(.str s), .ty "bool"] M) Q X := h0
instance j_r_isi_str_bool {s : Str} : Step (wR (Blt.g .isi [(.str s), .ty "bool"] M) Q X) (Q (.bl false) M) := ⟨fun h => r_isi_str_bool h⟩
theorem r_isi_str_str {s : Str} (h0 : Q (.bl true) M) : wR (Blt.g .isi [(.str s), .ty "str"] M) Q X := h0
instance j_r_isi_str_str {s : Str} : Step (wR (Blt.g .isi [(.str s), .ty "str"] M) Q X) (Q (.bl true) M) := ⟨fun h => r_isi_str_str h⟩
theorem r_isi_str_list {s : Str} (h0 : Q (.bl false) M) : wR (Blt.g .isi [(.str s), .ty "list"] M) Q X := h0
instance j_r_isi_str_list {s : Str} : Step (wR (Blt.g .isi [(.str s), .ty "list"] M) Q X) (Q (.bl false) M) := ⟨fun h => r_isi_str_list h⟩
theorem r_isi_str_tuple {s : Str} (h0 : Q (.bl false) M) : wR (Blt.g .isi [(.str s), .ty "tuple"] M) Q X := h0
instance j_r_isi_str_tuple {s : Str} : Step (wR (Blt.g .isi [(.str s), .ty "tuple"] M) Q X) (Q (.bl false) M) := ⟨fun h => r_isi_str_tuple h⟩
theorem r_isi_str_lt {s : Str} (h0 : Q (.bl false) M) : wR (Blt.g .isi [(.str s), .tup [.ty "list", .ty "tuple"]] M) Q X := h0
instance j_r_isi_str_lt {s : Str} : Step (wR (Blt.g .isi [(.str s), .tup [.ty "list", .ty "tuple"]] M) Q X) (Q (.bl false) M) := ⟨fun h => r_isi_str_lt h⟩
theorem r_isi_tup_int {xs : List D} (h0 : Q (.bl false) M) : wR (Blt.g .isi [(.tup xs), .ty "int"] M) Q X := h0
instance j_r_isi_tup_int {xs : List D} : Step (wR (Blt.g .isi [(.tup xs), .ty "int"] M) Q X) (Q (.bl false) M) := ⟨fun h => r_isi_tup_int h⟩
theorem r_isi_tup_bool {xs : List D} (h0 : Q (.bl false) M) : wR (Blt.g .isi [(.tup xs), .ty "bool"] M) Q X := h0
instance j_r_isi_tup_bool {xs : List D} : Step (wR (Blt.g .isi [(.tup xs), .ty "bool"] M) Q X) (Q (.bl false) M) := ⟨fun h => r_isi_tup_bool h⟩
theorem r_isi_tup_str {xs : List D} (h0 : Q (.bl false) M) : wR (Blt.g .isi [(.tup xs), .ty "str"] M) Q X := h0
instance j_r_isi_tup_str {xs : List D} : Step (wR (Blt.g .isi [(.tup xs), .ty "str"] M) Q X) (Q (.bl false) M) := ⟨fun h => r_isi_tup_str h⟩
theorem r_isi_tup_list {xs : List D} (h0 : Q (.bl false) M) : wR (Blt.g .isi [(.tup xs), .ty "list"] M) Q X := h0
instance j_r_isi_tup_list {xs : List D} : Step (wR (Blt.g .isi [(.tup xs), .ty "list"] M) Q X) (Q (.bl false) M) := ⟨fun h => r_isi_tup_list h⟩
theorem r_isi_tup_tuple {xs : List D} (h0 : Q (.bl true) M) : wR (Blt.g .isi [(.tup xs), .ty "tuple"] M) Q X := h0
instance j_r_isi_tup_tuple {xs : List D} : Step (wR (Blt.g .isi [(.tup xs), .ty "tuple"] M) Q X) (Q (.bl true) M) := ⟨fun h => r_isi_tup_tuple h⟩
theorem r_isi_tup_lt {xs : List D} (h0 : Q (.bl true) M) : wR (Blt.g .isi [(.tup xs), .tup [.ty "list", .ty "tuple"]] M) Q X := h0
instance j_r_isi_tup_lt {xs : List D} : Step (wR (Blt.g .isi [(.tup xs), .tup [.ty "list", .ty "tuple"]] M) Q X) (Q (.bl true) M) := ⟨fun h => r_isi_tup_lt h⟩
theorem r_isi_lst_int {xs : List D} (h0 : Q (.bl false) M) : wR (Blt.g .isi [(.lst xs), .ty "int"] M) Q X := h0
instance j_r_isi_lst_int {xs : List D} : Step (wR (Blt.g .isi [(.lst xs), .ty "int"] M) Q X) (Q (.bl false) M) := ⟨fun h => r_isi_lst_int h⟩
theorem r_isi_lst_bool {xs : List D} (h0 : Q (.bl false) M) : wR (Blt.g .isi [(.lst xs), .ty "bool"] M) Q X := h0
instance j_r_isi_lst_bool {xs : List D} : Step (wR (Blt.g .isi [(.lst xs), .ty "bool"] M) Q X) (Q (.bl false) M) := ⟨fun h => r_isi_lst_bool h⟩
theorem r_isi_lst_str {xs : List D} (h0 : Q (.bl false) M) : wR (Blt.g .isi [(.lst xs), .ty "str"] M) Q X := h0
instance j_r_isi_lst_str {xs : List D} : Step (wR (Blt.g .isi [(.lst xs), .ty "str"] M) Q X) (Q (.bl false) M) := ⟨fun h => r_isi_lst_str h⟩
theorem r_isi_lst_list {xs : List D} (h0 : Q (.bl true) M) : wR (Blt.g .isi [(.lst xs), .ty "list"] M) Q X := h0
instance j_r_isi_lst_list {xs : List D} : Step (wR (Blt.g .isi [(.lst xs), .ty "list"] M) Q X) (Q (.bl true) M) := ⟨fun h => r_isi_lst_list h⟩
theorem r_isi_lst_tuple {xs : List D} (h0 : Q (.bl false) M) : wR (Blt.g .isi [(.lst xs), .ty "tuple"] M) Q X := h0
instance j_r_isi_lst_tuple {xs : List D} : Step (wR (Blt.g .isi [(.lst xs), .ty "tuple"] M) Q X) (Q (.bl false) M) := ⟨fun h => r_isi_lst_tuple h⟩
theorem r_isi_lst_lt {xs : List D} (h0 : Q (.bl true) M) : wR (Blt.g .isi [(.lst xs), .tup [.ty "list", .ty "tuple"]] M) Q X := h0
instance j_r_isi_lst_lt {xs : List D} : Step (wR (Blt.g .isi [(.lst xs), .tup [.ty "list", .ty "tuple"]] M) Q X) (Q (.bl true) M) := ⟨fun h => r_isi_lst_lt h⟩
theorem r_rn1 {j : Int} (h0 : -1000000 ≤ j ∧ j ≤ 1000000) (h1 : Q (.loc M.length) (M ++ [some (.lst (rngD 0 j.toNat))])) : wR (gRngL true [.int j] M) Q X := by show wR (ite _ _ _) _ _; rw [if_pos h0]; exact h1
theorem r_rn2 {i j : Int} (h0 : -1000000 ≤ i ∧ i ≤ 1000000 ∧ -1000000 ≤ j ∧ j ≤ 1000000) (h1 : Q (.loc M.length) (M ++ [some (.lst (rngD i (j - i).toNat))])) : wR (gRngL true [.int i, .int j] M) Q X := by show wR (ite _ _ _) _ _; rw [if_pos h0]; exact h1
theorem a_len {n : Nat} {xs : List D} {A : Prop} (h0 : xs.length = n) (h1 : A) : xs.length = n ∧ A := ⟨h0, h1⟩
theorem a_mt {n : Nat} {xs : List D} {A : Prop} (h : lstAt M n = some xs) (q : A) : (rdLst M (.loc n)).isSome = true ∧ A := ⟨by show (lstAt M n).isSome = true; rw [h]; rfl, q⟩
theorem a_ex {t : Bool} {F : Bool → Prop} (h0 : F t) : ∃ u, D.bl t = .bl u ∧ F u := ⟨_, rfl, h0⟩
instance j_a_ex {t : Bool} {F : Bool → Prop} : Step (∃ u, D.bl t = .bl u ∧ F u) (F t) := ⟨fun h => a_ex h⟩
theorem i_tt {A B : Prop} (h0 : A) : (true = true → A) ∧ (true = false → B) := ⟨fun _ => h0, fun h => (by cases h)⟩
instance j_i_tt {A B : Prop} : Step ((true = true → A) ∧ (true = false → B)) (A) := ⟨fun h => i_tt h⟩
theorem i_ff {A B : Prop} (h0 : B) : (false = true → A) ∧ (false = false → B) := ⟨fun h => (by cases h), fun _ => h0⟩
instance j_i_ff {A B : Prop} : Step ((false = true → A) ∧ (false = false → B)) (B) := ⟨fun h => i_ff h⟩
theorem i_nt {A B : Prop} (h0 : B) : ((!true) = true → A) ∧ ((!true) = false → B) := ⟨fun h => (by cases h), fun _ => h0⟩
instance j_i_nt {A B : Prop} : Step (((!true) = true → A) ∧ ((!true) = false → B)) (B) := ⟨fun h => i_nt h⟩
theorem i_nf {A B : Prop} (h0 : A) : ((!false) = true → A) ∧ ((!false) = false → B) := ⟨fun _ => h0, fun h => (by cases h)⟩
instance j_i_nf {A B : Prop} : Step (((!false) = true → A) ∧ ((!false) = false → B)) (A) := ⟨fun h => i_nf h⟩
theorem i_dt {p : Prop} [Decidable p] {A B : Prop} (h0 : p) (h1 : A) : (decide p = true → A) ∧ (decide p = false → B) := ⟨fun _ => h1, fun h => absurd h0 (of_decide_eq_false h)⟩
theorem i_df {p : Prop} [Decidable p] {A B : Prop} (h0 : ¬ p) (h1 : B) : (decide p = true → A) ∧ (decide p = false → B) := ⟨fun h => absurd (of_decide_eq_true h) h0, fun _ => h1⟩
theorem i_ndt {p : Prop} [Decidable p] {A B : Prop} (h0 : p) (h1 : B) : ((!decide p) = true → A) ∧ ((!decide p) = false → B) := ⟨fun h => by simp only [h0, decide_true, Bool.not_true, Bool.false_eq_true] at h, fun _ => h1⟩
theorem i_ndf {p : Prop} [Decidable p] {A B : Prop} (h0 : ¬ p) (h1 : A) : ((!decide p) = true → A) ∧ ((!decide p) = false → B) := ⟨fun _ => h1, fun h => by simp only [h0, decide_false, Bool.not_false, Bool.true_eq_false] at h⟩
theorem for_k {t : Tg} {b : Sxs} {wd : Wd} (inv : Nat → Ev → Mem → Prop) (h0 : inv 0 e M) (step : ∀ (i : Nat) (d : D) (e : Ev) (M : Mem), wd.ds[i]? = some d → inv i e M → Gd wd M ∧ wG C t d e M (fun e M => wSs C sub b e M (PoL (inv (i + 1)) P)) P.ex) (fin : ∀ e M, inv wd.ds.length e M → Gd wd M ∧ P.nx e M) : ForG C sub t b wd e M P := ⟨inv, h0, step, fin⟩
/-- over a list that nobody changes -/
theorem for_n {t : Tg} {b : Sxs} {xs : List D} (inv : Nat → Ev → Mem → Prop) (h0 : inv 0 e M) (step : ∀ (i : Nat) (d : D) (e : Ev) (M : Mem), xs[i]? = some d → inv i e M → wG C t d e M (fun e M => wSs C sub b e M (PoL (inv (i + 1)) P)) P.ex) (fin : ∀ e M, inv xs.length e M → P.nx e M) : ForG C sub t b ⟨none, xs⟩ e M P := ⟨inv, h0, fun i d e M h k => ⟨trivial, step i d e M h k⟩, fun e M h => ⟨trivial, fin e M h⟩⟩
theorem whl_k {b : Sxs} (inv : Nat → Ev → Mem → Prop) (m : Nat) (h0 : inv m e M) (step : ∀ m e M, inv m e M → wT C c e M (fun t M1 => (t = true → wSs C sub b e M1 (PoL (fun e M => ∃ m', m' < m ∧ inv m' e M) P)) ∧ (t = false → P.nx e M1)) (P.ex e)) : WhlG C sub c b e M P := ⟨inv, ⟨m, h0⟩, step⟩
/-- a comprehension over a list that nobody changes -/
theorem lc_n {f : Bool} {t : Tn} {cond : Exo} {x : Ex} {own : List Nat} {xs : List D} (inv : Nat → List D → Mem → Prop) (hl : xs.length ≤ 1000000) (h0 : inv 0 [] M) (step : ∀ (i : Nat) (d : D) (acc : List D) (M2 : Mem), xs[i]? = some d → inv i acc M2 → ∃ e1, tnSet t d (wipeE e own) = some e1 ∧
        wC C cond e1 M2 (fun b M3 => (b = true → wE C x e1 M3 (fun z M4 => inv (i + 1) (acc ++ [z]) M4) Xn) ∧ (b = false → inv (i + 1) acc M3)) Xn) (fin : ∀ acc M2, inv xs.length acc M2 → wR (fin f acc M2) Q X) : LcG C f t cond x own ⟨none, xs⟩ e M Q X := ⟨hl, inv, h0, fun i d acc M2 h k => ⟨trivial, step i d acc M2 h k⟩, fun acc M2 h => ⟨trivial, fin acc M2 h⟩⟩
/-- over a cell that keeps its items -/
theorem for_c {t : Tg} {b : Sxs} {n : Nat} {xs : List D} (inv : Nat → Ev → Mem → Prop) (h0 : inv 0 e M) (kp : ∀ i e M, inv i e M → lstAt M n = some xs) (step : ∀ (i : Nat) (d : D) (e : Ev) (M : Mem), xs[i]? = some d → inv i e M → wG C t d e M (fun e M => wSs C sub b e M (PoL (inv (i + 1)) P)) P.ex) (fin : ∀ e M, inv xs.length e M → P.nx e M) : ForG C sub t b ⟨some n, xs⟩ e M P := ⟨inv, h0, fun i d e M h k => ⟨kp _ _ _ k, step i d e M h k⟩, fun e M h => ⟨kp _ _ _ h, fin e M h⟩⟩
theorem if_w {p : Prop} [Decidable p] {A B : Prop} (h1 : p → A) (h2 : ¬ p → B) : (decide p = true → A) ∧ (decide p = false → B) := ⟨fun h => h1 (of_decide_eq_true h), fun h => h2 (of_decide_eq_false h)⟩
theorem ifn_w {p : Prop} [Decidable p] {A B : Prop} (h1 : ¬ p → A) (h2 : p → B) : ((!decide p) = true → A) ∧ ((!decide p) = false → B) := ⟨fun h => h1 (by simpa using h), fun h => h2 (by simpa using h)⟩
theorem ifb_w {t : Bool} {A B : Prop} (h1 : t = true → A) (h2 : t = false → B) : (t = true → A) ∧ (t = false → B) := ⟨h1, h2⟩
theorem ifnb_w {t : Bool} {A B : Prop} (h1 : t = false → A) (h2 : t = true → B) : ((!t) = true → A) ∧ ((!t) = false → B) := ⟨fun h => h1 (by simpa using h), fun h => h2 (by simpa using h)⟩
end
end En

set_option Elab.async false
set_option linter.all false
set_option maxRecDepth 100000
/-! E21: cells that change, lists gone over, menus. -/
namespace En
open PySem PySem.Spec
/-- only cell n may have changed, and cells may be new -/
structure Evo (n : Nat) (M M' : Mem) : Prop where
  len : M.length ≤ M'.length
  same : ∀ m, m < M.length → m ≠ n → M'[m]? = M[m]?
theorem Evo.refl {n : Nat} {M : Mem} : Evo n M M := ⟨Nat.le_refl _, fun _ _ _ => rfl⟩
theorem Evo.trans {n : Nat} {M M1 M2 : Mem} (a : Evo n M M1) (b : Evo n M1 M2) : Evo n M M2 := ⟨Nat.le_trans a.len b.len, fun m h k => (b.same m (Nat.lt_of_lt_of_le h a.len) k).trans (a.same m h k)⟩
theorem Ex1.evo {n : Nat} {M M' : Mem} (a : Ex1 n M M') : Evo n M M' := ⟨Nat.le_of_eq a.len.symm, fun m _ k => a.same m k⟩
theorem Evo.new {n : Nat} {M : Mem} {c : Option Cell} : Evo n M (M ++ [c]) := ⟨by simp, fun m h _ => List.getElem?_append_left h⟩
theorem Evo.set {n : Nat} {M : Mem} {c : Option Cell} : Evo n M (M.set n c) := Ex1.set.evo
theorem Evo.lst {n m : Nat} {M M' : Mem} {xs : List D} (a : Evo n M M') (h : lstAt M m = some xs) (k : m ≠ n) : lstAt M' m = some xs := lstAt_iff.mpr ((a.same m (lst_lt h) k).trans (lstAt_iff.mp h))
/-- a new cell has changed since, the older ones but n have not -/
theorem Evo.over {n : Nat} {M M1 M2 : Mem} {k : Nat} (a : Evo n M M1) (hk : M.length ≤ k) (b : Evo k M1 M2) : Evo n M M2 := ⟨Nat.le_trans a.len b.len, fun m h q => (b.same m (Nat.lt_of_lt_of_le h a.len) (by omega)).trans (a.same m h q)⟩
theorem lst_same {M M' : Mem} {n : Nat} {xs : List D} (h : lstAt M n = some xs) (e : M'[n]? = M[n]?) : lstAt M' n = some xs := lstAt_iff.mpr (e.trans (lstAt_iff.mp h))
section
variable {Q : D → Mem → Prop} {X : Xp} {M : Mem}
theorem app_w {n : Nat} {xs : List D} {d : D} (h : lstAt M n = some xs) (hl : xs.length ≤ 1000000) (q : Q .non (M.set n (some (.lst (xs ++ [d]))))) : wR (Mth.g .append (.loc n) [d] M) Q X := by
  show wR (gAppend (.loc n) [d] M) Q X
  unfold gAppend
  simp only
  rw [h]; simp only
  rw [if_pos hl]; exact q
theorem ext_w {n : Nat} {xs ys : List D} {d : D} (h : lstAt M n = some xs) (hd : lstOf M d = some ys) (hl : xs.length + ys.length ≤ 1000000) (q : Q .non (M.set n (some (.lst (xs ++ ys))))) : wR (Mth.g .extend (.loc n) [d] M) Q X := by
  show wR (gExtend (.loc n) [d] M) Q X
  unfold gExtend
  simp only
  rw [h, hd]; simp only
  rw [if_pos hl]; exact q
theorem menu_w {xs : List D} {i : Int} (h0 : 0 ≤ i) (h1 : i < (xs.length : Nat)) (h : ∀ d ∈ xs, Q d M) : wR (gIx (.lst xs) (.int i) M) Q X := by
  have hl : i.toNat < xs.length := by omega
  rw [ix_seq (x := .lst xs) (xs := xs) (d := xs[i.toNat]) rfl (at_nat h0 (List.getElem?_eq_getElem hl))]
  exact h _ (List.getElem_mem hl)
/-- an item of a list read, by its place -/
theorem ix_w {x : D} {xs : List D} {i : Int} {d : D} (h : rdSeq M x = some xs) (h0 : 0 ≤ i) (e : xs[i.toNat]? = some d) (q : Q d M) : wR (gIx x (.int i) M) Q X := by
  rw [ix_seq h (at_nat h0 e)]; exact q
theorem ix_loc {n : Nat} {xs : List D} {i : Int} {d : D} (h : lstAt M n = some xs) (h0 : 0 ≤ i) (e : xs[i.toNat]? = some d) (q : Q d M) : wR (gIx (.loc n) (.int i) M) Q X := ix_w (x := .loc n) h h0 e q
theorem len_loc {n : Nat} {xs : List D} (h : lstAt M n = some xs) (q : Q (.int (xs.length : Nat)) M) : wR (Blt.g .len [.loc n] M) Q X := by
  show wR (match rdSeq M (.loc n) with | some xs => .ok (.int (xs.length : Nat)) M | none => .bad) Q X
  rw [show rdSeq M (.loc n) = some xs from h]
  exact q
theorem tuple_loc {n : Nat} {xs : List D} (h : lstAt M n = some xs) (hl : xs.length ≤ 1000000) (q : Q (.tup xs) M) : wR (Blt.g .tuple [.loc n] M) Q X := by
  show wR (match rdLst M (.loc n) with | some xs => .ok (.tup xs) M | none => .bad) Q X
  rw [show rdLst M (.loc n) = some xs from h]
  exact q
theorem list_new {x : D} {xs : List D} (h : rdSeq M x = some xs) (q : Q (.loc M.length) (M ++ [some (.lst xs)])) : wR (Blt.g (.list true) [x] M) Q X := by
  show wR (match rdSeq M x with | some xs => fin true xs M | none => .bad) Q X
  rw [h]
  exact q
theorem list_frz {x : D} {xs : List D} (h : rdSeq M x = some xs) (q : Q (.lst xs) M) : wR (Blt.g (.list false) [x] M) Q X := by
  show wR (match rdSeq M x with | some xs => fin false xs M | none => .bad) Q X
  rw [h]
  exact q
theorem sl_tup_w {c : Bool} {xs : List D} {lo hi : Option Int} (q : Q (.tup (cutD xs lo hi)) M) : wR (gSl c (.tup xs) lo hi M) Q X := q
theorem sl_lst_w {xs : List D} {lo hi : Option Int} (q : Q (.lst (cutD xs lo hi)) M) : wR (gSl false (.lst xs) lo hi M) Q X := q
theorem sl_scr_w {xs : List D} {lo hi : Option Int} (q : Q (.lst (cutD xs lo hi)) M) : wR (gSl false (.scr xs) lo hi M) Q X := q
theorem sl_lst_n {xs : List D} {lo hi : Option Int} (q : Q (.loc M.length) (M ++ [some (.lst (cutD xs lo hi))])) : wR (gSl true (.lst xs) lo hi M) Q X := q
theorem sl_loc_w {n : Nat} {xs : List D} {lo hi : Option Int} (h : lstAt M n = some xs) (q : Q (.lst (cutD xs lo hi)) M) : wR (gSl false (.loc n) lo hi M) Q X := by
  show wR (match rdLst M (.loc n) with | some xs => fin false (cutD xs lo hi) M | none => .bad) Q X
  rw [show rdLst M (.loc n) = some xs from h]
  exact q
theorem add_tup_w {c : Bool} {xs ys : List D} (hl : xs.length + ys.length ≤ 1000000) (q : Q (.tup (xs ++ ys)) M) : wR (Bop.g (.add c) (.tup xs) (.tup ys) M) Q X := by
  show wR (if xs.length + ys.length ≤ 1000000 then .ok (.tup (xs ++ ys)) M else .bad) Q X
  rw [if_pos hl]; exact q
theorem add_lst_w {xs ys : List D} (hl : xs.length + ys.length ≤ 1000000) (q : Q (.lst (xs ++ ys)) M) : wR (Bop.g (.add false) (.lst xs) (.lst ys) M) Q X := by
  show wR (if xs.length + ys.length ≤ 1000000 then fin false (xs ++ ys) M else .bad) Q X
  rw [if_pos hl]; exact q
theorem mul_tup_w {c : Bool} {xs : List D} {k : Int} (hl : 1 ≤ xs.length ∧ xs.length ≤ 1000 ∧ 2 ≤ k ∧ k ≤ 1000) (q : Q (.tup (List.replicate k.toNat xs).flatten) M) : wR (Bop.g (.mul c) (.tup xs) (.int k) M) Q X := by
  show wR (if 1 ≤ xs.length ∧ xs.length ≤ 1000 ∧ 2 ≤ k ∧ k ≤ 1000 then .ok (.tup (List.replicate k.toNat xs).flatten) M else .bad) Q X
  rw [if_pos hl]; exact q
theorem mul_lst_w {xs : List D} {k : Int} (hl : xs.length ≤ 1000 ∧ -1000 ≤ k ∧ k ≤ 1000) (q : Q (.lst (List.replicate k.toNat xs).flatten) M) : wR (Bop.g (.mul false) (.lst xs) (.int k) M) Q X := by
  show wR (if xs.length ≤ 1000 ∧ -1000 ≤ k ∧ k ≤ 1000 then fin false (List.replicate k.toNat xs).flatten M else .bad) Q X
  rw [if_pos hl]; exact q
theorem mul_lst_n {xs : List D} {k : Int} (hl : xs.length ≤ 1000 ∧ -1000 ≤ k ∧ k ≤ 1000) (q : Q (.loc M.length) (M ++ [some (.lst (List.replicate k.toNat xs).flatten)])) : wR (Bop.g (.mul true) (.lst xs) (.int k) M) Q X := by
  show wR (if xs.length ≤ 1000 ∧ -1000 ≤ k ∧ k ≤ 1000 then fin true (List.replicate k.toNat xs).flatten M else .bad) Q X
  rw [if_pos hl]; exact q
end
theorem mem_cut {xs : List D} {lo hi : Option Int} {d : D} (h : d ∈ cutD xs lo hi) : d ∈ xs := List.mem_of_mem_drop (List.mem_of_mem_take h)
theorem len_cut (xs : List D) (lo hi : Option Int) : (cutD xs lo hi).length ≤ xs.length := by
  unfold cutD
  rw [List.length_take, List.length_drop]; omega
theorem cut_lo {xs : List D} {i : Int} (h : 0 ≤ i) : cutD xs none (some i) = xs.take i.toNat := by
  obtain ⟨k, rfl⟩ := Int.eq_ofNat_of_zero_le h
  unfold cutD
  rw [show HT.sIx xs.length xs.length (some (k : Int)) = min k xs.length from HT.sIx_nat _ _ _]
  show (xs.drop 0).take (min k xs.length - 0) = _
  rw [List.drop_zero, Nat.sub_zero, Int.toNat_natCast]
  rcases Nat.le_total k xs.length with h | h
  · rw [Nat.min_eq_left h]
  · rw [Nat.min_eq_right h, List.take_length, List.take_of_length_le h]
theorem cut_hi {xs : List D} {i : Int} (h : 0 ≤ i) : cutD xs (some i) none = xs.drop i.toNat := by
  obtain ⟨k, rfl⟩ := Int.eq_ofNat_of_zero_le h
  unfold cutD
  rw [show HT.sIx xs.length 0 (some (k : Int)) = min k xs.length from HT.sIx_nat _ _ _]
  show (xs.drop (min k xs.length)).take (xs.length - min k xs.length) = _
  rw [Int.toNat_natCast]
  rcases Nat.le_total k xs.length with h | h
  · rw [Nat.min_eq_left h, List.take_of_length_le (by rw [List.length_drop]; omega)]
  · rw [Nat.min_eq_right h, List.drop_length, List.drop_of_length_le h, List.take_nil]
/-- what is gone over, of anything that reads as a list -/
theorem seq_of {M : Mem} {v : D} {xs : List D} (h : rdSeq M v = some xs) : ∃ wd, gWd v M = .ok wd M ∧ wd.ds = xs ∧ Gd wd M := by
  cases v with
  | tup ys => cases h; exact ⟨⟨none, _⟩, rfl, rfl, trivial⟩
  | lst ys => cases h; exact ⟨⟨none, _⟩, rfl, rfl, trivial⟩
  | scr ys => cases h; exact ⟨⟨none, _⟩, rfl, rfl, trivial⟩
  | loc n =>
    have h' : lstAt M n = some xs := h
    refine ⟨⟨some n, xs⟩, ?_, rfl, h'⟩
    show (match lstAt M n with | some xs => Res.ok (Wd.mk (some n) xs) M | none => .bad) = _
    rw [h']
  | _ => cases h
theorem zip_ll {xs ys : List D} {M : Mem} {QW : Wd → Mem → Prop} {X : Xp} (q : QW ⟨none, zipD xs ys⟩ M) : wR (gZip [.lst xs, .lst ys] M) QW X := q
theorem zip_len : ∀ {xs ys : List D}, xs.length = ys.length → (zipD xs ys).length = xs.length
  | [], [], _ => rfl
  | x :: xs, y :: ys, h => by
    show (zipD xs ys).length + 1 = xs.length + 1
    rw [zip_len (by simpa using h)]
  | [], _ :: _, h => by simp at h
  | _ :: _, [], h => by simp at h
theorem zip_at : ∀ {xs ys : List D} {i : Nat} {d : D}, (zipD xs ys)[i]? = some d → ∃ x y, xs[i]? = some x ∧ ys[i]? = some y ∧ d = .tup [x, y]
  | [], _, i, d, h => by simp [zipD] at h
  | _ :: _, [], i, d, h => by simp [zipD] at h
  | x :: xs, y :: ys, 0, d, h => by
    have h' : some (D.tup [x, y]) = some d := h
    cases h'; exact ⟨x, y, rfl, rfl, rfl⟩
  | x :: xs, y :: ys, i + 1, d, h => by
    have h' : (zipD xs ys)[i]? = some d := h
    obtain ⟨a, b, h1, h2, h3⟩ := zip_at h'
    exact ⟨a, b, h1, h2, h3⟩
theorem take_snoc {α : Type} {xs : List α} {i : Nat} {d : α} (h : xs[i]? = some d) : xs.take (i + 1) = xs.take i ++ [d] := by
  rw [List.take_add_one, h]; rfl
end En

set_option Elab.async false
set_option linter.all false
set_option maxRecDepth 100000
/-! E22: a weaker wish needs no more; where two ways of an if meet again. -/
namespace En
open PySem PySem.Spec
variable (C : CT) (sub : Str → Str → Bool)
abbrev LeX (X X' : Xp) : Prop := ∀ c fs M, X c fs M → X' c fs M
abbrev LeQ {α : Type} (Q Q' : α → Mem → Prop) : Prop := ∀ a M, Q a M → Q' a M
mutual
theorem wE_mono : ∀ (x : Ex) (e : Ev) (M : Mem) (Q Q' : D → Mem → Prop) (X X' : Xp), LeQ Q Q' → LeX X X' → wE C x e M Q X → wE C x e M Q' X'
  | .var i, e, M, Q, Q', X, X', q, kx, h => by
    unfold wE at h ⊢
    split at h
    · exact q _ _ h
    · exact h.elim
  | .cst d, e, M, Q, Q', X, X', q, kx, h => by unfold wE at h ⊢; exact q _ _ h
  | .op o a b, e, M, Q, Q', X, X', q, kx, h => by
    unfold wE at h ⊢
    exact wE_mono a e M _ _ X X' (fun x M1 h => wE_mono b e M1 _ _ X X' (fun y M2 h => wR_mono h q kx) kx h) kx h
  | .neg a, e, M, Q, Q', X, X', q, kx, h => by
    unfold wE at h ⊢
    exact wE_mono a e M _ _ X X' (fun x M1 h => wR_mono h q kx) kx h
  | .and a b, e, M, Q, Q', X, X', q, kx, h => by
    unfold wE at h ⊢
    exact wE_mono a e M _ _ X X' (fun x M1 h => wR_mono h (fun t M2 h => ⟨fun k => wE_mono b e M2 _ _ X X' q kx (h.1 k), fun k => q _ _ (h.2 k)⟩) kx) kx h
  | .or a b, e, M, Q, Q', X, X', q, kx, h => by
    unfold wE at h ⊢
    exact wE_mono a e M _ _ X X' (fun x M1 h => wR_mono h (fun t M2 h => ⟨fun k => q _ _ (h.1 k), fun k => wE_mono b e M2 _ _ X X' q kx (h.2 k)⟩) kx) kx h
  | .not a, e, M, Q, Q', X, X', q, kx, h => by
    unfold wE at h ⊢
    exact wE_mono a e M _ _ X X' (fun x M1 h => wR_mono h (fun t M2 h => q _ _ h) kx) kx h
  | .ife c a b, e, M, Q, Q', X, X', q, kx, h => by
    unfold wE at h ⊢
    exact wT_mono c e M _ _ X X' (fun t M1 h => ⟨fun k => wE_mono a e M1 _ _ X X' q kx (h.1 k), fun k => wE_mono b e M1 _ _ X X' q kx (h.2 k)⟩) kx h
  | .chain o p a b c, e, M, Q, Q', X, X', q, kx, h => by
    unfold wE at h ⊢
    exact wE_mono a e M _ _ X X' (fun x M1 h => wE_mono b e M1 _ _ X X' (fun y M2 h => wR_mono h (fun z M3 ⟨t, ez, h1, h2⟩ => ⟨t, ez, fun k => wE_mono c e M3 _ _ X X' (fun u M4 h => wR_mono h q kx) kx (h1 k), fun k => q _ _ (h2 k)⟩) kx) kx h) kx h
  | .blt b es, e, M, Q, Q', X, X', q, kx, h => by unfold wE at h ⊢; exact wEs_mono es e M _ _ X X' (fun ds M1 h => wR_mono h q kx) kx h
  | .rngL c es, e, M, Q, Q', X, X', q, kx, h => by unfold wE at h ⊢; exact wEs_mono es e M _ _ X X' (fun ds M1 h => wR_mono h q kx) kx h
  | .call f n es, e, M, Q, Q', X, X', q, kx, h => by unfold wE at h ⊢; exact wEs_mono es e M _ _ X X' (fun ds M1 h => ⟨h.1, wR_mono h.2 q kx⟩) kx h
  | .callK f n ord es, e, M, Q, Q', X, X', q, kx, h => by unfold wE at h ⊢; exact wEs_mono es e M _ _ X X' (fun ds M1 h => ⟨h.1, wR_mono h.2 q kx⟩) kx h
  | .ix a b, e, M, Q, Q', X, X', q, kx, h => by
    unfold wE at h ⊢
    exact wE_mono a e M _ _ X X' (fun x M1 h => wE_mono b e M1 _ _ X X' (fun y M2 h => wR_mono h q kx) kx h) kx h
  | .sl c a lo hi, e, M, Q, Q', X, X', q, kx, h => by
    unfold wE at h ⊢
    exact wE_mono a e M _ _ X X' (fun x M1 h => wO_mono lo e M1 _ _ X X' (fun y M2 h => wO_mono hi e M2 _ _ X X' (fun z M3 h => wR_mono h q kx) kx h) kx h) kx h
  | .tup es, e, M, Q, Q', X, X', q, kx, h => by unfold wE at h ⊢; exact wEs_mono es e M _ _ X X' (fun ds M1 h => wR_mono h q kx) kx h
  | .lst c es, e, M, Q, Q', X, X', q, kx, h => by unfold wE at h ⊢; exact wEs_mono es e M _ _ X X' (fun ds M1 h => wR_mono h q kx) kx h
  | .lc c w t cond x own, e, M, Q, Q', X, X', q, kx, h => by
    unfold wE at h ⊢
    exact wW_mono w e M _ _ X X' (fun wd M1 ⟨hl, inv, h0, step, fn⟩ => ⟨hl, inv, h0, step, fun acc M2 k => ⟨(fn acc M2 k).1, wR_mono (fn acc M2 k).2 q kx⟩⟩) kx h
  | .mt m o es, e, M, Q, Q', X, X', q, kx, h => by
    unfold wE at h ⊢
    exact wE_mono o e M _ _ X X' (fun x M1 h => ⟨h.1, wEs_mono es e M1 _ _ X X' (fun ds M2 h => wR_mono h q kx) kx h.2⟩) kx h
  | .d0, e, M, Q, Q', X, X', q, kx, h => by unfold wE at h ⊢; exact q _ _ h
  | .fld cs fs f a, e, M, Q, Q', X, X', q, kx, h => by unfold wE at h ⊢; exact wE_mono a e M _ _ X X' (fun x M1 h => wR_mono h q kx) kx h
  | .make c key n es, e, M, Q, Q', X, X', q, kx, h => by unfold wE at h ⊢; exact wEs_mono es e M _ _ X X' (fun ds M1 h => wR_mono h q kx) kx h
  | .dsp ks es, e, M, Q, Q', X, X', q, kx, h => by unfold wE at h ⊢; exact wEs_mono es e M _ _ _ _ (fun ds M1 h => wR_mono h q kx) (fun _ _ _ z => z) h
  | .exv c fld es, e, M, Q, Q', X, X', q, kx, h => by unfold wE at h ⊢; exact wEs_mono es e M _ _ X X' (fun ds M1 h => wR_mono h q kx) kx h
theorem wT_mono : ∀ (x : Ex) (e : Ev) (M : Mem) (Q Q' : Bool → Mem → Prop) (X X' : Xp), LeQ Q Q' → LeX X X' → wT C x e M Q X → wT C x e M Q' X'
  | .and a b, e, M, Q, Q', X, X', q, kx, h => by
    unfold wT at h ⊢
    exact wT_mono a e M _ _ X X' (fun t M1 h => ⟨fun k => wT_mono b e M1 _ _ X X' q kx (h.1 k), fun k => q _ _ (h.2 k)⟩) kx h
  | .or a b, e, M, Q, Q', X, X', q, kx, h => by
    unfold wT at h ⊢
    exact wT_mono a e M _ _ X X' (fun t M1 h => ⟨fun k => q _ _ (h.1 k), fun k => wT_mono b e M1 _ _ X X' q kx (h.2 k)⟩) kx h
  | .not a, e, M, Q, Q', X, X', q, kx, h => by
    unfold wT at h ⊢
    exact wT_mono a e M _ _ X X' (fun t M1 h => q _ _ h) kx h
  | .ife _ _ _, _, _, _, _, _, _, _, _, h => by unfold wT at h; exact h.elim
  | .var i, e, M, Q, Q', X, X', q, kx, h => by
    unfold wT at h ⊢
    split at h
    · exact wR_mono h q kx
    · exact h.elim
  | .cst d, e, M, Q, Q', X, X', q, kx, h => by unfold wT at h ⊢; exact wR_mono h q kx
  | .op o a b, e, M, Q, Q', X, X', q, kx, h => by
    unfold wT at h ⊢
    exact wE_mono a e M _ _ X X' (fun x M1 h => wE_mono b e M1 _ _ X X' (fun y M2 h => wR_mono h (fun z M3 h => wR_mono h q kx) kx) kx h) kx h
  | .neg a, e, M, Q, Q', X, X', q, kx, h => by
    unfold wT at h ⊢
    exact wE_mono a e M _ _ X X' (fun x M1 h => wR_mono h (fun z M3 h => wR_mono h q kx) kx) kx h
  | .chain o p a b c, e, M, Q, Q', X, X', q, kx, h => by
    unfold wT at h ⊢
    exact wE_mono a e M _ _ X X' (fun x M1 h => wE_mono b e M1 _ _ X X' (fun y M2 h => wR_mono h (fun z M3 ⟨t, ez, h1, h2⟩ => ⟨t, ez, fun k => wE_mono c e M3 _ _ X X' (fun u M4 h => wR_mono h (fun z M5 h => wR_mono h q kx) kx) kx (h1 k), fun k => q _ _ (h2 k)⟩) kx) kx h) kx h
  | .blt b es, e, M, Q, Q', X, X', q, kx, h => by unfold wT at h ⊢; exact wEs_mono es e M _ _ X X' (fun ds M1 h => wR_mono h (fun z M3 h => wR_mono h q kx) kx) kx h
  | .rngL c es, e, M, Q, Q', X, X', q, kx, h => by unfold wT at h ⊢; exact wEs_mono es e M _ _ X X' (fun ds M1 h => wR_mono h (fun z M3 h => wR_mono h q kx) kx) kx h
  | .call f n es, e, M, Q, Q', X, X', q, kx, h => by unfold wT at h ⊢; exact wEs_mono es e M _ _ X X' (fun ds M1 h => ⟨h.1, wR_mono h.2 (fun z M3 h => wR_mono h q kx) kx⟩) kx h
  | .callK f n ord es, e, M, Q, Q', X, X', q, kx, h => by unfold wT at h ⊢; exact wEs_mono es e M _ _ X X' (fun ds M1 h => ⟨h.1, wR_mono h.2 (fun z M3 h => wR_mono h q kx) kx⟩) kx h
  | .ix a b, e, M, Q, Q', X, X', q, kx, h => by
    unfold wT at h ⊢
    exact wE_mono a e M _ _ X X' (fun x M1 h => wE_mono b e M1 _ _ X X' (fun y M2 h => wR_mono h (fun z M3 h => wR_mono h q kx) kx) kx h) kx h
  | .sl _ _ _ _, _, _, _, _, _, _, _, _, h => by unfold wT at h; exact h.elim
  | .tup es, e, M, Q, Q', X, X', q, kx, h => by unfold wT at h ⊢; exact wEs_mono es e M _ _ X X' (fun ds M1 h => wR_mono h (fun z M3 h => wR_mono h q kx) kx) kx h
  | .lst _ _, _, _, _, _, _, _, _, _, h => by unfold wT at h; exact h.elim
  | .lc _ _ _ _ _ _, _, _, _, _, _, _, _, _, h => by unfold wT at h; exact h.elim
  | .mt m o es, e, M, Q, Q', X, X', q, kx, h => by
    unfold wT at h ⊢
    exact wE_mono o e M _ _ X X' (fun x M1 h => ⟨h.1, wEs_mono es e M1 _ _ X X' (fun ds M2 h => wR_mono h (fun z M3 h => wR_mono h q kx) kx) kx h.2⟩) kx h
  | .d0, _, _, _, _, _, _, _, _, h => by unfold wT at h; exact h.elim
  | .exv _ _ _, _, _, _, _, _, _, _, _, h => by unfold wT at h; exact h.elim
  | .fld cs fs f a, e, M, Q, Q', X, X', q, kx, h => by unfold wT at h ⊢; exact wE_mono a e M _ _ X X' (fun x M1 h => wR_mono h (fun z M3 h => wR_mono h q kx) kx) kx h
  | .make _ _ _ _, _, _, _, _, _, _, _, _, h => by unfold wT at h; exact h.elim
  | .dsp _ _, _, _, _, _, _, _, _, _, h => by unfold wT at h; exact h.elim
theorem wEs_mono : ∀ (x : Exs) (e : Ev) (M : Mem) (Q Q' : List D → Mem → Prop) (X X' : Xp), LeQ Q Q' → LeX X X' → wEs C x e M Q X → wEs C x e M Q' X'
  | .nil, e, M, Q, Q', X, X', q, kx, h => by unfold wEs at h ⊢; exact q _ _ h
  | .cons a es, e, M, Q, Q', X, X', q, kx, h => by
    unfold wEs at h ⊢
    exact wE_mono a e M _ _ X X' (fun x M1 h => wEs_mono es e M1 _ _ X X' (fun xs M2 h => q _ _ h) kx h) kx h
  | .star a es, e, M, Q, Q', X, X', q, kx, h => by
    unfold wEs at h ⊢
    exact wE_mono a e M _ _ X X' (fun x M1 ⟨xs, e1, h⟩ => ⟨xs, e1, wEs_mono es e M1 _ _ X X' (fun ys M2 h => q _ _ h) kx h⟩) kx h
theorem wO_mono : ∀ (x : Exo) (e : Ev) (M : Mem) (Q Q' : Option Int → Mem → Prop) (X X' : Xp), LeQ Q Q' → LeX X X' → wO C x e M Q X → wO C x e M Q' X'
  | .none, e, M, Q, Q', X, X', q, kx, h => by unfold wO at h ⊢; exact q _ _ h
  | .some a, e, M, Q, Q', X, X', q, kx, h => by
    unfold wO at h ⊢
    exact wE_mono a e M _ _ X X' (fun x M1 ⟨i, e, h⟩ => ⟨i, e, q _ _ h⟩) kx h
theorem wC_mono : ∀ (x : Exo) (e : Ev) (M : Mem) (Q Q' : Bool → Mem → Prop) (X X' : Xp), LeQ Q Q' → LeX X X' → wC C x e M Q X → wC C x e M Q' X'
  | .none, e, M, Q, Q', X, X', q, kx, h => by unfold wC at h ⊢; exact q _ _ h
  | .some a, e, M, Q, Q', X, X', q, kx, h => by unfold wC at h ⊢; exact wT_mono a e M _ _ X X' q kx h
theorem wW_mono : ∀ (x : Wx) (e : Ev) (M : Mem) (Q Q' : Wd → Mem → Prop) (X X' : Xp), LeQ Q Q' → LeX X X' → wW C x e M Q X → wW C x e M Q' X'
  | .seq a, e, M, Q, Q', X, X', q, kx, h => by unfold wW at h ⊢; exact wE_mono a e M _ _ X X' (fun x M1 h => wR_mono h q kx) kx h
  | .rng1 es, e, M, Q, Q', X, X', q, kx, h => by unfold wW at h ⊢; exact wEs_mono es e M _ _ X X' (fun x M1 h => wR_mono h q kx) kx h
  | .rng2 es, e, M, Q, Q', X, X', q, kx, h => by unfold wW at h ⊢; exact wEs_mono es e M _ _ X X' (fun x M1 h => wR_mono h q kx) kx h
  | .rng3 es, e, M, Q, Q', X, X', q, kx, h => by unfold wW at h ⊢; exact wEs_mono es e M _ _ X X' (fun x M1 h => wR_mono h q kx) kx h
  | .rev a, e, M, Q, Q', X, X', q, kx, h => by unfold wW at h ⊢; exact wE_mono a e M _ _ X X' (fun x M1 h => wR_mono h q kx) kx h
  | .enum es, e, M, Q, Q', X, X', q, kx, h => by unfold wW at h ⊢; exact wEs_mono es e M _ _ X X' (fun x M1 h => wR_mono h q kx) kx h
  | .zip es, e, M, Q, Q', X, X', q, kx, h => by unfold wW at h ⊢; exact wEs_mono es e M _ _ X X' (fun x M1 h => wR_mono h q kx) kx h
end
abbrev LeN (N N' : Ev → Mem → Prop) : Prop := ∀ e M, N e M → N' e M
abbrev LeXE (X X' : Ev → Xp) : Prop := ∀ e c fs M, X e c fs M → X' e c fs M
mutual
theorem wG_mono : ∀ (t : Tg) (d : D) (e : Ev) (M : Mem) (N N' : Ev → Mem → Prop) (X X' : Ev → Xp), LeN N N' → LeXE X X' → wG C t d e M N X → wG C t d e M N' X'
  | .nm i, d, e, M, N, N', X, X', q, kx, h => by unfold wG at h ⊢; exact q _ _ h
  | .tup n ts, d, e, M, N, N', X, X', q, kx, h => by
    unfold wG at h ⊢
    obtain ⟨ds, e1, e2, h⟩ := h
    exact ⟨ds, e1, e2, wGs_mono ts ds e M N N' X X' q kx h⟩
  | .sub o i, d, e, M, N, N', X, X', q, kx, h => by
    unfold wG at h ⊢
    exact wE_mono C o e M _ _ _ _ (fun ov M1 h => wE_mono C i e M1 _ _ _ _ (fun iv M2 ⟨M3, e1, h⟩ => ⟨M3, e1, q _ _ h⟩) (kx e) h) (kx e) h
theorem wGs_mono : ∀ (ts : Tgs) (ds : List D) (e : Ev) (M : Mem) (N N' : Ev → Mem → Prop) (X X' : Ev → Xp), LeN N N' → LeXE X X' → wGs C ts ds e M N X → wGs C ts ds e M N' X'
  | .nil, ds, e, M, N, N', X, X', q, kx, h => by unfold wGs at h ⊢; exact ⟨h.1, q _ _ h.2⟩
  | .cons t ts, ds, e, M, N, N', X, X', q, kx, h => by
    unfold wGs at h ⊢
    obtain ⟨d, r, e1, h⟩ := h
    exact ⟨d, r, e1, wG_mono t d e M _ _ X X' (fun e M h => wGs_mono ts r e M N N' X X' q kx h) kx h⟩
end
structure PoLe (P P' : Po) : Prop where
  nx : LeN P.nx P'.nx
  rt : LeQ P.rt P'.rt
  bk : LeN P.bk P'.bk
  ct : LeN P.ct P'.ct
  ex : LeXE P.ex P'.ex
theorem PoLe.refl {P : Po} : PoLe P P := ⟨fun _ _ h => h, fun _ _ h => h, fun _ _ h => h, fun _ _ h => h, fun _ _ _ _ h => h⟩
theorem PoLe.k {N N' : Ev → Mem → Prop} {P P' : Po} (n : LeN N N') (h : PoLe P P') : PoLe (PoK N P) (PoK N' P') := ⟨n, h.rt, h.bk, h.ct, h.ex⟩
theorem PoLe.l {N : Ev → Mem → Prop} {P P' : Po} (h : PoLe P P') : PoLe (PoL N P) (PoL N P') := ⟨fun _ _ h => h, h.rt, h.nx, fun _ _ h => h, h.ex⟩
theorem wSR_mono {r : SR} {P P' : Po} (h : wSR r P) (k : PoLe P P') : wSR r P' := by
  cases r with
  | nx e M => exact k.nx _ _ h
  | rt d M => exact k.rt _ _ h
  | bk e M => exact k.bk _ _ h
  | ct e M => exact k.ct _ _ h
  | exc e c fs M => exact k.ex _ _ _ _ h
  | bad => exact h.elim
mutual
theorem wS_mono : ∀ (x : Sx) (e : Ev) (M : Mem) (P P' : Po), PoLe P P' → wS C sub x e M P → wS C sub x e M P'
  | .pass, e, M, P, P', k, h => by unfold wS at h ⊢; exact k.nx _ _ h
  | .asg t x, e, M, P, P', k, h => by
    unfold wS at h ⊢
    exact wE_mono C x e M _ _ _ _ (fun d M1 h => wG_mono C t d e M1 _ _ _ _ k.nx k.ex h) (k.ex e) h
  | .par i j es, e, M, P, P', k, h => by
    unfold wS at h ⊢
    exact wEs_mono C es e M _ _ _ _ (fun ds M1 ⟨a, b, e1, h⟩ => ⟨a, b, e1, k.nx _ _ h⟩) (k.ex e) h
  | .par3 i j l es, e, M, P, P', k, h => by
    unfold wS at h ⊢
    exact wEs_mono C es e M _ _ _ _ (fun ds M1 ⟨a, b, c, e1, h⟩ => ⟨a, b, c, e1, k.nx _ _ h⟩) (k.ex e) h
  | .aug o i x, e, M, P, P', k, h => by
    unfold wS at h ⊢
    split at h
    · exact wE_mono C x e M _ _ _ _ (fun y M1 h => wR_mono h (fun z M2 h => k.nx _ _ h) (k.ex e)) (k.ex e) h
    · exact h.elim
  | .expr x, e, M, P, P', k, h => by unfold wS at h ⊢; exact wE_mono C x e M _ _ _ _ (fun d M1 h => k.nx _ _ h) (k.ex e) h
  | .ret x, e, M, P, P', k, h => by unfold wS at h ⊢; exact wE_mono C x e M _ _ _ _ (fun d M1 h => k.rt _ _ h) (k.ex e) h
  | .retN, e, M, P, P', k, h => by unfold wS at h ⊢; exact k.rt _ _ h
  | .ife c a b, e, M, P, P', k, h => by
    unfold wS at h ⊢
    exact wT_mono C c e M _ _ _ _ (fun t M1 h => ⟨fun z => wSs_mono a e M1 P P' k (h.1 z), fun z => wSs_mono b e M1 P P' k (h.2 z)⟩) (k.ex e) h
  | .whl c b, e, M, P, P', k, h => by
    unfold wS at h ⊢
    obtain ⟨inv, h0, step⟩ := h
    exact ⟨inv, h0, fun m e M hi => wT_mono C c e M _ _ _ _ (fun t M1 h => ⟨fun z => wSs_mono b e M1 _ _ (PoLe.l k) (h.1 z), fun z => k.nx _ _ (h.2 z)⟩) (k.ex e) (step m e M hi)⟩
  | .forr w t b, e, M, P, P', k, h => by
    unfold wS at h ⊢
    exact wW_mono C w e M _ _ _ _ (fun wd M1 ⟨inv, h0, step, fn⟩ => ⟨inv, h0, fun i d e M hd hi => ⟨(step i d e M hd hi).1, wG_mono C t d e M _ _ _ _ (fun e M h => wSs_mono b e M _ _ (PoLe.l k) h) k.ex (step i d e M hd hi).2⟩, fun e M hi => ⟨(fn e M hi).1, k.nx _ _ (fn e M hi).2⟩⟩) (k.ex e) h
  | .brk, e, M, P, P', k, h => by unfold wS at h ⊢; exact k.bk _ _ h
  | .cnt, e, M, P, P', k, h => by unfold wS at h ⊢; exact k.ct _ _ h
  | .raise c fld es, e, M, P, P', k, h => by
    unfold wS at h ⊢
    exact wEs_mono C es e M _ _ _ _ (fun ds M1 ⟨d, e1, h⟩ => ⟨d, e1, k.ex _ _ _ _ h⟩) (k.ex e) h
  | .fset cs fs f o x, e, M, P, P', k, h => by
    unfold wS at h ⊢
    exact wE_mono C x e M _ _ _ _ (fun v M1 h => wE_mono C o e M1 _ _ _ _ (fun d M2 ⟨n, c, as, h1, h2, h3⟩ => ⟨n, c, as, h1, h2, k.nx _ _ h3⟩) (k.ex e) h) (k.ex e) h
  | .tri b hs, e, M, P, P', k, h => by
    unfold wS at h ⊢
    exact wSs_mono b e M (PoH sub hs P) (PoH sub hs P') ⟨k.nx, k.rt, k.bk, k.ct, fun e1 c fs M1 h => wSR_mono (P := P) (r := handleD sub e1 c fs M1 hs) h k⟩ h
theorem wSs_mono : ∀ (x : Sxs) (e : Ev) (M : Mem) (P P' : Po), PoLe P P' → wSs C sub x e M P → wSs C sub x e M P'
  | .nil, e, M, P, P', k, h => by unfold wSs at h ⊢; exact k.nx _ _ h
  | .one s, e, M, P, P', k, h => by unfold wSs at h ⊢; exact wS_mono s e M P P' k h
  | .cons s r, e, M, P, P', k, h => by
    unfold wSs at h ⊢
    exact wS_mono s e M (PoK (fun e1 M1 => wSs C sub r e1 M1 P) P) (PoK (fun e1 M1 => wSs C sub r e1 M1 P') P') ⟨fun e1 M1 h => wSs_mono r e1 M1 P P' k h, k.rt, k.bk, k.ct, k.ex⟩ h
end
variable {C} {sub}
/-- the two ways of an if meet in J -/
theorem ife_j {c : Ex} {x y : Sxs} {e : Ev} {M : Mem} {F : Ev → Mem → Prop} {P : Po} (J : Ev → Mem → Prop) (h : wT C c e M (fun t M1 => (t = true → wSs C sub x e M1 (PoK J P)) ∧ (t = false → wSs C sub y e M1 (PoK J P))) (P.ex e)) (k : ∀ e M, J e M → F e M) : wS C sub (.ife c x y) e M (PoK F P) :=
  wS_mono C sub (.ife c x y) e M (PoK J P) (PoK F P) (PoLe.k k PoLe.refl) (by unfold wS; exact h)
/-- first one statement up to J, then on from J -/
theorem seq_j {s : Sx} {r : Sxs} {e : Ev} {M : Mem} {P : Po} (J : Ev → Mem → Prop) (h : wS C sub s e M (PoK J P)) (k : ∀ e M, J e M → wSs C sub r e M P) : wSs C sub (.cons s r) e M P := by
  unfold wSs
  exact wS_mono C sub s e M (PoK J P) _ (PoLe.k k PoLe.refl) h
end En

set_option Elab.async false
set_option linter.all false
set_option maxRecDepth 100000
/-! E23: comprehensions that leave the memory as it is. -/
namespace En
open PySem PySem.Spec
section
variable {C : CT} {sub : Str → Str → Bool} {e : Ev} {M : Mem} {Q : D → Mem → Prop} {X : Xp} {P : Po}
theorem lc_s {f : Bool} {t : Tn} {cond : Exo} {x : Ex} {own : List Nat} {wd : Wd} (g : Gd wd M) (hl : wd.ds.length ≤ 1000000) (inv : Nat → List D → Prop) (h0 : inv 0 []) (step : ∀ (i : Nat) (d : D) (acc : List D), wd.ds[i]? = some d → inv i acc → ∃ e1, tnSet t d (wipeE e own) = some e1 ∧
        wC C cond e1 M (fun b M3 => (b = true → wE C x e1 M3 (fun z M4 => M4 = M ∧ inv (i + 1) (acc ++ [z])) Xn) ∧ (b = false → M3 = M ∧ inv (i + 1) acc)) Xn) (fn : ∀ acc, inv wd.ds.length acc → wR (fin f acc M) Q X) : LcG C f t cond x own wd e M Q X :=
  ⟨hl, fun i acc M2 => M2 = M ∧ inv i acc, ⟨rfl, h0⟩, fun i d acc M2 hd ⟨em, hi⟩ => by
    subst em
    exact ⟨g, step i d acc hd hi⟩, fun acc M2 ⟨em, hi⟩ => by subst em; exact ⟨g, fn acc hi⟩⟩
/-- [g(d) for d in xs] -/
theorem lc_map {f : Bool} {t : Tn} {x : Ex} {own : List Nat} {wd : Wd} (g : Gd wd M) (hl : wd.ds.length ≤ 1000000) (v : D → D) (step : ∀ d ∈ wd.ds, ∃ e1, tnSet t d (wipeE e own) = some e1 ∧ wE C x e1 M (fun z M4 => M4 = M ∧ z = v d) Xn) (fn : wR (fin f (wd.ds.map v) M) Q X) : LcG C f t .none x own wd e M Q X :=
  lc_s g hl (fun i acc => acc = (wd.ds.take i).map v) rfl (fun i d acc hd ha => by
    obtain ⟨e1, h1, h2⟩ := step d (List.mem_of_getElem? hd)
    refine ⟨e1, h1, ?_⟩
    unfold wC
    refine ⟨fun _ => wE_mono C x e1 M _ _ _ _ (fun z M4 h => ⟨h.1, ?_⟩) (fun _ _ _ z => z) h2, fun h => by cases h⟩
    rw [take_snoc hd, List.map_append, ha, h.2]; rfl) fun acc ha => by
    rw [List.take_length] at ha
    subst ha; exact fn
/-- [v(d) for d in xs if c(d)] -/
theorem lc_flt {f : Bool} {t : Tn} {c : Ex} {x : Ex} {own : List Nat} {wd : Wd} (g : Gd wd M) (hl : wd.ds.length ≤ 1000000) (k : D → Bool) (v : D → D) (step : ∀ d ∈ wd.ds, ∃ e1, tnSet t d (wipeE e own) = some e1 ∧ wT C c e1 M (fun b M3 => M3 = M ∧ b = k d ∧ (b = true → wE C x e1 M (fun z M4 => M4 = M ∧ z = v d) Xn)) Xn) (fn : wR (fin f ((wd.ds.filter k).map v) M) Q X) : LcG C f t (.some c) x own wd e M Q X :=
  lc_s g hl (fun i acc => acc = ((wd.ds.take i).filter k).map v) rfl (fun i d acc hd ha => by
    obtain ⟨e1, h1, h2⟩ := step d (List.mem_of_getElem? hd)
    refine ⟨e1, h1, ?_⟩
    unfold wC
    refine wT_mono C c e1 M _ _ _ _ (fun b M3 h => ?_) (fun _ _ _ z => z) h2
    obtain ⟨em, hb, h3⟩ := h
    subst em
    refine ⟨fun tb => wE_mono C x e1 M3 _ _ _ _ (fun z M4 h => ⟨h.1, ?_⟩) (fun _ _ _ z => z) (h3 tb), fun fb => ⟨rfl, ?_⟩⟩
    · rw [take_snoc hd, List.filter_append, List.map_append, ha, h.2]
      congr 1
      rw [List.filter_cons, ← hb, tb]; rfl
    · rw [take_snoc hd, List.filter_append, List.map_append, ha, List.filter_cons, ← hb, fb]
      simp) fun acc ha => by
    rw [List.take_length] at ha
    subst ha; exact fn
/-- a for that leaves the memory as it is, over anything that reads as a list -/
theorem for_s {t : Tg} {b : Sxs} {wd : Wd} (g : Gd wd M) (inv : Nat → Ev → Prop) (h0 : inv 0 e) (step : ∀ (i : Nat) (d : D) (e : Ev), wd.ds[i]? = some d → inv i e → wG C t d e M (fun e M' => wSs C sub b e M' (PoL (fun e M' => M' = M ∧ inv (i + 1) e) P)) P.ex) (fn : ∀ e, inv wd.ds.length e → P.nx e M) : ForG C sub t b wd e M P :=
  for_k (fun i e M' => M' = M ∧ inv i e) ⟨rfl, h0⟩ (fun i d e M' hd ⟨em, hi⟩ => by subst em; exact ⟨g, step i d e hd hi⟩) fun e M' ⟨em, hi⟩ => by subst em; exact ⟨g, fn e hi⟩
theorem all_w {bs : List Bool} (q : Q (.bl (bs.all id)) M) : wR (Blt.g .all [.lst (bs.map D.bl)] M) Q X := by
  show wR (gAll [.lst (bs.map D.bl)] M) Q X
  rw [all_bls]; exact q
theorem sorted_w {ns : List Int} (q : Q (.lst ((srt ns).map D.int)) M) : wR (Blt.g (.sorted false) [.lst (ns.map D.int)] M) Q X := by
  show wR (match (some (ns.map D.int)).bind asInts with | some ns => fin false ((srt ns).map D.int) M | none => .bad) Q X
  rw [Option.bind_some, asInts_map]; exact q
theorem lenU_w {ns : List Int} (hl : ns.length ≤ 4000) (q : Q (.int ((uq ns).length : Nat)) M) : wR (Blt.g .lenU [.lst (ns.map D.int)] M) Q X := by
  show wR (lenU (ns.map D.int) M) Q X
  unfold lenU
  rw [asInts_map]
  simp only
  rw [if_pos hl]; exact q
end
end En

set_option Elab.async false
set_option linter.all false
set_option maxRecDepth 100000
/-! E26: what all laws need: the box of digits, ints in lists, lists that are shortened. -/
namespace En
open PySem PySem.Spec
/-- a number between two -/
def btw (v : D) (a b : Int) : Bool := match v with | .int i => decide (a ≤ i ∧ i ≤ b) | _ => false
/-- a box of digits, drawn at most c times -/
def Box (M : Mem) (n : Nat) (c : Int) : Prop := ∃ (g : Int) (b : Bool) (l t : Int), lstAt M n = some [.int g, .bl b, .int l, .int t] ∧ 0 ≤ g ∧ 0 ≤ l ∧ l < 2147483629 ∧ 0 ≤ t ∧ t ≤ c
theorem Box.lt {M : Mem} {n : Nat} {c : Int} (h : Box M n c) : n < M.length := by
  obtain ⟨_, _, _, _, h, _⟩ := h; exact lst_lt h
theorem Box.keep {M M' : Mem} {n : Nat} {c : Int} (h : Box M n c) (e : M'[n]? = M[n]?) : Box M' n c := by
  obtain ⟨g, b, l, t, h1, h2⟩ := h
  exact ⟨g, b, l, t, lstAt_iff.mpr (e.trans (lstAt_iff.mp h1)), h2⟩
theorem Box.le {M : Mem} {n : Nat} {c c' : Int} (h : Box M n c) (e : c ≤ c') : Box M n c' := by
  obtain ⟨g, b, l, t, h1, h2, h3, h4, h5, h6⟩ := h
  exact ⟨g, b, l, t, h1, h2, h3, h4, h5, by omega⟩
theorem Box.new {M : Mem} {n : Nat} {c : Int} {x : Option Cell} (h : Box M n c) : Box (M ++ [x]) n c := h.keep (List.getElem?_append_left h.lt)
theorem Box.put {M : Mem} {n m : Nat} {c : Int} {x : Option Cell} (h : Box M n c) (k : m ≠ n) : Box (M.set m x) n c := h.keep (List.getElem?_set_ne k)
theorem cut1 (a : Int) (r : List Int) : cutD ((a :: r).map D.int) none (some 1) = ((a :: r).take 1).map D.int := by
  have e1 : HT.sIx ((a :: r).map D.int).length ((a :: r).map D.int).length (some 1) = 1 := by
    have e := HT.sIx_nat ((a :: r).map D.int).length ((a :: r).map D.int).length 1
    rw [List.length_map, List.length_cons] at e ⊢
    refine Eq.trans e ?_
    omega
  unfold cutD
  rw [e1]
  rfl
theorem rng_at {lo : Int} {n i : Nat} {d : D} (h : (rngD lo n)[i]? = some d) : d = .int (lo + i) ∧ i < n := by
  unfold rngD at h
  rw [List.getElem?_map] at h
  cases q : (List.range n)[i]? with
  | none => rw [q] at h; cases h
  | some j =>
    rw [q] at h
    obtain ⟨hl, hj⟩ := List.getElem?_eq_some_iff.mp q
    rw [List.getElem_range] at hj
    rw [List.length_range] at hl
    subst hj
    refine ⟨?_, hl⟩
    cases h; rfl
theorem rng_len (lo : Int) (n : Nat) : (rngD lo n).length = n := by unfold rngD; simp
theorem take_succ {α : Type} {xs : List α} {i : Nat} {d : α} (h : xs[i]? = some d) : xs.take (i + 1) = xs.take i ++ [d] := by
  rw [List.take_add_one, h]; rfl
theorem ixN_nat {n j : Nat} (h : j < n) : L2.ixN n (j : Int) = some j := by
  unfold L2.ixN
  rw [if_pos (by omega), if_pos (by omega), Int.toNat_natCast]
theorem erase_map {α β : Type} {f : α → β} {xs : List α} {i : Nat} : (xs.map f).eraseIdx i = (xs.eraseIdx i).map f := by
  simp [List.eraseIdx_eq_take_drop_succ, List.map_take, List.map_drop]
/-- the greatest, or None -/
def mxD : List Int → D
  | [] => .non
  | k :: r => .int (mxL (k :: r))
section
variable {C : CT} {sub : Str → Str → Bool} {e : Ev} {M : Mem} {F : Ev → Mem → Prop} {P : Po} {b : Sxs}
/-- a while, a for, that lead to J -/
theorem whl_j {c : Ex} (J : Ev → Mem → Prop) (h : WhlG C sub c b e M (PoK J P)) (k : ∀ e M, J e M → F e M) : WhlG C sub c b e M (PoK F P) := by
  have q := wS_mono C sub (.whl c b) e M (PoK J P) (PoK F P) (PoLe.k k PoLe.refl) (by unfold wS; exact h)
  unfold wS at q
  exact q
end
section
variable {Q : D → Mem → Prop} {X : Xp} {M : Mem} {n : Nat} {ns : List Int} {xs : List D}
/-- the sum of the least -/
theorem sorted_loc (h : lstAt M n = some (ns.map D.int)) (q : Q (.lst ((srt ns).map D.int)) M) : wR (Blt.g (.sorted false) [.loc n] M) Q X := by
  show wR (match (rdLst M (.loc n)).bind asInts with | some ns => fin false ((srt ns).map D.int) M | none => .bad) Q X
  rw [show rdLst M (.loc n) = some (ns.map D.int) from h, Option.bind_some, asInts_map]; exact q
theorem sum_lst (q : Q (.int ns.sum) M) : wR (Blt.g .sum [.lst (ns.map D.int)] M) Q X := by
  show wR (gSum [.lst (ns.map D.int)] M) Q X
  rw [sum_ints]; exact q
theorem sum_loc (h : lstAt M n = some (ns.map D.int)) (q : Q (.int ns.sum) M) : wR (Blt.g .sum [.loc n] M) Q X := by
  show wR (gSum [.loc n] M) Q X
  unfold gSum
  simp only
  rw [show rdLst M (.loc n) = some (ns.map D.int) from h, Option.bind_some, asInts_map]; exact q
theorem mul_w {f : Bool} {i j : Int} (a b : Nat) (h1 : i.natAbs < 2 ^ a) (h2 : j.natAbs < 2 ^ b) (h : a + b ≤ 1000000 ∧ 0 < a ∧ 0 < b) (q : Q (.int (i * j)) M) : wR (Bop.g (.mul f) (.int i) (.int j) M) Q X := by
  show wR (gMul f (.int i) (.int j) M) Q X
  rw [mul_int h1 h2 h.1 h.2.1 h.2.2]; exact q
theorem mulI_w {i j : Int} (a b : Nat) (h1 : i.natAbs < 2 ^ a) (h2 : j.natAbs < 2 ^ b) (h : a + b ≤ 1000000 ∧ 0 < a ∧ 0 < b) (q : Q (.int (i * j)) M) : wR (Bop.g .mulI (.int i) (.int j) M) Q X := by
  show wR (gMulI (.int i) (.int j) M) Q X
  rw [mulI_int h1 h2 h.1 h.2.1 h.2.2]; exact q
theorem comb_w {a b : Int} (h : (0 ≤ a ∧ a < 1000) ∧ 0 ≤ b ∧ b < 1000) (q : Q (.int (PySem.W.mcComb a b)) M) : wR (Blt.g .comb [.int a, .int b] M) Q X := by
  show wR (if (0 ≤ a ∧ a < 1000) ∧ 0 ≤ b ∧ b < 1000 then .ok (.int (PySem.W.mcComb a b)) M else .bad) Q X
  rw [if_pos h]; exact q
theorem maxD_loc {n : Nat} {ns : List Int} (h : lstAt M n = some (ns.map D.int)) (q : Q (mxD ns) M) : wR (Blt.g .maxD [.loc n] M) Q X := by
  show wR (match (rdLst M (.loc n)).bind asInts with | some [] => .ok .non M | some (n :: ns) => .ok (.int (mxL (n :: ns))) M | none => .bad) Q X
  rw [show rdLst M (.loc n) = some (ns.map D.int) from h, Option.bind_some, asInts_map]
  cases ns <;> exact q
theorem maxL_loc {n : Nat} {k : Int} {r : List Int} (h : lstAt M n = some ((k :: r).map D.int)) (q : Q (.int (mxL (k :: r))) M) : wR (Blt.g .maxL [.loc n] M) Q X := by
  show wR (match (rdLst M (.loc n)).bind asInts with | some [] => .bad | some ns => .ok (.int (mxL ns)) M | none => .bad) Q X
  rw [show rdLst M (.loc n) = some ((k :: r).map D.int) from h, Option.bind_some, asInts_map]
  exact q
theorem repr_w {d : D} {p : PyData} (h : toP M 65 d = some p) (ho : okR p = true) (q : Q (.str p.shown) M) : wR (Blt.g .repr [d] M) Q X := by
  show wR (match toP M 65 d with | some p => if okR p = true then .ok (.str p.shown) M else .bad | none => .bad) Q X
  rw [h]
  simp only
  rw [if_pos ho]; exact q
theorem nes_same {s : Str} (q : Q (.bl false) M) : wR (Bop.g .ne (.str s) (.str s) M) Q X := by
  show Q (.bl (!decide (s = s))) M
  rw [decide_eq_true rfl]; exact q
theorem eqs_same {s : Str} (q : Q (.bl true) M) : wR (Bop.g .eq (.str s) (.str s) M) Q X := by
  show Q (.bl (decide (s = s))) M
  rw [decide_eq_true rfl]; exact q
theorem toP_ints (k : Nat) : ∀ ns : List Int, optAll ((ns.map D.int).map (toP M (k + 1))) = some (ns.map PyData.int)
  | [] => rfl
  | a :: r => by
    show (optAll ((r.map D.int).map (toP M (k + 1)))).map (PyData.int a :: ·) = _
    rw [toP_ints k r]; rfl
theorem toP_lst {y : D} {xs : List D} {k : Nat} (h : rdLst M y = some xs) : toP M (k + 1) y = (optAll (xs.map (toP M k))).map .list := by
  cases y with
  | lst ys => cases (show some ys = some xs from h); rfl
  | scr ys => cases (show some ys = some xs from h); rfl
  | loc m =>
    show (match rdLst M (.loc m) with | some xs => (optAll (xs.map (toP M k))).map PyData.list | none => none) = _
    rw [h]
  | _ => cases h
theorem shaped_ints (ns : List Int) : SeqAt.shaped (.list (ns.map PyData.int)) = true := by
  have h : PyData.canLayAll0 (ns.map PyData.int) = true ∧ PyData.depthAll (ns.map PyData.int) = 0 := by
    induction ns with
    | nil => exact ⟨rfl, rfl⟩
    | cons a r ih =>
      refine ⟨?_, ?_⟩
      · show (true && PyData.canLayAll0 (r.map PyData.int)) = true
        rw [ih.1]; rfl
      · show max 0 (PyData.depthAll (r.map PyData.int)) = 0
        rw [ih.2]; rfl
  unfold SeqAt.shaped
  rw [Bool.and_eq_true, decide_eq_true_eq]
  exact ⟨h.1, by show PyData.depthAll _ + 1 ≤ 64; rw [h.2]; omega⟩
theorem ne_bl {a b : Bool} (q : Q (.bl (!decide (a = b))) M) : wR (Bop.g .ne (.bl a) (.bl b) M) Q X := by
  show wR (if SeqAt.shaped (.bool a) = true ∧ SeqAt.shaped (.bool b) = true then (Res.ok (D.bl (!PyData.eqv (.bool a) (.bool b))) M : Res D) else .bad) Q X
  rw [if_pos ⟨rfl, rfl⟩]
  cases a <;> cases b <;> exact q
theorem okR_non : okR .none = true := by decide +kernel
theorem okR_bl (b : Bool) : okR (.bool b) = true := by cases b <;> decide +kernel
theorem okR_int {i : Int} (h : i.natAbs < 10 ^ 12) : okR (.int i) = true := by
  unfold okR
  simp only [Bool.and_eq_true, decide_eq_true_eq, Bool.not_eq_true']
  refine ⟨decide_eq_true (Nat.lt_trans (log2_lt (k := 40) (by omega) (by omega)) (by omega)), rfl, Nat.zero_le _, ?_⟩
  have := PyData.shown_int_le h
  omega
theorem repr_int {i : Int} (h : -1000000000 < i ∧ i < 1000000000) (q : Q (.str (PyData.int i).shown) M) : wR (Blt.g .repr [.int i] M) Q X := repr_w rfl (okR_int (by omega)) q
theorem repr_non (q : Q (.str PyData.none.shown) M) : wR (Blt.g .repr [.non] M) Q X := repr_w rfl okR_non q
theorem repr_bl {b : Bool} (q : Q (.str (PyData.bool b).shown) M) : wR (Blt.g .repr [.bl b] M) Q X := repr_w rfl (okR_bl b) q
theorem ne_nil_loc {n m : Nat} {ns : List Int} (h : lstAt M n = some (ns.map D.int)) (g : lstAt M m = some []) (q : Q (.bl (!ns.isEmpty)) M) : wR (Bop.g .ne (.loc n) (.loc m) M) Q X := by
  show wR (match toP M 65 (.loc n), toP M 65 (.loc m) with
    | some p, some q => if SeqAt.shaped p = true ∧ SeqAt.shaped q = true then (Res.ok (D.bl (!PyData.eqv p q)) M : Res D) else .bad
    | _, _ => .bad) Q X
  rw [toP_lst (y := .loc n) h, toP_lst (y := .loc m) g, toP_ints]
  show wR (if SeqAt.shaped (.list (ns.map PyData.int)) = true ∧ SeqAt.shaped (.list []) = true then (Res.ok (D.bl (!PyData.eqv (.list (ns.map PyData.int)) (.list []))) M : Res D) else .bad) Q X
  rw [if_pos ⟨shaped_ints ns, rfl⟩]
  cases ns <;> exact q
theorem eq_nil_loc {n m : Nat} {ns : List Int} (h : lstAt M n = some (ns.map D.int)) (g : lstAt M m = some []) (q : Q (.bl ns.isEmpty) M) : wR (Bop.g .eq (.loc n) (.loc m) M) Q X := by
  show wR (match toP M 65 (.loc n), toP M 65 (.loc m) with
    | some p, some q => if SeqAt.shaped p = true ∧ SeqAt.shaped q = true then (Res.ok (D.bl (PyData.eqv p q)) M : Res D) else .bad
    | _, _ => .bad) Q X
  rw [toP_lst (y := .loc n) h, toP_lst (y := .loc m) g, toP_ints]
  show wR (if SeqAt.shaped (.list (ns.map PyData.int)) = true ∧ SeqAt.shaped (.list []) = true then (Res.ok (D.bl (PyData.eqv (.list (ns.map PyData.int)) (.list []))) M : Res D) else .bad) Q X
  rw [if_pos ⟨shaped_ints ns, rfl⟩]
  cases ns <;> exact q
theorem popAt_w {i : Int} {d : D} (h : lstAt M n = some xs) (h0 : 0 ≤ i) (h1 : i ≤ 1000000) (e : xs[i.toNat]? = some d) (q : Q d (M.set n (some (.lst (xs.eraseIdx i.toNat))))) : wR (Mth.g .popAt (.loc n) [.int i] M) Q X := by
  have hl : i.toNat < xs.length := (List.getElem?_eq_some_iff.mp e).1
  have es : seqIndex? i xs.length = some i.toNat := by
    unfold seqIndex?
    have a1 : ¬ i < 0 := by omega
    have a2 : i < (xs.length : Int) := by omega
    simp only [a1, if_false, h0, a2, decide_true, Bool.and_self, if_true]
  show wR (match lstAt M n with
    | some xs => if -1000000 ≤ i ∧ i ≤ 1000000 then match seqIndex? i xs.length with
        | some k => match xs[k]? with | some d => .ok d (M.set n (some (.lst (xs.eraseIdx k)))) | none => .bad
        | none => .bad
      else .bad
    | none => .bad) Q X
  rw [h]
  simp only
  rw [if_pos (by omega), es]
  simp only
  rw [e]
  exact q
theorem pop_w {d : D} (h : lstAt M n = some (xs ++ [d])) (q : Q d (M.set n (some (.lst xs)))) : wR (Mth.g .pop (.loc n) [] M) Q X := by
  show wR (match lstAt M n with
    | some xs => match xs[xs.length - 1]? with | some d => .ok d (M.set n (some (.lst xs.dropLast))) | none => .bad
    | none => .bad) Q X
  rw [h]
  simp only
  rw [show (xs ++ [d])[(xs ++ [d]).length - 1]? = some d from by simp]
  simp only
  rw [List.dropLast_concat]
  exact q
theorem rngL_n {j : Int} (h0 : -1000000 ≤ j ∧ j ≤ 1000000) (q : Q (.loc M.length) (M ++ [some (.lst (rngD 0 j.toNat))])) : wR (gRngL true [.int j] M) Q X := by
  show wR (ite _ _ _) _ _
  rw [if_pos h0]; exact q
theorem in_ints {y : D} {i : Int} (h : rdLst M y = some (ns.map D.int)) (q : Q (.bl (decide (i ∈ ns))) M) : wR (Bop.g .inT (.int i) y M) Q X := by
  show wR (gIn false (.int i) y M) Q X
  unfold gIn
  rw [toP_lst h, toP_ints, show toP M 65 (.int i) = some (.int i) from rfl]
  simp only [Option.map_some]
  rw [if_pos ⟨rfl, shaped_ints ns⟩]
  have e : ((ns.map PyData.int).any fun z => PyData.eqv z (.int i)) = decide (i ∈ ns) := by
    rw [Bool.eq_iff_iff]
    simp only [List.any_eq_true, List.mem_map, decide_eq_true_eq]
    constructor
    · rintro ⟨_, ⟨a, ha, rfl⟩, he⟩
      have : a = i := by simpa [PyData.eqv] using he
      exact this ▸ ha
    · intro h
      exact ⟨_, ⟨i, h, rfl⟩, by simp [PyData.eqv]⟩
  simp only [Bool.false_eq_true, if_false]
  rw [e]; exact q
end
end En

set_option Elab.async false
set_option linter.all false
set_option maxRecDepth 100000
/-! E27: small data: what repr shows of it, == of it with []; comprehensions over cells; dicts in cells. -/
namespace En
open PySem PySem.Spec
/-- small data: depth a, weight w at most -/
structure Sm (a w : Nat) (d : PyData) : Prop where
  sh : d.showable = true
  nd : d.hasDict = false
  de : d.depth ≤ a
  le : d.leavesShort 13 = true
  we : d.weight ≤ w
  la : d.canLay0 = true
theorem Sm.int {i : Int} (h : -1000000 ≤ i ∧ i ≤ 1000000) : Sm 0 21 (.int i) := by
  have l : i.natAbs.log2 < 20 := log2_lt (k := 20) (by omega) (by omega)
  refine ⟨decide_eq_true (by omega), rfl, Nat.le_refl _, decide_eq_true (PyData.shown_int_le (by omega)), ?_, rfl⟩
  show (if i == 0 then 0 else i.natAbs.log2 + 1) ≤ 21
  split <;> omega
theorem Sm.all {a w : Nat} : ∀ {xs : List PyData}, (∀ x ∈ xs, Sm a w x) → PyData.showableAll xs = true ∧ PyData.hasDictAll xs = false ∧ PyData.depthAll xs ≤ a ∧ PyData.leavesShortAll 13 xs = true ∧ PyData.weightAll xs ≤ xs.length * (w + 1) ∧ PyData.canLayAll0 xs = true
  | [], _ => ⟨rfl, rfl, Nat.zero_le _, rfl, Nat.zero_le _, rfl⟩
  | x :: xs, h => by
    obtain ⟨h1, h2, h3, h4, h5, h6⟩ := h x List.mem_cons_self
    obtain ⟨k1, k2, k3, k4, k5, k6⟩ := Sm.all (xs := xs) fun y m => h y (List.mem_cons_of_mem _ m)
    refine ⟨?_, ?_, Nat.max_le.mpr ⟨h3, k3⟩, ?_, ?_, ?_⟩
    · show (x.showable && PyData.showableAll xs) = true
      rw [h1, k1]; rfl
    · show (x.hasDict || PyData.hasDictAll xs) = false
      rw [h2, k2]; rfl
    · show (x.leavesShort 13 && PyData.leavesShortAll 13 xs) = true
      rw [h4, k4]; rfl
    · show x.weight + 1 + PyData.weightAll xs ≤ (xs.length + 1) * (w + 1)
      rw [Nat.add_mul]; omega
    · show (x.canLay0 && PyData.canLayAll0 xs) = true
      rw [h6, k6]; rfl
theorem Sm.list {a w n : Nat} {xs : List PyData} (h : ∀ x ∈ xs, Sm a w x) (hn : xs.length ≤ n) : Sm (a + 1) (n * (w + 1)) (.list xs) := by
  obtain ⟨k1, k2, k3, k4, k5, k6⟩ := Sm.all h
  exact ⟨k1, k2, Nat.succ_le_succ k3, k4, Nat.le_trans k5 (Nat.mul_le_mul_right _ hn), k6⟩
theorem Sm.tuple {a w n : Nat} {xs : List PyData} (h : ∀ x ∈ xs, Sm a w x) (hn : xs.length ≤ n) : Sm (a + 1) (n * (w + 1)) (.tuple xs) := by
  obtain ⟨k1, k2, k3, k4, k5, k6⟩ := Sm.all h
  exact ⟨k1, k2, Nat.succ_le_succ k3, k4, Nat.le_trans k5 (Nat.mul_le_mul_right _ hn), k6⟩
theorem Sm.okR {a w : Nat} {d : PyData} (h : Sm a w d) (ha : a ≤ 60) (hw : w ≤ 60000) : okR d = true := by
  unfold En.okR
  simp only [Bool.and_eq_true, decide_eq_true_eq, Bool.not_eq_true']
  refine ⟨h.sh, h.nd, Nat.le_trans h.de ha, ?_⟩
  have := PyData.shown_le 13 (by decide) d h.le
  have := h.we
  omega
theorem Sm.shaped {a w : Nat} {d : PyData} (h : Sm a w d) (ha : a ≤ 60) : SeqAt.shaped d = true := by
  unfold SeqAt.shaped
  rw [Bool.and_eq_true, decide_eq_true_eq]
  exact ⟨h.la, Nat.le_trans h.de (by omega)⟩
/-- rows of ints, pairs of ints -/
def pD (p : Int × Int) : D := .tup [.int p.1, .int p.2]
def pP (p : Int × Int) : PyData := .tuple [.int p.1, .int p.2]
theorem toP_pairs {M : Mem} (k : Nat) : ∀ ws : List (Int × Int), optAll ((ws.map pD).map (toP M (k + 2))) = some (ws.map pP)
  | [] => rfl
  | a :: r => by
    show (optAll ((r.map pD).map (toP M (k + 2)))).map (pP a :: ·) = _
    rw [toP_pairs k r]; rfl
def Sw (ws : List (Int × Int)) : Prop := ws.length ≤ 100 ∧ ∀ p ∈ ws, (-1000000 ≤ p.1 ∧ p.1 ≤ 1000000) ∧ -1000000 ≤ p.2 ∧ p.2 ≤ 1000000
theorem sm_pairs {ws : List (Int × Int)} (h : Sw ws) : Sm 2 (100 * (2 * 22 + 1)) (.list (ws.map pP)) :=
  Sm.list (fun x hx => by
    obtain ⟨p, hp, rfl⟩ := List.mem_map.mp hx
    obtain ⟨h1, h2⟩ := h.2 p hp
    refine Sm.tuple (fun y hy => ?_) (Nat.le_refl 2)
    simp only [List.mem_cons, List.not_mem_nil, or_false] at hy
    rcases hy with rfl | rfl
    · exact Sm.int h1
    · exact Sm.int h2) (by rw [List.length_map]; exact h.1)
def Sn (ns : List Int) : Prop := ns.length ≤ 100 ∧ ∀ x ∈ ns, -1000000 ≤ x ∧ x ≤ 1000000
theorem sm_ints {ns : List Int} (h : Sn ns) : Sm 1 (100 * 22) (.list (ns.map PyData.int)) :=
  Sm.list (fun x hx => by
    obtain ⟨p, hp, rfl⟩ := List.mem_map.mp hx
    exact Sm.int (h.2 p hp)) (by rw [List.length_map]; exact h.1)
theorem sm_intsT {ns : List Int} (h : Sn ns) : Sm 1 (100 * 22) (.tuple (ns.map PyData.int)) :=
  Sm.tuple (fun x hx => by
    obtain ⟨p, hp, rfl⟩ := List.mem_map.mp hx
    exact Sm.int (h.2 p hp)) (by rw [List.length_map]; exact h.1)
section
variable {C : CT} {sub : Str → Str → Bool} {Q : D → Mem → Prop} {X : Xp} {M : Mem} {P : Po} {e : Ev}
theorem repr_pairs {y : D} {ws : List (Int × Int)} (h : rdLst M y = some (ws.map pD)) (hs : Sw ws) (q : Q (.str (PyData.list (ws.map pP)).shown) M) : wR (Blt.g .repr [y] M) Q X :=
  repr_w (by rw [toP_lst h, toP_pairs]; rfl) ((sm_pairs hs).okR (by decide) (by decide)) q
theorem repr_ints {y : D} {ns : List Int} (h : rdLst M y = some (ns.map D.int)) (hs : Sn ns) (q : Q (.str (PyData.list (ns.map PyData.int)).shown) M) : wR (Blt.g .repr [y] M) Q X :=
  repr_w (by rw [toP_lst h, toP_ints]; rfl) ((sm_ints hs).okR (by decide) (by decide)) q
theorem repr_intsT {ns : List Int} (hs : Sn ns) (q : Q (.str (PyData.tuple (ns.map PyData.int)).shown) M) : wR (Blt.g .repr [.tup (ns.map D.int)] M) Q X :=
  repr_w (by show (optAll ((ns.map D.int).map (toP M 64))).map PyData.tuple = _; rw [toP_ints]; rfl) ((sm_intsT hs).okR (by decide) (by decide)) q
theorem nil_sh : SeqAt.shaped (.list []) = true := by decide +kernel
theorem eq_nil_p {y z : D} {ws : List (Int × Int)} (h : rdLst M y = some (ws.map pD)) (g : rdLst M z = some []) (hs : Sw ws) (q : Q (.bl ws.isEmpty) M) : wR (Bop.g .eq y z M) Q X := by
  have h0 : gEq y z M = (match toP M 65 y, toP M 65 z with
    | some p, some q => if SeqAt.shaped p = true ∧ SeqAt.shaped q = true then (Res.ok (D.bl (PyData.eqv p q)) M : Res D) else .bad
    | _, _ => .bad) := by
    cases y <;> first | rfl | cases h
  show wR (gEq y z M) Q X
  rw [h0, toP_lst h, toP_lst g, toP_pairs]
  show wR (if SeqAt.shaped (.list (ws.map pP)) = true ∧ SeqAt.shaped (.list []) = true then (Res.ok (D.bl (PyData.eqv (.list (ws.map pP)) (.list []))) M : Res D) else .bad) Q X
  rw [if_pos ⟨(sm_pairs hs).shaped (by decide), nil_sh⟩]
  cases ws <;> exact q
theorem ne_nil_p {y z : D} {ws : List (Int × Int)} (h : rdLst M y = some (ws.map pD)) (g : rdLst M z = some []) (hs : Sw ws) (q : Q (.bl (!ws.isEmpty)) M) : wR (Bop.g .ne y z M) Q X := by
  have h0 : gNe y z M = (match toP M 65 y, toP M 65 z with
    | some p, some q => if SeqAt.shaped p = true ∧ SeqAt.shaped q = true then (Res.ok (D.bl (!PyData.eqv p q)) M : Res D) else .bad
    | _, _ => .bad) := by
    cases y <;> first | rfl | cases h
  show wR (gNe y z M) Q X
  rw [h0, toP_lst h, toP_lst g, toP_pairs]
  show wR (if SeqAt.shaped (.list (ws.map pP)) = true ∧ SeqAt.shaped (.list []) = true then (Res.ok (D.bl (!PyData.eqv (.list (ws.map pP)) (.list []))) M : Res D) else .bad) Q X
  rw [if_pos ⟨(sm_pairs hs).shaped (by decide), nil_sh⟩]
  cases ws <;> exact q
theorem eq_nil_i {y z : D} {ns : List Int} (h : rdLst M y = some (ns.map D.int)) (g : rdLst M z = some []) (q : Q (.bl ns.isEmpty) M) : wR (Bop.g .eq y z M) Q X := by
  have h0 : gEq y z M = (match toP M 65 y, toP M 65 z with
    | some p, some q => if SeqAt.shaped p = true ∧ SeqAt.shaped q = true then (Res.ok (D.bl (PyData.eqv p q)) M : Res D) else .bad
    | _, _ => .bad) := by
    cases y <;> first | rfl | cases h
  show wR (gEq y z M) Q X
  rw [h0, toP_lst h, toP_lst g, toP_ints]
  show wR (if SeqAt.shaped (.list (ns.map PyData.int)) = true ∧ SeqAt.shaped (.list []) = true then (Res.ok (D.bl (PyData.eqv (.list (ns.map PyData.int)) (.list []))) M : Res D) else .bad) Q X
  rw [if_pos ⟨shaped_ints ns, nil_sh⟩]
  cases ns <;> exact q
/-- a, b = xs, a list in a cell -/
theorem g_tupC {n m : Nat} {ts : Tgs} {ds : List D} {N : Ev → Mem → Prop} {XE : Ev → Xp} (h : lstAt M m = some ds) (h0 : ds.length = n) (h1 : wGs C ts ds e M N XE) : wG C (.tup n ts) (.loc m) e M N XE := by
  unfold wG; exact ⟨_, .inr (.inr ⟨m, rfl, h⟩), h0, h1⟩
/-! dicts in cells -/
theorem ix_dic {n : Nat} {ks : List (Str × D)} {s : Str} {d : D} (h : M[n]? = some (some (.dic ks))) (e : ks.lookup s = some d) (q : Q d M) : wR (gIx (.loc n) (.str s) M) Q X := by
  show wR (gIxK (.loc n) s M) Q X
  unfold gIxK
  simp only
  rw [dicAt_iff.mpr h]
  simp only
  rw [e]; exact q
theorem put_dic {n : Nat} {ks : List (Str × D)} {s : Str} {v : D} (h : M[n]? = some (some (.dic ks))) (e : (ks.lookup s).isSome = true) (hl : ks.length < 1000) : putAt M (.loc n) (.str s) v = some (M.set n (some (.dic (putM s v ks)))) := by
  show (match dicAt M n with
    | some ks => if (ks.lookup s).isSome = true ∧ ks.length < 1000 then some (M.set n (some (.dic (putM s v ks)))) else none
    | none => none) = _
  rw [dicAt_iff.mpr h]
  simp only
  rw [if_pos ⟨e, hl⟩]
theorem dsp_w {ks : List Str} {ds : List D} (h : ks.length = ds.length ∧ ks.length ≤ 15 ∧ ks.Nodup) (q : Q (.loc M.length) (M ++ [some (.dic (ks.zip ds))])) : wR (gDsp ks ds M) Q X := by
  unfold gDsp
  rw [if_pos h]; exact q
theorem set_lst {n : Nat} {i : Int} {j : Nat} {xs : List D} {v : D} (h : lstAt M n = some xs) (e : L2.ixN xs.length i = some j) : putAt M (.loc n) (.int i) v = some (M.set n (some (.lst (xs.set j v)))) := put_loc h e
end
end En

set_option Elab.async false
set_option linter.all false
set_option maxRecDepth 100000
/-! K40M: rows of contents amid a change from one of three values to another one. -/
namespace K40
open PySem PySem.Spec En
/-- the next value -/
def nx (u : Int) : Int := (u + 1) % 3
def V3 (u : Int) : Prop := 0 ≤ u ∧ u ≤ 2
theorem v3_nx {u : Int} (h : V3 u) : V3 (nx u) := by unfold V3 nx at *; omega
/-- a row amid a change from u to the next one, or back -/
def Fm (u : Int) (v : List Int) : Prop := ∃ a : Nat, ∀ i x, v[i]? = some x → (i < a → x = nx u) ∧ (a < i → x = u)
open Classical in
noncomputable def fmB (u : Int) (v : List Int) : Bool := decide (Fm u v)
open Classical in
theorem fmB_t {u : Int} {v : List Int} (h : Fm u v) : fmB u v = true := by unfold fmB; exact decide_eq_true h
open Classical in
theorem fmB_iff {u : Int} {v : List Int} : fmB u v = true ↔ Fm u v := by unfold fmB; exact decide_eq_true_iff
theorem fmB_dec {u : Int} {v : List Int} {p : Prop} [Decidable p] (h : p ↔ Fm u v) : decide p = fmB u v := by
  rw [Bool.eq_iff_iff, fmB_iff, decide_eq_true_iff]; exact h
/-- as long as the row shows the next value -/
def Pre (c : Int) (v : List Int) (t : Nat) : Prop := t ≤ v.length ∧ ∀ i, i < t → v[i]? = some c
def Stop (c : Int) (v : List Int) (t : Nat) : Prop := t = v.length ∨ ∃ x, v[t]? = some x ∧ x ≠ c
theorem can_iff {u : Int} {v : List Int} {t : Nat} (h : Pre (nx u) v t) (s : Stop (nx u) v t) : (∀ x ∈ v.drop (t + 1), x = u) ↔ Fm u v := by
  constructor
  · intro k
    refine ⟨t, fun i x e => ⟨fun l => ?_, fun l => ?_⟩⟩
    · have := h.2 i l
      rw [e] at this; exact Option.some.inj this
    · refine k x (List.mem_of_getElem? (i := i - (t + 1)) ?_)
      rw [List.getElem?_drop, show t + 1 + (i - (t + 1)) = i by omega]; exact e
  · rintro ⟨a, k⟩ x hx
    obtain ⟨j, e⟩ := List.getElem?_of_mem hx
    rw [List.getElem?_drop] at e
    have lt := (List.getElem?_eq_some_iff.mp e).1
    rcases Nat.lt_or_ge a (t + 1 + j) with l | l
    · exact (k _ _ e).2 l
    · rcases s with s | ⟨y, e2, ne⟩
      · omega
      · exact absurd ((k _ _ e2).1 (by omega)) ne
theorem form_iff {u : Int} {v : List Int} {t s : Nat} (h : Pre (nx u) v t) (h' : Stop (nx u) v t) (g : Pre u v.reverse s) (g' : Stop u v.reverse s) : ((t : Int) + (s : Int) ≥ (v.length : Int) - 1) ↔ Fm u v := by
  have hs : s ≤ v.length := by have := g.1; rwa [List.length_reverse] at this
  constructor
  · intro k
    refine ⟨t, fun i x e => ⟨fun l => ?_, fun l => ?_⟩⟩
    · have := h.2 i l
      rw [e] at this; exact Option.some.inj this
    · have lt := (List.getElem?_eq_some_iff.mp e).1
      have := g.2 (v.length - 1 - i) (by omega)
      rw [List.getElem?_reverse (by omega), show v.length - 1 - (v.length - 1 - i) = i by omega, e] at this
      exact Option.some.inj this
  · rintro ⟨a, k⟩
    apply Classical.byContradiction
    intro no
    have lt : t + s < v.length - 1 := by omega
    rcases h' with h' | ⟨x, e1, n1⟩
    · omega
    rcases g' with g' | ⟨y, e2, n2⟩
    · rw [List.length_reverse] at g'; omega
    · rw [List.getElem?_reverse (by omega)] at e2
      have z1 : ¬ t < a := fun z => n1 ((k _ _ e1).1 z)
      exact n2 ((k _ _ e2).2 (by omega))
theorem Fm.erase {u : Int} {v : List Int} (h : Fm u v) (t : Nat) : Fm u (v.eraseIdx t) := by
  obtain ⟨a, k⟩ := h
  refine ⟨if t < a then a - 1 else a, fun i x e => ?_⟩
  rw [List.getElem?_eraseIdx] at e
  by_cases hi : i < t
  · rw [if_pos hi] at e
    have := k _ _ e
    split
    · exact ⟨fun l => this.1 (by omega), fun l => this.2 (by omega)⟩
    · exact ⟨fun l => this.1 (by omega), fun l => this.2 (by omega)⟩
  · rw [if_neg hi] at e
    have := k _ _ e
    split
    · exact ⟨fun l => this.1 (by omega), fun l => this.2 (by omega)⟩
    · exact ⟨fun l => this.1 (by omega), fun l => this.2 (by omega)⟩
/-- all alike -/
def Uni (v : List Int) (w : Int) : Prop := ∀ x ∈ v, x = w
theorem uni_at {v : List Int} {w x : Int} {i : Nat} (h : Uni v w) (e : v[i]? = some x) : x = w := h x (List.mem_of_getElem? e)
theorem Uni.fm {v : List Int} {u : Int} (h : Uni v u) : Fm u v := ⟨0, fun i x e => ⟨fun l => absurd l (by omega), fun _ => uni_at h e⟩⟩
theorem Uni.fmn {v : List Int} {u : Int} (h : Uni v (nx u)) : Fm u v := ⟨v.length, fun i x e => ⟨fun _ => uni_at h e, fun l => by have := (List.getElem?_eq_some_iff.mp e).1; omega⟩⟩
theorem fm_uni {u w : Int} {v : List Int} (h : Fm u v) (n : 2 ≤ v.length) (g : Uni v w) : w = u ∨ w = nx u := by
  obtain ⟨a, k⟩ := h
  have e0 : v[0]? = some v[0] := List.getElem?_eq_getElem (by omega)
  have e1 : v[1]? = some v[1] := List.getElem?_eq_getElem (by omega)
  have g0 := uni_at g e0
  have g1 := uni_at g e1
  rcases Nat.lt_or_ge 0 a with l | l
  · exact .inr (by rw [← g0]; exact (k _ _ e0).1 l)
  · exact .inl (by rw [← g1]; exact (k _ _ e1).2 (by omega))
/-- of a row of three or more that is not all alike one value alone tells the form -/
theorem fm_one {u u' : Int} {v : List Int} (hu : V3 u) (hu' : V3 u') (h : Fm u v) (h' : Fm u' v) (n : 3 ≤ v.length) (no : ∀ w, ¬ Uni v w) : u = u' := by
  apply Classical.byContradiction
  intro ne
  -- one of them is the next of the other
  have go : ∀ {p q : Int}, V3 p → Fm p v → Fm q v → q = nx p → False := by
    intro p q hp hP hQ e
    obtain ⟨a, k⟩ := hP
    obtain ⟨b, l⟩ := hQ
    subst e
    have ne1 : nx p ≠ p := by unfold nx V3 at *; omega
    have ne2 : nx (nx p) ≠ p := by unfold nx V3 at *; omega
    have ne3 : nx (nx p) ≠ nx p := by unfold nx V3 at *; omega
    have mid : ∀ i, i < v.length → i ≠ a → i ≠ b → i < a ∧ b < i := fun i hi h1 h2 => by
      have e : v[i]? = some v[i] := List.getElem?_eq_getElem hi
      obtain ⟨k1, k2⟩ := k _ _ e
      obtain ⟨l1, l2⟩ := l _ _ e
      rcases Nat.lt_or_ge i a with c | c
      · rcases Nat.lt_or_ge b i with d | d
        · exact ⟨c, d⟩
        · have := k1 c; have := l1 (by omega); omega
      · have q1 := k2 (by omega)
        rcases Nat.lt_or_ge b i with d | d
        · have := l2 d; omega
        · have := l1 (by omega); omega
    have hb : b = 0 := by
      by_cases z : 0 = a
      · -- nothing stands before a
        obtain ⟨i, hi, i1, i2⟩ : ∃ i, i < v.length ∧ i ≠ a ∧ i ≠ b := by
          by_cases c : b = 1
          · exact ⟨2, by omega, by omega, by omega⟩
          · exact ⟨1, by omega, by omega, by omega⟩
        have := (mid i hi i1 i2).1; omega
      · by_cases y : 0 = b
        · exact y.symm
        · have := (mid 0 (by omega) z y).2; omega
    have ha : v.length ≤ a + 1 := by
      apply Classical.byContradiction
      intro c
      have := (mid (v.length - 1) (by omega) (by omega) (by omega)).1; omega
    refine no (nx p) fun x hx => ?_
    obtain ⟨i, e⟩ := List.getElem?_of_mem hx
    have hi := (List.getElem?_eq_some_iff.mp e).1
    rcases Nat.lt_or_ge i a with c | c
    · exact (k _ _ e).1 c
    · exact (l _ _ e).2 (by omega)
  rcases (show u' = nx u ∨ u = nx u' by unfold V3 nx at *; omega) with e | e
  · exact go hu h h' e
  · exact go hu' h' h e
/-! writes -/
/-- the places that do not show the value, upwards -/
def wrF (o : Nat) (val : Int) : List Int → List (Int × Int)
  | [] => []
  | x :: r => if x = val then wrF (o + 1) val r else ((o : Int), val) :: wrF (o + 1) val r
def wr (v : List Int) (val : Int) : List (Int × Int) := wrF 0 val v
def app (ws : List (Int × Int)) (v : List Int) : List Int := ws.foldl (fun v p => v.set p.1.toNat p.2) v
theorem app_len (ws : List (Int × Int)) : ∀ v : List Int, (app ws v).length = v.length := by
  induction ws with
  | nil => intro v; rfl
  | cons p r ih => intro v; show (app r (v.set p.1.toNat p.2)).length = _; rw [ih, List.length_set]
theorem app_snoc (ws : List (Int × Int)) (p : Int × Int) (v : List Int) : app (ws ++ [p]) v = (app ws v).set p.1.toNat p.2 := by
  unfold app; rw [List.foldl_append]; rfl
theorem set_pre (pre : List Int) (x y : Int) (t : List Int) : (pre ++ x :: t).set pre.length y = pre ++ y :: t := by
  rw [List.set_append_right _ _ (Nat.le_refl _), Nat.sub_self]; rfl
theorem wrF_le (val : Int) : ∀ (v : List Int) (o : Nat), (wrF o val v).length ≤ v.length
  | [], _ => Nat.le_refl _
  | x :: r, o => by
    unfold wrF
    have := wrF_le val r (o + 1)
    split <;> simp <;> omega
theorem app_all (val : Int) : ∀ (v : List Int) (pre : List Int), app (wrF pre.length val v) (pre ++ v) = pre ++ List.replicate v.length val
  | [], pre => by simp [wrF, app]
  | x :: r, pre => by
    have ih := fun y => app_all val r (pre ++ [y])
    unfold wrF
    split
    · rename_i e
      have := ih x
      rw [List.length_append, List.length_singleton, List.append_assoc, List.append_assoc] at this
      rw [List.length_cons, List.replicate_succ, ← e]
      rw [← e] at this
      exact this
    · show app (wrF (pre.length + 1) val r) ((pre ++ x :: r).set ((pre.length : Nat) : Int).toNat val) = _
      rw [Int.toNat_natCast, set_pre]
      have := ih val
      rw [List.length_append, List.length_singleton, List.append_assoc, List.append_assoc] at this
      rw [List.length_cons, List.replicate_succ]
      exact this
theorem app_allR (val : Int) : ∀ (v : List Int) (pre : List Int), app (wrF pre.length val v).reverse (pre ++ v) = pre ++ List.replicate v.length val
  | [], pre => by simp [wrF, app]
  | x :: r, pre => by
    have ih := app_allR val r (pre ++ [x])
    rw [List.length_append, List.length_singleton, List.append_assoc, List.append_assoc] at ih
    unfold wrF
    split
    · rename_i e
      rw [List.length_cons, List.replicate_succ, ← e]
      rw [← e] at ih
      exact ih
    · rw [List.reverse_cons, app_snoc]
      show (app (wrF (pre.length + 1) val r).reverse (pre ++ x :: r)).set ((pre.length : Nat) : Int).toNat val = _
      rw [show pre ++ x :: r = pre ++ ([x] ++ r) from rfl, ih, Int.toNat_natCast]
      show (pre ++ x :: List.replicate r.length val).set pre.length val = _
      rw [set_pre, List.length_cons, List.replicate_succ]
theorem app_up (val : Int) : ∀ (v : List Int) (o k : Nat), k < (wrF o val v).length → ∃ l c r, v = l ++ c :: r ∧ c ≠ val ∧ (wrF o val v)[k]? = some (((o + l.length : Nat) : Int), val) ∧ ∀ pre : List Int, pre.length = o → app ((wrF o val v).take k) (pre ++ v) = pre ++ (List.replicate l.length val ++ c :: r)
  | [], o, k, h => by cases h
  | x :: t, o, k, h => by
    unfold wrF at h ⊢
    by_cases e : x = val
    · rw [if_pos e] at h
      rw [if_pos e]
      obtain ⟨l, c, r, h1, h2, h3, h4⟩ := app_up val t (o + 1) k h
      refine ⟨x :: l, c, r, by rw [h1]; rfl, h2, by rw [h3, List.length_cons]; congr 3; omega, fun pre hp => ?_⟩
      have := h4 (pre ++ [x]) (by simp [hp])
      rw [List.append_assoc, List.append_assoc] at this
      rw [List.length_cons, List.replicate_succ, ← e]
      rw [← e] at this
      exact this
    · rw [if_neg e] at h
      rw [if_neg e]
      cases k with
      | zero => exact ⟨[], x, t, rfl, e, rfl, fun pre hp => rfl⟩
      | succ k =>
        obtain ⟨l, c, r, h1, h2, h3, h4⟩ := app_up val t (o + 1) k (by simpa using h)
        refine ⟨x :: l, c, r, by rw [h1]; rfl, h2, by rw [List.getElem?_cons_succ, h3, List.length_cons]; congr 3; omega, fun pre hp => ?_⟩
        have := h4 (pre ++ [val]) (by simp [hp])
        rw [List.append_assoc, List.append_assoc] at this
        rw [List.take_succ_cons]
        show app ((wrF (o + 1) val t).take k) ((pre ++ x :: t).set ((o : Nat) : Int).toNat val) = _
        rw [Int.toNat_natCast, ← hp, set_pre, hp]
        rw [List.length_cons, List.replicate_succ]
        exact this
theorem app_dn (val : Int) : ∀ (v : List Int) (o k : Nat), k < (wrF o val v).length → ∃ l c r, v = l ++ c :: r ∧ c ≠ val ∧ (wrF o val v).reverse[k]? = some (((o + l.length : Nat) : Int), val) ∧ ∀ pre : List Int, pre.length = o → app ((wrF o val v).reverse.take k) (pre ++ v) = pre ++ (l ++ c :: List.replicate r.length val)
  | [], o, k, h => by cases h
  | x :: t, o, k, h => by
    unfold wrF at h ⊢
    by_cases e : x = val
    · rw [if_pos e] at h
      rw [if_pos e]
      obtain ⟨l, c, r, h1, h2, h3, h4⟩ := app_dn val t (o + 1) k h
      refine ⟨x :: l, c, r, by rw [h1]; rfl, h2, by rw [h3, List.length_cons]; congr 3; omega, fun pre hp => ?_⟩
      have := h4 (pre ++ [x]) (by simp [hp])
      rw [List.append_assoc, List.append_assoc] at this
      exact this
    · rw [if_neg e] at h
      rw [if_neg e, List.reverse_cons]
      rw [List.length_cons] at h
      by_cases hk : k < (wrF (o + 1) val t).length
      · obtain ⟨l, c, r, h1, h2, h3, h4⟩ := app_dn val t (o + 1) k hk
        refine ⟨x :: l, c, r, by rw [h1]; rfl, h2, by rw [List.getElem?_append_left (by rw [List.length_reverse]; exact hk), h3, List.length_cons]; congr 3; omega, fun pre hp => ?_⟩
        have := h4 (pre ++ [x]) (by simp [hp])
        rw [List.append_assoc, List.append_assoc] at this
        rw [List.take_append_of_le_length (by rw [List.length_reverse]; omega)]
        exact this
      · have ek : k = (wrF (o + 1) val t).reverse.length := by rw [List.length_reverse]; omega
        refine ⟨[], x, t, rfl, e, by rw [ek, List.getElem?_append_right (Nat.le_refl _)]; simp, fun pre hp => ?_⟩
        rw [ek, List.take_left]
        have := app_allR val t (pre ++ [x])
        rw [List.length_append, List.length_singleton, hp, List.append_assoc, List.append_assoc] at this
        exact this
/-- a cut amid the writes, upwards: the form stays -/
theorem cut_up {u : Int} {v : List Int} {k : Nat} (h : Fm u v) (hk : k < (wr v (nx u)).length) : ∃ p : Nat, (wr v (nx u))[k]? = some ((p : Int), nx u) ∧ p < v.length ∧ ∀ y, Fm u ((app ((wr v (nx u)).take k) v).set p y) := by
  obtain ⟨l, c, r, h1, h2, h3, h4⟩ := app_up (nx u) v 0 k hk
  refine ⟨l.length, by rw [Nat.zero_add] at h3; exact h3, by rw [h1]; simp, fun y => ?_⟩
  have e := h4 [] rfl
  rw [List.nil_append, List.nil_append] at e
  show Fm u ((app ((wrF 0 (nx u) v).take k) v).set l.length y)
  rw [e]
  have es := set_pre (List.replicate l.length (nx u)) c y r
  rw [List.length_replicate] at es
  rw [es]
  obtain ⟨a, g⟩ := h
  have ha : a ≤ l.length := by
    apply Classical.byContradiction
    intro z
    exact h2 ((g l.length c (by rw [h1]; simp)).1 (by omega))
  refine ⟨l.length, fun i x e => ⟨fun lt => ?_, fun lt => ?_⟩⟩
  · rw [List.getElem?_append_left (by rw [List.length_replicate]; exact lt), List.getElem?_replicate, if_pos lt] at e
    exact (Option.some.inj e).symm
  · refine (g i x ?_).2 (by omega)
    rw [h1]
    rw [List.getElem?_append_right (by first | (rw [List.length_replicate]; omega) | omega)] at e ⊢
    rw [List.length_replicate] at e
    obtain ⟨j, hj⟩ : ∃ j, i - l.length = j + 1 := ⟨i - l.length - 1, by omega⟩
    rw [hj, List.getElem?_cons_succ] at e ⊢
    exact e
/-- the same downwards -/
theorem cut_dn {u : Int} {v : List Int} {k : Nat} (h : Fm u v) (hk : k < (wr v u).length) : ∃ p : Nat, (wr v u).reverse[k]? = some ((p : Int), u) ∧ p < v.length ∧ ∀ y, Fm u ((app ((wr v u).reverse.take k) v).set p y) := by
  obtain ⟨l, c, r, h1, h2, h3, h4⟩ := app_dn u v 0 k hk
  refine ⟨l.length, by rw [Nat.zero_add] at h3; exact h3, by rw [h1]; simp, fun y => ?_⟩
  have e := h4 [] rfl
  rw [List.nil_append, List.nil_append] at e
  show Fm u ((app ((wrF 0 u v).reverse.take k) v).set l.length y)
  rw [e, set_pre]
  obtain ⟨a, g⟩ := h
  have ha : l.length ≤ a := by
    apply Classical.byContradiction
    intro z
    exact h2 ((g l.length c (by rw [h1]; simp)).2 (by omega))
  refine ⟨l.length, fun i x e => ⟨fun lt => ?_, fun lt => ?_⟩⟩
  · refine (g i x ?_).1 (by omega)
    rw [h1]
    rw [List.getElem?_append_left lt] at e ⊢
    exact e
  · rw [List.getElem?_append_right (by omega)] at e
    obtain ⟨j, hj⟩ : ∃ j, i - l.length = j + 1 := ⟨i - l.length - 1, by omega⟩
    rw [hj, List.getElem?_cons_succ, List.getElem?_replicate] at e
    split at e
    · exact (Option.some.inj e).symm
    · cases e
theorem app_uni (v : List Int) (val : Int) : Uni (app (wr v val) v) val := by
  have := app_all val v []
  rw [List.nil_append, List.nil_append] at this
  show Uni (app (wrF 0 val v) v) val
  rw [show wrF 0 val v = wrF ([] : List Int).length val v from rfl, this]
  intro x hx
  exact (List.mem_replicate.mp hx).2
theorem app_uniR (v : List Int) (val : Int) : Uni (app (wr v val).reverse v) val := by
  have := app_allR val v []
  rw [List.nil_append, List.nil_append] at this
  show Uni (app (wrF 0 val v).reverse v) val
  rw [show wrF 0 val v = wrF ([] : List Int).length val v from rfl, this]
  intro x hx
  exact (List.mem_replicate.mp hx).2
/-! what a row tells -/
open Classical in
noncomputable def fst3 (v : List Int) : Int := if Fm 0 v then 1 else if Fm 1 v then 2 else 0
open Classical in
noncomputable def rd (v : List Int) : Int × List (Int × Int) :=
  if Uni v (v.headD 0) then (v.headD 0, [])
  else if 2 < v.length then (fst3 v, wr v (fst3 v))
  else if v.headD 0 > 2 then (v.getD 1 0, [(0, v.getD 1 0)])
  else if v.getD 1 0 > 2 ∨ v.headD 0 = nx (v.getD 1 0) then (v.headD 0, [(1, v.headD 0)])
  else (nx (v.getD 1 0), [])
/-- a row at rest -/
def St (val : Int) (v : List Int) : Prop := Uni v val ∨ v = [nx val, nx (nx val)]
theorem st_fm {val : Int} {v : List Int} (h : St val v) : Fm val v := by
  rcases h with h | rfl
  · exact h.fm
  · refine ⟨1, fun i x e => ?_⟩
    match i, e with
    | 0, e => exact ⟨fun _ => (Option.some.inj e).symm, fun l => absurd l (by omega)⟩
    | 1, e => exact ⟨fun l => absurd l (by omega), fun l => absurd l (by omega)⟩
    | i + 2, e => simp at e
/-- back to the value before -/
theorem st_fm2 {u : Int} {v : List Int} (hu : V3 u) (h : St (nx u) v) : Fm u v := by
  rcases h with h | rfl
  · exact h.fmn
  · refine ⟨0, fun i x e => ?_⟩
    match i, e with
    | 0, e => exact ⟨fun l => absurd l (by omega), fun l => absurd l (by omega)⟩
    | 1, e => exact ⟨fun l => absurd l (by omega), fun _ => by
        have : nx (nx (nx u)) = x := Option.some.inj e
        rw [← this]; unfold nx V3 at *; omega⟩
    | i + 2, e => simp at e
theorem uni_head {v : List Int} {w : Int} (n : 1 ≤ v.length) (h : Uni v w) : v.headD 0 = w := by
  cases v with
  | nil => simp at n
  | cons x r => exact h x List.mem_cons_self
open Classical in
theorem rd_st {val : Int} {v : List Int} (hv : V3 val) (n : 2 ≤ v.length) (h : St val v) : rd v = (val, []) := by
  rcases h with h | rfl
  · have e := uni_head (by omega) h
    unfold rd
    rw [e, if_pos h]
  · have h1 : ¬ Uni [nx val, nx (nx val)] (nx val) := fun z => by
      have := z (nx (nx val)) (by simp)
      unfold nx V3 at *; omega
    have h3 : ¬ (nx val > 2) := by unfold nx V3 at *; omega
    have h4 : ¬ (nx (nx val) > 2 ∨ nx val = nx (nx (nx val))) := by unfold nx V3 at *; omega
    unfold rd
    show (if Uni [nx val, nx (nx val)] (nx val) then _ else if 2 < 2 then _ else if nx val > 2 then _ else if nx (nx val) > 2 ∨ nx val = nx (nx (nx val)) then _ else (nx (nx (nx val)), [])) = _
    rw [if_neg h1, if_neg (by omega), if_neg h3, if_neg h4]
    congr 1
    unfold nx V3 at *; omega
/-- the value that a row amid a change tells is one of the two; a cut amid its mending leaves the form, all of it a row at rest -/
theorem rd_fm {u : Int} {v : List Int} (hu : V3 u) (n : 2 ≤ v.length) (h0 : ∀ x ∈ v, 0 ≤ x) (h : Fm u v) :
    ((rd v).1 = u ∨ (rd v).1 = nx u) ∧ (∀ k, k < (rd v).2.length → ∃ p : Nat, ∃ x : Int, (rd v).2[k]? = some ((p : Int), x) ∧ p < v.length ∧ ∀ y, Fm u ((app ((rd v).2.take k) v).set p y)) ∧ St (rd v).1 (app (rd v).2 v) := by
  by_cases hU : Uni v (v.headD 0)
  · have e : rd v = (v.headD 0, []) := by unfold rd; rw [if_pos hU]
    rw [e]
    exact ⟨fm_uni h n hU, fun k hk => absurd hk (by simp), .inl hU⟩
  · have no : ∀ w, ¬ Uni v w := fun w z => hU (by rw [uni_head (by omega) z]; exact z)
    by_cases hn : 2 < v.length
    · have ef : fst3 v = nx u := by
        unfold fst3
        by_cases f0 : Fm 0 v
        · rw [if_pos f0]
          have := fm_one (by unfold V3; omega) hu f0 h (by omega) no
          rw [← this]; rfl
        · rw [if_neg f0]
          by_cases f1 : Fm 1 v
          · rw [if_pos f1]
            have := fm_one (by unfold V3; omega) hu f1 h (by omega) no
            rw [← this]; rfl
          · rw [if_neg f1]
            have : u = 2 := by
              have a0 : u ≠ 0 := fun z => f0 (z ▸ h)
              have a1 : u ≠ 1 := fun z => f1 (z ▸ h)
              unfold V3 at hu; omega
            rw [this]; rfl
      have e : rd v = (nx u, wr v (nx u)) := by unfold rd; rw [if_neg hU, if_pos hn, ef]
      rw [e]
      refine ⟨.inr rfl, fun k hk => ?_, .inl (app_uni v (nx u))⟩
      obtain ⟨p, h1, h2, h3⟩ := cut_up h hk
      exact ⟨p, _, h1, h2, h3⟩
    · obtain ⟨x, y, rfl⟩ : ∃ x y, v = [x, y] := by
        cases v with
        | nil => simp at n
        | cons x r => cases r with
          | nil => simp at n
          | cons y r => cases r with
            | nil => exact ⟨x, y, rfl⟩
            | cons z r => simp at hn
      · obtain ⟨a, k⟩ := h
        have kx := k 0 x rfl
        have ky := k 1 y rfl
        have x0 : 0 ≤ x := h0 x (by simp)
        have y0 : 0 ≤ y := h0 y (by simp)
        have xy : x ≠ y := fun z => hU fun t ht => by
          simp only [List.mem_cons, List.not_mem_nil, or_false] at ht
          show t = x
          rcases ht with rfl | rfl
          · rfl
          · exact z.symm
        have cs : x = nx u ∨ y = u := by
          rcases Nat.lt_or_ge 0 a with l | l
          · exact .inl (kx.1 l)
          · exact .inr (ky.2 (by omega))
        have er : rd [x, y] = if x > 2 then (y, [(0, y)]) else if y > 2 ∨ x = nx y then (x, [(1, x)]) else (nx y, []) := by
          unfold rd; rw [if_neg hU, if_neg (by simp)]; rfl
        have F0 : y = u → ∀ z, Fm u [z, y] := fun e z => ⟨0, fun i t q => by
          match i, q with
          | 0, q => exact ⟨fun l => absurd l (by omega), fun l => absurd l (by omega)⟩
          | 1, q => exact ⟨fun l => absurd l (by omega), fun _ => (Option.some.inj q).symm.trans e⟩
          | i + 2, q => simp at q⟩
        have F1 : x = nx u → ∀ z, Fm u [x, z] := fun e z => ⟨1, fun i t q => by
          match i, q with
          | 0, q => exact ⟨fun _ => (Option.some.inj q).symm.trans e, fun l => absurd l (by omega)⟩
          | 1, q => exact ⟨fun l => absurd l (by omega), fun l => absurd l (by omega)⟩
          | i + 2, q => simp at q⟩
        rw [er]
        by_cases c1 : x > 2
        · rw [if_pos c1]
          have yu : y = u := by unfold nx at *; omega
          refine ⟨.inl yu, fun k hk => ?_, .inl ?_⟩
          · have : k = 0 := by simpa using hk
            subst this
            exact ⟨0, y, rfl, by simp, fun z => F0 yu z⟩
          · intro t ht
            have : t ∈ [y, y] := ht
            simpa using this
        · rw [if_neg c1]
          by_cases c2 : y > 2 ∨ x = nx y
          · rw [if_pos c2]
            have xu : x = nx u := by
              rcases cs with z | z
              · exact z
              · rcases c2 with w | w
                · unfold V3 at hu; omega
                · rw [w, z]
            refine ⟨.inr xu, fun k hk => ?_, .inl ?_⟩
            · have : k = 0 := by simpa using hk
              subst this
              exact ⟨1, x, rfl, by simp, fun z => F1 xu z⟩
            · intro t ht
              have : t ∈ [x, x] := ht
              simpa using this
          · rw [if_neg c2]
            have c3 : y ≤ 2 ∧ x ≠ nx y := ⟨by omega, fun z => c2 (.inr z)⟩
            have ex : x = nx (nx y) := by unfold nx at *; omega
            refine ⟨?_, fun k hk => absurd hk (by simp), .inr ?_⟩
            · show nx y = u ∨ nx y = nx u
              rcases cs with z | z
              · exact .inl (by unfold nx V3 at *; omega)
              · exact .inr (by rw [z])
            · show [x, y] = [nx (nx y), nx (nx (nx y))]
              have : nx (nx (nx y)) = y := by unfold nx; omega
              rw [this, ← ex]
end K40

set_option Elab.async false
set_option linter.all false
set_option maxRecDepth 100000
set_option maxHeartbeats 0
namespace K40
open PySem PySem.Spec En
local macro_rules | `(tactic| walk_at "o") => `(tactic| simp only [wSs, wS, En.wE, wEs, wT, wG, wGs, wO, wC, wW, startE, List.map_cons, List.map_nil, List.length_cons, List.length_nil, List.cons_append, List.nil_append, List.append_nil, Nat.reduceAdd, Nat.reduceSub, Nat.sub_self, Nat.zero_add, List.replicate, List.getElem?_cons_zero, List.getElem?_cons_succ, List.set_cons_zero, List.set_cons_succ, true_and, and_true, wR_eq, wR_exc, tru_bl, tru_int, tru_non, PoD, Blt.g, Bop.g, cmp_int, add_int, sub_int, addI_int, subI_int, neg_int, int_int, abs_int, eq_int, eq_bl, is_bl, Bool.true_eq_false, Bool.false_eq_true, false_implies, forall_const, true_implies, Bool.not_true, Bool.not_false, Bool.not_eq_true', Bool.not_eq_false', decide_eq_true_eq, decide_eq_false_iff_not, D.bl.injEq, exists_eq_left', Bool.if_true_left, reduceIte])
local macro_rules | `(tactic| walk_at "w") => `(tactic| repeat (first | (with_reducible refine Step.go ?_) | ((with_reducible refine' a_mt ?mth ?mtq); (case mth => assumption)) | ((with_reducible refine g_tup ?_ ?_); exact rfl) | ((with_reducible refine g_tupL ?_ ?_); exact rfl) | ((with_reducible refine r_mod ?_ ?_); (first | decide | assumption | omega)) | ((with_reducible refine r_div ?_ ?_); (first | decide | assumption | omega)) | ((with_reducible refine r_mul ?_ ?_); (first | decide | assumption | omega)) | ((with_reducible refine r_mulI ?_ ?_); (first | decide | assumption | omega)) | ((with_reducible refine r_pow ?_ ?_); (first | decide | assumption | omega)) | ((with_reducible refine r_tup ?_ ?_); exact Nat.le_of_ble_eq_true rfl) | ((with_reducible refine r_frz ?_ ?_); exact Nat.le_of_ble_eq_true rfl) | ((with_reducible refine r_new ?_ ?_); exact Nat.le_of_ble_eq_true rfl) | ((with_reducible refine r_r1 ?_ ?_); (first | decide | assumption | omega)) | ((with_reducible refine r_r3 ?_ ?_); (first | assumption | (unfold En.R3; omega))) | ((with_reducible refine r_l3 ?_ ?_); (first | assumption | (unfold En.R3; omega))) | ((with_reducible refine r_ln3 ?_ ?_); (first | assumption | (unfold En.R3; omega))) | ((with_reducible refine r_lenR ?_ ?_); (first | assumption | (unfold En.R3; omega))) | ((with_reducible refine r_r2 ?_ ?_); (first | decide | assumption | omega)) | ((with_reducible refine r_rl1 ?_ ?_); (first | decide | assumption | omega)) | ((with_reducible refine r_rl2 ?_ ?_); (first | decide | assumption | omega)) | ((with_reducible refine r_rn1 ?_ ?_); (first | decide | assumption | omega)) | ((with_reducible refine r_rn2 ?_ ?_); (first | decide | assumption | omega)) | ((with_reducible refine a_len ?_ ?_); exact rfl) | ((with_reducible refine i_dt ?_ ?_); (first | decide | assumption | exact rfl)) | ((with_reducible refine i_df ?_ ?_); (first | decide | assumption)) | ((with_reducible refine i_ndt ?_ ?_); (first | decide | assumption | exact rfl)) | ((with_reducible refine i_ndf ?_ ?_); (first | decide | assumption))))
local macro_rules | `(tactic| walk_at "i") => `(tactic| (refine s_ife ?_; walk_at "w"))
abbrev TAKEC : Int := 104395301
theorem is_integer_eq {k : Nat} {M : Mem} {v : D} (h : Kn M v) : callI tbl (subOf subs) (k + 1) "is_integer" [v] M = .ok (.bl (isI v)) M := by
  refine eq_of_w (def_w (n := 1) (b := b_is_integer) rfl ?_)
  unfold b_is_integer
  walk_at "o"
  rw [isi_int h]
  walk_at "o"
  rw [isi_bool h]
  walk_at "o"
  cases v <;> simp [isI, isB]
theorem is_between_eq {k : Nat} {M : Mem} {v : D} {a b : Int} (h : Kn M v) : callI tbl (subOf subs) (k + 2) "is_between" [v, .int a, .int b] M = .ok (.bl (btw v a b)) M := by
  refine eq_of_w (def_w (n := 3) (b := b_is_between) rfl ?_)
  unfold b_is_between
  walk_at "o"
  rw [is_integer_eq h]
  walk_at "o"
  cases v with
  | int i =>
    walk_at "o"
    simp only [isI, btw, true_implies, Bool.true_eq_false, false_implies, and_true, wR_eq, cmp_int]
    by_cases h1 : a ≤ i <;> by_cases h2 : i ≤ b <;> simp [h1, h2]
  | _ => simp [isI, btw]
theorem cell_w {k : Nat} {M : Mem} {ns : List Int} {i : Int} (hi : 0 ≤ i ∧ i ≤ 1000) (hl : ns.length ≤ 63) {Q : D → Mem → Prop} {X : Xp} (hq : ∀ z, Q (.int z) M) : wR (callI tbl (subOf subs) (k + 1) "_law_cell" [.scr (ns.map D.int), .int i] M) Q X := by
  refine def_w (n := 2) (b := b__law_cell) rfl ?_
  unfold b__law_cell
  walk_at "o"
  rw [len_scr]
  walk_at "o"
  refine ⟨fun h => ?_, fun h => ?_⟩
  · rw [List.length_map] at h
    rw [ix_seq (xs := ns.map D.int) rfl (at_nat (d := .int (ns[i.toNat]'(by omega))) hi.1 (by rw [List.getElem?_map, List.getElem?_eq_getElem (by omega)]; rfl))]
    exact hq _
  · rw [mul_int (a := 20) (b := 20) (by decide) (by omega) (by omega) (by omega) (by omega)]
    walk_at "o"
    refine ⟨1, rfl, ?_⟩
    rw [sl_scr]
    walk_at "o"
    have e : cutD (ns.map D.int) none (some 1) = (ns.take 1).map D.int := by
      cases ns with
      | nil => rfl
      | cons a r => exact cut1 a r
    rw [e, sum_ints]
    walk_at "o"
    rw [mod_int (by omega)]
    walk_at "o"
    exact hq _
theorem box_w {k : Nat} {M : Mem} {z : Int} {Q : D → Mem → Prop} {X : Xp} (hq : ∀ c, Box (M ++ [some c]) M.length 0 → Q (.loc M.length) (M ++ [some c])) : wR (callI tbl (subOf subs) (k + 1) "_law_box" [.int z] M) Q X := by
  refine def_w (n := 1) (b := b__law_box) rfl ?_
  generalize callI tbl (subOf subs) k = C0
  unfold b__law_box
  walk_at "o"
  rw [pow_int (by decide)]
  walk_at "o"
  rw [mod_int (by decide)]
  walk_at "o"
  rw [lst_new (by simp only [List.length_cons, List.length_nil]; omega)]
  walk_at "o"
  refine hq _ ⟨_, _, _, _, lst_last, ?_, Int.emod_nonneg _ (by omega), Int.emod_lt_of_pos _ (by omega), Int.le_refl _, Int.le_refl _⟩
  split <;> omega
theorem take_w {k : Nat} {M : Mem} {n : Nat} {c m : Int} (hb : Box M n c) (hc : c ≤ 1000000000) (hm : 0 < m ∧ m ≤ 1000000) {Q : D → Mem → Prop} {X : Xp} (hq : ∀ i M', 0 ≤ i → i < m → Box M' n (c + 1) → Ex1 n M M' → Q (.int i) M') : wR (callI tbl (subOf subs) (k + 1) "_law_take" [.loc n, .int m] M) Q X := by
  obtain ⟨g, b, l, t, hl, g0, l0, l1, t0, t1⟩ := hb
  have ix : ∀ {i : Int} {d : D}, L2.atI [.int g, .bl b, .int l, .int t] i = some d → gIx (.loc n) (.int i) M = .ok d M := fun e => ix_seq (show rdSeq M (.loc n) = _ from hl) e
  refine def_e (n := 4) (b := b__law_take) [some (.loc n), some (.int m), none, none] rfl rfl ?_
  generalize callI tbl (subOf subs) k = C0
  unfold b__law_take
  walk_at "o"
  rw [ix (i := 1) (d := .bl b) rfl]
  walk_at "o"
  have boxed : ∀ {M' : Mem} {g' t' : Int}, lstAt M' n = some [.int g', .bl b, .int l, .int t'] → 0 ≤ g' → 0 ≤ t' → t' ≤ c + 1 → Box M' n (c + 1) := fun h1 h2 h3 h4 => ⟨_, _, _, _, h1, h2, l0, l1, h3, h4⟩
  have ix1 : ∀ {M' : Mem} {xs : List D} {i : Int} {d : D}, lstAt M' n = some xs → L2.atI xs i = some d → gIx (.loc n) (.int i) M' = .ok d M' := fun h e => ix_seq (show rdSeq _ (.loc n) = _ from h) e
  refine ⟨fun hbt => ?_, fun hbf => ?_⟩
  · rw [ix (i := 0) (d := .int g) rfl]
    walk_at "o"
    refine ⟨fun hg => ?_, fun hg => ?_⟩
    · rw [ix (i := 0) (d := .int g) rfl]
      walk_at "o"
      rw [mod_int hm.1]
      walk_at "o"
      rw [ix (i := 0) (d := .int g) rfl]
      walk_at "o"
      rw [div_int hm.1 (Nat.lt_trans (show m.natAbs < 2 ^ 20 by omega) (by decide))]
      walk_at "o"
      refine ⟨_, put_loc hl (j := 0) rfl, ?_⟩
      exact hq _ _ (Int.emod_nonneg _ (by omega)) (Int.emod_lt_of_pos _ hm.1) (boxed (lst_set hl) (Int.ediv_nonneg (by omega) (by omega)) t0 (by omega)) .set
    · rw [ix (i := 3) (d := .int t) rfl]
      walk_at "o"
      refine ⟨_, put_loc hl (j := 3) rfl, ?_⟩
      have hl1 : lstAt (M.set n (some (.lst ([.int g, .bl b, .int l, .int t].set 3 (.int (t + 1)))))) n = some [.int g, .bl b, .int l, .int (t + 1)] := lst_set hl
      have ex : Ex1 n M (M.set n (some (.lst ([.int g, .bl b, .int l, .int t].set 3 (.int (t + 1)))))) := .set
      revert hl1 ex
      generalize M.set n (some (.lst ([.int g, .bl b, .int l, .int t].set 3 (.int (t + 1))))) = M1
      intro hl1 ex
      rw [ix1 (i := 2) (d := .int l) hl1 rfl]
      walk_at "o"
      rw [ix1 (i := 3) (d := .int (t + 1)) hl1 rfl]
      walk_at "o"
      rw [mul_int (a := 40) (b := 40) (by decide) (by omega) (by omega) (by omega) (by omega)]
      walk_at "o"
      rw [pow_int ⟨by decide, by decide, by omega⟩]
      walk_at "o"
      rw [mod_int (by decide)]
      walk_at "o"
      have mx := Int.emod_nonneg ((l + TAKEC * (t + 1) + 179424673) ^ Int.toNat 5) (show (2147483647 : Int) ≠ 0 by decide)
      have mx2 := Int.emod_lt_of_pos ((l + TAKEC * (t + 1) + 179424673) ^ Int.toNat 5) (show (0 : Int) < 2147483647 by decide)
      revert mx mx2
      generalize (l + TAKEC * (t + 1) + 179424673) ^ Int.toNat 5 % 2147483647 = mixed
      intro mx mx2
      rw [mul_int (a := 40) (b := 40) (by omega) (by decide) (by omega) (by omega) (by omega)]
      walk_at "o"
      rw [ix1 (i := 3) (d := .int (t + 1)) hl1 rfl]
      walk_at "o"
      rw [mul_int (a := 40) (b := 40) (by decide) (by omega) (by omega) (by omega) (by omega)]
      walk_at "o"
      rw [pow_int ⟨by decide, by decide, by omega⟩]
      walk_at "o"
      rw [mod_int (by decide)]
      walk_at "o"
      rw [div_int (by decide) (by decide)]
      walk_at "o"
      rw [mod_int hm.1]
      walk_at "o"
      exact hq _ _ (Int.emod_nonneg _ (by omega)) (Int.emod_lt_of_pos _ hm.1) (boxed hl1 g0 (by omega) (by omega)) ex
  · rw [ix (i := 3) (d := .int t) rfl]
    walk_at "o"
    refine ⟨_, put_loc hl (j := 3) rfl, ?_⟩
    have hl1 : lstAt (M.set n (some (.lst ([.int g, .bl b, .int l, .int t].set 3 (.int (t + 1)))))) n = some [.int g, .bl b, .int l, .int (t + 1)] := lst_set hl
    have ex : Ex1 n M (M.set n (some (.lst ([.int g, .bl b, .int l, .int t].set 3 (.int (t + 1)))))) := .set
    revert hl1 ex
    generalize M.set n (some (.lst ([.int g, .bl b, .int l, .int t].set 3 (.int (t + 1))))) = M1
    intro hl1 ex
    rw [ix1 (i := 2) (d := .int l) hl1 rfl]
    walk_at "o"
    rw [ix1 (i := 3) (d := .int (t + 1)) hl1 rfl]
    walk_at "o"
    rw [mul_int (a := 40) (b := 40) (by decide) (by omega) (by omega) (by omega) (by omega)]
    walk_at "o"
    rw [pow_int ⟨by decide, by decide, by omega⟩]
    walk_at "o"
    rw [mod_int (by decide)]
    walk_at "o"
    have mx := Int.emod_nonneg ((l + TAKEC * (t + 1) + 179424673) ^ Int.toNat 5) (show (2147483647 : Int) ≠ 0 by decide)
    have mx2 := Int.emod_lt_of_pos ((l + TAKEC * (t + 1) + 179424673) ^ Int.toNat 5) (show (0 : Int) < 2147483647 by decide)
    revert mx mx2
    generalize (l + TAKEC * (t + 1) + 179424673) ^ Int.toNat 5 % 2147483647 = mixed
    intro mx mx2
    rw [mul_int (a := 40) (b := 40) (by omega) (by decide) (by omega) (by omega) (by omega)]
    walk_at "o"
    rw [ix1 (i := 3) (d := .int (t + 1)) hl1 rfl]
    walk_at "o"
    rw [mul_int (a := 40) (b := 40) (by decide) (by omega) (by omega) (by omega) (by omega)]
    walk_at "o"
    rw [pow_int ⟨by decide, by decide, by omega⟩]
    walk_at "o"
    rw [mod_int (by decide)]
    walk_at "o"
    rw [div_int (by decide) (by decide)]
    walk_at "o"
    rw [mod_int hm.1]
    walk_at "o"
    exact hq _ _ (Int.emod_nonneg _ (by omega)) (Int.emod_lt_of_pos _ hm.1) (boxed hl1 g0 (by omega) (by omega)) ex
end K40

set_option Elab.async false
set_option linter.all false
set_option maxRecDepth 100000
set_option maxHeartbeats 0
namespace K40
open PySem PySem.Spec En
local macro_rules | `(tactic| walk_at "w") => `(tactic| repeat (first | (with_reducible refine Step.go ?_) | ((with_reducible refine' a_mt ?mth ?mtq); (case mth => assumption)) | ((with_reducible refine g_tup ?_ ?_); exact rfl) | ((with_reducible refine g_tupL ?_ ?_); exact rfl) | ((with_reducible refine r_mod ?_ ?_); (first | decide | assumption | omega)) | ((with_reducible refine r_div ?_ ?_); (first | decide | assumption | omega)) | ((with_reducible refine r_mul ?_ ?_); (first | decide | assumption | omega)) | ((with_reducible refine r_mulI ?_ ?_); (first | decide | assumption | omega)) | ((with_reducible refine r_pow ?_ ?_); (first | decide | assumption | omega)) | ((with_reducible refine r_tup ?_ ?_); exact Nat.le_of_ble_eq_true rfl) | ((with_reducible refine r_frz ?_ ?_); exact Nat.le_of_ble_eq_true rfl) | ((with_reducible refine r_new ?_ ?_); exact Nat.le_of_ble_eq_true rfl) | ((with_reducible refine r_r1 ?_ ?_); (first | decide | assumption | omega)) | ((with_reducible refine r_r3 ?_ ?_); (first | assumption | (unfold En.R3; omega))) | ((with_reducible refine r_l3 ?_ ?_); (first | assumption | (unfold En.R3; omega))) | ((with_reducible refine r_ln3 ?_ ?_); (first | assumption | (unfold En.R3; omega))) | ((with_reducible refine r_lenR ?_ ?_); (first | assumption | (unfold En.R3; omega))) | ((with_reducible refine r_r2 ?_ ?_); (first | decide | assumption | omega)) | ((with_reducible refine r_rl1 ?_ ?_); (first | decide | assumption | omega)) | ((with_reducible refine r_rl2 ?_ ?_); (first | decide | assumption | omega)) | ((with_reducible refine r_rn1 ?_ ?_); (first | decide | assumption | omega)) | ((with_reducible refine r_rn2 ?_ ?_); (first | decide | assumption | omega)) | ((with_reducible refine a_len ?_ ?_); exact rfl) | ((with_reducible refine i_dt ?_ ?_); (first | decide | assumption | exact rfl)) | ((with_reducible refine i_df ?_ ?_); (first | decide | assumption)) | ((with_reducible refine i_ndt ?_ ?_); (first | decide | assumption | exact rfl)) | ((with_reducible refine i_ndf ?_ ?_); (first | decide | assumption))))
local macro_rules | `(tactic| walk_at "i") => `(tactic| (refine s_ife ?_; walk_at "w"))
/-- a row that is handed -/
def Vw (v : D) (vs : List Int) : Prop := v = .tup (vs.map D.int) ∨ v = .lst (vs.map D.int)
def Ct (vs : List Int) : Prop := ∀ x ∈ vs, 0 ≤ x ∧ x ≤ 996
theorem vget {vs : List Int} {i : Nat} {x : Int} (h : vs[i]? = some x) : (vs.map D.int)[i]? = some (.int x) := by rw [List.getElem?_map, h]; rfl
theorem enum_mem {d : D} : ∀ {vs : List Int} {o : Nat}, d ∈ enumD o (vs.map D.int) → ∃ i x : Int, d = .tup [.int i, .int x]
  | [], o, h => by cases h
  | a :: r, o, h => by
    rcases List.mem_cons.mp h with rfl | h
    · exact ⟨_, _, rfl⟩
    · exact enum_mem h
def kNe (val : Int) : D → Bool
  | .tup [.int _, .int x] => !decide (x = val)
  | _ => false
def vPt (val : Int) : D → D
  | .tup [.int i, .int _] => .tup [.int i, .int val]
  | d => d
theorem enum_wr (val : Int) : ∀ (vs : List Int) (o : Nat), ((enumD o (vs.map D.int)).filter (kNe val)).map (vPt val) = (wrF o val vs).map pD
  | [], _ => rfl
  | a :: r, o => by
    have ih := enum_wr val r (o + 1)
    show ((D.tup [.int (o : Nat), .int a] :: enumD (o + 1) (r.map D.int)).filter (kNe val)).map (vPt val) = _
    unfold wrF
    by_cases h : a = val
    · rw [List.filter_cons_of_neg (by simp [kNe, h]), if_pos h]; exact ih
    · rw [List.filter_cons_of_pos (by simp [kNe, h]), if_neg h, List.map_cons, List.map_cons, ih]; rfl
theorem enum_len : ∀ (o : Nat) (xs : List D), (enumD o xs).length = xs.length
  | _, [] => rfl
  | o, x :: r => by simp [enumD, enum_len (o + 1) r]
section
variable {k : Nat} {M : Mem} {Q : D → Mem → Prop} {X : Xp}
theorem enumT_w {xs : List D} {QW : Wd → Mem → Prop} (q : QW ⟨none, enumD 0 xs⟩ M) : wR (gEnum [.tup xs] M) QW X := q
theorem enumL_w {xs : List D} {QW : Wd → Mem → Prop} (q : QW ⟨none, enumD 0 xs⟩ M) : wR (gEnum [.lst xs] M) QW X := q
theorem ktp_w {u : Int} (h : V3 u) (q : Q (.int (nx u)) M) : wR (gIx (.ktp [.int 1, .int 2, .int 0]) (.int u) M) Q X := by
  rcases (show u = 0 ∨ u = 1 ∨ u = 2 by unfold V3 at h; omega) with rfl | rfl | rfl <;> exact q
theorem is_list_w {v : D} {vs : List Int} (hv : Vw v vs) (q : Q (.bl true) M) : wR (callI tbl (subOf subs) (k + 1) "is_list" [v] M) Q X := by
  rcases hv with rfl | rfl <;>
  · refine def_e (n := 1) (b := b_is_list) [some _] rfl rfl ?_
    unfold b_is_list
    walk_at "w"
    exact q
theorem writes_of_w {v : D} {vs : List Int} {val : Int} (hv : Vw v vs) (hl : vs.length ≤ 64) (q : Q (.loc M.length) (M ++ [some (.lst ((wr vs val).map pD))])) : wR (callI tbl (subOf subs) (k + 1) "_writes_of" [v, .int val] M) Q X := by
  rcases hv with rfl | rfl <;>
  · refine def_e (n := 4) (b := b__writes_of) [some _, some (.int val), none, none] rfl rfl ?_
    unfold b__writes_of
    walk_at "w"
    first | refine enumT_w ?_ | refine enumL_w ?_
    refine lc_flt trivial (by rw [enum_len, List.length_map]; omega) (kNe val) (vPt val) (fun d hd => ?_) ?_
    · obtain ⟨i, x, rfl⟩ := enum_mem hd
      refine ⟨_, rfl, ?_⟩
      walk_at "w"
      refine ⟨rfl, rfl, fun _ => ?_⟩
      walk_at "w"
      exact ⟨rfl, rfl⟩
    · show wR (fin true (((enumD 0 (vs.map D.int)).filter (kNe val)).map (vPt val)) M) _ _
      rw [enum_wr]
      walk_at "w"
      exact q
theorem can_be_left_from_w {v : D} {vs : List Int} {u : Int} (hv : Vw v vs) (hl : vs.length ≤ 64) (hu : V3 u) (q : Q (.bl (fmB u vs)) M) : wR (callI tbl (subOf subs) (k + 1) "_can_be_left_from" [v, .int u] M) Q X := by
  have all2 : ∀ {t : Nat}, Pre (nx u) vs t → Stop (nx u) vs t → ((vs.drop (t + 1)).map fun x => decide (x = u)).all id = fmB u vs := fun {t} h s => by
    have e := can_iff h s
    rw [← fmB_dec e, Bool.eq_iff_iff, decide_eq_true_iff, List.all_map, List.all_eq_true]
    exact ⟨fun z x hx => of_decide_eq_true (z x hx), fun z x hx => decide_eq_true (z x hx)⟩
  rcases hv with hv | hv <;>
  · refine def_e (n := 4) (b := b__can_be_left_from) [some v, some (.int u), none, none] rfl rfl ?_
    unfold b__can_be_left_from
    walk_at "w"
    refine whl_j (fun e M' => M' = M ∧ ∃ t : Nat, e = [some v, some (.int u), some (.int (t : Nat)), none] ∧ Pre (nx u) vs t ∧ Stop (nx u) vs t) ?_ ?_
    · refine whl_k (fun m e M' => M' = M ∧ ∃ t : Nat, e = [some v, some (.int u), some (.int (t : Nat)), none] ∧ Pre (nx u) vs t ∧ m = vs.length - t) _ ⟨rfl, 0, rfl, ⟨Nat.zero_le _, fun i h => absurd h (by omega)⟩, rfl⟩ ?_
      rintro m e M' ⟨rfl, t, rfl, hp, rfl⟩
      subst hv
      walk_at "w"
      rw [List.length_map]
      refine if_w (fun h => ?_) (fun h => ?_)
      · have ht : t < vs.length := by omega
        have ex := List.getElem?_eq_getElem ht
        walk_at "w"
        refine ix_w (xs := vs.map D.int) rfl (by omega) (d := .int vs[t]) (by rw [Int.toNat_natCast]; exact vget ex) ?_
        walk_at "w"
        refine ktp_w hu ?_
        walk_at "w"
        refine if_w (fun h2 => ?_) (fun h2 => ?_)
        · walk_at "w"
          refine ⟨_, ?_, rfl, t + 1, by push_cast; rfl, ⟨by omega, fun i hi => ?_⟩, rfl⟩
          · omega
          · rcases Nat.lt_succ_iff_lt_or_eq.mp hi with z | z
            · exact hp.2 i z
            · rw [z, ex, h2]
        · walk_at "w"
          exact ⟨rfl, t, rfl, hp, .inr ⟨_, ex, h2⟩⟩
      · walk_at "w"
        exact ⟨rfl, t, rfl, hp, .inl (by have := hp.1; omega)⟩
    · rintro e M' ⟨rfl, t, rfl, hp, hs⟩
      subst hv
      walk_at "w"
      rw [cut_hi (by omega), show ((t : Int) + 1).toNat = t + 1 by omega, ← List.map_drop]
      walk_at "w"
      refine lc_map trivial (by rw [List.length_map, List.length_drop]; omega) (fun d => match d with | .int x => .bl (decide (x = u)) | d => d) (fun d hd => ?_) ?_
      · obtain ⟨x, hx, rfl⟩ := List.mem_map.mp hd
        refine ⟨_, rfl, ?_⟩
        walk_at "w"
        exact ⟨rfl, rfl⟩
      · show wR (fin false (((vs.drop (t + 1)).map D.int).map _) M') _ _
        walk_at "w"
        rw [List.map_map, show ((fun d => match d with | D.int x => D.bl (decide (x = u)) | d => d) ∘ D.int) = (D.bl ∘ fun x => decide (x = u)) from rfl, ← List.map_map]
        refine all_w ?_
        rw [all2 hp hs]
        walk_at "w"
        exact q
end
end K40

set_option Elab.async false
set_option linter.all false
set_option maxRecDepth 100000
set_option maxHeartbeats 0
namespace K40
open PySem PySem.Spec En
local macro_rules | `(tactic| walk_at "w") => `(tactic| repeat (first | (with_reducible refine Step.go ?_) | ((with_reducible refine' a_mt ?mth ?mtq); (case mth => assumption)) | ((with_reducible refine g_tup ?_ ?_); exact rfl) | ((with_reducible refine g_tupL ?_ ?_); exact rfl) | ((with_reducible refine r_mod ?_ ?_); (first | decide | assumption | omega)) | ((with_reducible refine r_div ?_ ?_); (first | decide | assumption | omega)) | ((with_reducible refine r_mul ?_ ?_); (first | decide | assumption | omega)) | ((with_reducible refine r_mulI ?_ ?_); (first | decide | assumption | omega)) | ((with_reducible refine r_pow ?_ ?_); (first | decide | assumption | omega)) | ((with_reducible refine r_tup ?_ ?_); exact Nat.le_of_ble_eq_true rfl) | ((with_reducible refine r_frz ?_ ?_); exact Nat.le_of_ble_eq_true rfl) | ((with_reducible refine r_new ?_ ?_); exact Nat.le_of_ble_eq_true rfl) | ((with_reducible refine r_r1 ?_ ?_); (first | decide | assumption | omega)) | ((with_reducible refine r_r3 ?_ ?_); (first | assumption | (unfold En.R3; omega))) | ((with_reducible refine r_l3 ?_ ?_); (first | assumption | (unfold En.R3; omega))) | ((with_reducible refine r_ln3 ?_ ?_); (first | assumption | (unfold En.R3; omega))) | ((with_reducible refine r_lenR ?_ ?_); (first | assumption | (unfold En.R3; omega))) | ((with_reducible refine r_r2 ?_ ?_); (first | decide | assumption | omega)) | ((with_reducible refine r_rl1 ?_ ?_); (first | decide | assumption | omega)) | ((with_reducible refine r_rl2 ?_ ?_); (first | decide | assumption | omega)) | ((with_reducible refine r_rn1 ?_ ?_); (first | decide | assumption | omega)) | ((with_reducible refine r_rn2 ?_ ?_); (first | decide | assumption | omega)) | ((with_reducible refine a_len ?_ ?_); exact rfl) | ((with_reducible refine i_dt ?_ ?_); (first | decide | assumption | exact rfl)) | ((with_reducible refine i_df ?_ ?_); (first | decide | assumption)) | ((with_reducible refine i_ndt ?_ ?_); (first | decide | assumption | exact rfl)) | ((with_reducible refine i_ndf ?_ ?_); (first | decide | assumption))))
local macro_rules | `(tactic| walk_at "i") => `(tactic| (refine s_ife ?_; walk_at "w"))
/-- the values with the form -/
noncomputable def kf (vs : List Int) : D → Bool
  | .int u => fmB u vs
  | _ => false
noncomputable def lfD (vs : List Int) : List D := ([.int 0, .int 1, .int 2] : List D).filter (kf vs)
theorem fmB_f {u : Int} {vs : List Int} (h : ¬ Fm u vs) : fmB u vs = false := by
  cases q : fmB u vs with
  | false => rfl
  | true => exact absurd (fmB_iff.mp q) h
open Classical in
/-- the first of them is told by the next value -/
theorem lfD_at {u : Int} {vs : List Int} (hu : V3 u) (h : Fm u vs) : ∃ (w : Int) (r : List D), lfD vs = .int w :: r ∧ V3 w ∧ nx w = fst3 vs := by
  unfold lfD fst3
  by_cases f0 : Fm 0 vs
  · rw [if_pos f0, List.filter_cons_of_pos (by exact fmB_t f0)]
    exact ⟨0, _, rfl, by unfold V3; omega, rfl⟩
  · rw [if_neg f0, List.filter_cons_of_neg (by rw [show kf vs (.int 0) = fmB 0 vs from rfl, fmB_f f0]; decide)]
    by_cases f1 : Fm 1 vs
    · rw [if_pos f1, List.filter_cons_of_pos (by exact fmB_t f1)]
      exact ⟨1, _, rfl, by unfold V3; omega, rfl⟩
    · rw [if_neg f1, List.filter_cons_of_neg (by rw [show kf vs (.int 1) = fmB 1 vs from rfl, fmB_f f1]; decide)]
      have f2 : Fm 2 vs := by
        have : u = 2 := by
          have a0 : u ≠ 0 := fun z => f0 (z ▸ h)
          have a1 : u ≠ 1 := fun z => f1 (z ▸ h)
          unfold V3 at hu; omega
        exact this ▸ h
      rw [List.filter_cons_of_pos (by exact fmB_t f2)]
      exact ⟨2, _, rfl, by unfold V3; omega, rfl⟩
section
variable {k : Nat} {M : Mem} {Q : D → Mem → Prop} {X : Xp}
theorem left_from_w {v : D} {vs : List Int} (hv : Vw v vs) (hl : vs.length ≤ 64) (q : Q (.lst (lfD vs)) M) : wR (callI tbl (subOf subs) (k + 2) "_left_from" [v] M) Q X := by
  refine def_e (n := 2) (b := b__left_from) [some v, none] rfl rfl ?_
  unfold b__left_from
  walk_at "w"
  refine lc_flt trivial (by decide) (kf vs) (fun d => d) (fun d hd => ?_) ?_
  · have hd' : ∃ u : Int, V3 u ∧ d = .int u := by
      simp only [List.mem_cons, List.not_mem_nil, or_false] at hd
      rcases hd with rfl | rfl | rfl <;> exact ⟨_, by unfold V3; omega, rfl⟩
    obtain ⟨u, hu, rfl⟩ := hd'
    refine ⟨[some v, some (.int u)], rfl, ?_⟩
    walk_at "w"
    refine can_be_left_from_w (k := k) hv hl hu ?_
    walk_at "w"
    refine ⟨rfl, rfl, fun _ => ?_⟩
    walk_at "w"
    exact ⟨rfl, rfl⟩
  · rw [List.map_id']
    walk_at "w"
    exact q
theorem ask_view_w {v : D} {vs : List Int} (hv : Vw v vs) (hl : 1 ≤ vs.length ∧ vs.length ≤ 64) (hc : Ct vs) (q : Q .non M) : wR (callI tbl (subOf subs) (k + 3) "_ask_view" [v] M) Q X := by
  have all1 : (vs.map fun x => btw (.int x) 0 996).all id = true := by
    rw [List.all_eq_true]
    intro b hb
    obtain ⟨x, hx, rfl⟩ := List.mem_map.mp hb
    have := hc x hx
    simp [btw]; omega
  have hv' := hv
  rcases hv with rfl | rfl <;>
  · refine def_e (n := 2) (b := b__ask_view) [some _, none] rfl rfl ?_
    unfold b__ask_view
    walk_at "w"
    refine s_ife ?_
    walk_at "w"
    refine is_list_w (k := k + 1) hv' ?_
    walk_at "w"
    try rw [List.length_map]
    refine if_w (fun _ => ?_) fun h => absurd (by omega) h
    walk_at "w"
    try rw [List.length_map]
    refine ifn_w (fun h => absurd (by omega) h) fun _ => ?_
    walk_at "w"
    refine s_ife ?_
    walk_at "w"
    refine lc_map trivial (by rw [List.length_map]; omega) (fun d => .bl (btw d 0 996)) (fun d hd => ?_) ?_
    · obtain ⟨x, hx, rfl⟩ := List.mem_map.mp hd
      refine ⟨[some _, some (.int x)], rfl, ?_⟩
      walk_at "w"
      rw [show (997 : Int) - 1 = 996 by rfl, is_between_eq (k := k) kn_int]
      walk_at "w"
      exact ⟨rfl, rfl⟩
    · show wR (fin false ((vs.map D.int).map _) M) _ _
      walk_at "w"
      rw [List.map_map, show ((fun d => D.bl (btw d 0 996)) ∘ D.int) = (D.bl ∘ fun x => btw (.int x) 0 996) from rfl, ← List.map_map]
      refine all_w ?_
      rw [all1]
      walk_at "w"
      exact q
theorem can_be_left_w {v : D} {vs : List Int} {u : Int} (hv : Vw v vs) (hl : 2 ≤ vs.length ∧ vs.length ≤ 64) (hc : Ct vs) (hu : V3 u) (hf : Fm u vs) (q : Q (.bl true) M) : wR (callI tbl (subOf subs) (k + 4) "three_can_be_left" [v] M) Q X := by
  obtain ⟨w, r, e, _, _⟩ := lfD_at hu hf
  have hv' := hv
  rcases hv with rfl | rfl <;>
  · refine def_e (n := 1) (b := b_three_can_be_left) [some _] rfl rfl ?_
    unfold b_three_can_be_left
    walk_at "w"
    refine ask_view_w (k := k) hv' ⟨by omega, hl.2⟩ hc ?_
    walk_at "w"
    refine s_ife ?_
    walk_at "w"
    try rw [List.length_map]
    refine if_w (fun h => absurd h (by omega)) fun _ => ?_
    walk_at "w"
    refine left_from_w (k := k + 1) hv' hl.2 ?_
    walk_at "w"
    rw [e, decide_eq_true (by rw [List.length_cons]; omega)]
    exact q
theorem three_of_two_w {x y : Int} (h0 : 0 ≤ x) (h1 : 0 ≤ y) (hx : x > 2 → y ≤ 2) (q : Q (.tup [.int (if x > 2 then y else if y > 2 ∨ x = nx y then x else nx y), .loc M.length]) (M ++ [some (.lst ((if x > 2 then [(0, y)] else if y > 2 ∨ x = nx y then [(1, x)] else []).map pD))])) : wR (callI tbl (subOf subs) (k + 1) "_three_of_two" [.int x, .int y] M) Q X := by
  refine def_e (n := 2) (b := b__three_of_two) [some (.int x), some (.int y)] rfl rfl ?_
  unfold b__three_of_two
  walk_at "w"
  refine s_ife ?_
  walk_at "w"
  refine if_w (fun h => ?_) fun h => ?_
  · rw [if_pos (show x > 2 from h), if_pos (show x > 2 from h)] at q
    walk_at "w"
    exact q
  · rw [if_neg (show ¬ x > 2 from h), if_neg (show ¬ x > 2 from h)] at q
    walk_at "w"
    refine s_ife ?_
    walk_at "w"
    refine if_w (fun h2 => ?_) fun h2 => ?_
    · rw [if_pos (.inl h2), if_pos (.inl h2)] at q
      walk_at "w"
      exact q
    · walk_at "w"
      refine ktp_w (show V3 y from ⟨h1, by omega⟩) ?_
      walk_at "w"
      refine if_w (fun h3 => ?_) fun h3 => ?_
      · rw [if_pos (.inr h3), if_pos (.inr h3)] at q
        walk_at "w"
        exact q
      · have no : ¬ (y > 2 ∨ x = nx y) := fun z => z.elim h2 h3
        rw [if_neg no, if_neg no] at q
        walk_at "w"
        refine ktp_w (show V3 y from ⟨h1, by omega⟩) ?_
        walk_at "w"
        exact q
theorem uni_b {vs : List Int} {w : Int} : (vs.map fun x => decide (x = w)).all id = true ↔ Uni vs w := by
  unfold Uni
  simp
open Classical in
theorem three_w {v : D} {vs : List Int} {u : Int} (hv : Vw v vs) (hl : 2 ≤ vs.length ∧ vs.length ≤ 64) (hc : Ct vs) (hu : V3 u) (hf : Fm u vs) (q : Q (.tup [.int (rd vs).1, .loc M.length]) (M ++ [some (.lst ((rd vs).2.map pD))])) : wR (callI tbl (subOf subs) (k + 5) "_three" [v] M) Q X := by
  obtain ⟨w, r, e, hw, ew⟩ := lfD_at hu hf
  have hv' := hv
  obtain ⟨x, y, t, evs⟩ : ∃ x y t, vs = x :: y :: t := by
    match vs, hl with
    | x :: y :: t, _ => exact ⟨x, y, t, rfl⟩
    | [_], h => simp at h
    | [], h => simp at h
  have e0 : vs[0]? = some x := by rw [evs]; rfl
  have e1 : vs[1]? = some y := by rw [evs]; rfl
  have hd0 : vs.headD 0 = x := by rw [evs]; rfl
  have gd1 : vs.getD 1 0 = y := by rw [evs]; rfl
  rcases hv with rfl | rfl <;>
  · refine def_e (n := 3) (b := b__three) [some _, none, none] rfl rfl ?_
    unfold b__three
    walk_at "w"
    refine s_ife ?_
    walk_at "w"
    refine can_be_left_w (k := k) hv' hl hc hu hf ?_
    walk_at "w"
    refine s_ife ?_
    walk_at "w"
    refine lc_map trivial (by rw [List.length_map]; omega) (fun d => match d with | .int z => .bl (decide (z = x)) | d => d) (fun d hd => ?_) ?_
    · obtain ⟨z, hz, rfl⟩ := List.mem_map.mp hd
      refine ⟨[some _, some (.int z), none], rfl, ?_⟩
      walk_at "w"
      refine ix_w (xs := vs.map D.int) rfl (by omega) (d := .int x) (vget e0) ?_
      walk_at "w"
      exact ⟨rfl, rfl⟩
    · show wR (fin false ((vs.map D.int).map _) M) _ _
      walk_at "w"
      rw [List.map_map, show ((fun d => match d with | D.int z => D.bl (decide (z = x)) | d => d) ∘ D.int) = (D.bl ∘ fun z => decide (z = x)) from rfl, ← List.map_map]
      refine all_w ?_
      walk_at "w"
      refine ifb_w (fun h => ?_) fun h => ?_
      · have hU : Uni vs (vs.headD 0) := by rw [hd0]; exact uni_b.mp h
        have er : rd vs = (x, []) := by unfold rd; rw [if_pos hU, hd0]
        rw [er] at q
        walk_at "w"
        refine ix_w (xs := vs.map D.int) rfl (by omega) (d := .int x) (vget e0) ?_
        walk_at "w"
        exact q
      · have hU : ¬ Uni vs (vs.headD 0) := fun z => by
          rw [hd0] at z
          rw [uni_b.mpr z] at h; cases h
        walk_at "w"
        refine s_ife ?_
        walk_at "w"
        try rw [List.length_map]
        refine if_w (fun h2 => ?_) fun h2 => ?_
        · have et : t = [] := by
            have : vs.length = 2 := by omega
            rw [evs] at this
            cases t with
            | nil => rfl
            | cons => simp at this
          have er : rd vs = (if x > 2 then (y, [(0, y)]) else if y > 2 ∨ x = nx y then (x, [(1, x)]) else (nx y, [])) := by
            unfold rd; rw [if_neg hU, if_neg (by omega), hd0, gd1]
          rw [er] at q
          walk_at "w"
          refine ix_w (xs := vs.map D.int) rfl (by omega) (d := .int x) (vget e0) ?_
          walk_at "w"
          refine ix_w (xs := vs.map D.int) rfl (by omega) (d := .int y) (vget e1) ?_
          walk_at "w"
          have xc := hc x (by rw [evs]; simp)
          have yc := hc y (by rw [evs]; simp)
          refine three_of_two_w (k := k + 3) xc.1 yc.1 (fun hx => ?_) ?_
          · obtain ⟨a, ka⟩ := hf
            have k0 := ka 0 x e0
            have k1 := ka 1 y e1
            rcases Nat.lt_or_ge 0 a with l | l
            · have := k0.1 l; unfold V3 nx at *; omega
            · have := k1.2 (by omega); unfold V3 at hu; omega
          · walk_at "w"
            by_cases c1 : x > 2
            · rw [if_pos c1, if_pos c1]; rw [if_pos c1] at q; exact q
            · rw [if_neg c1, if_neg c1]; rw [if_neg c1] at q
              by_cases c2 : y > 2 ∨ x = nx y
              · rw [if_pos c2, if_pos c2]; rw [if_pos c2] at q; exact q
              · rw [if_neg c2, if_neg c2]; rw [if_neg c2] at q; exact q
        · have er : rd vs = (fst3 vs, wr vs (fst3 vs)) := by
            unfold rd; rw [if_neg hU, if_pos (by omega)]
          rw [er] at q
          walk_at "w"
          refine left_from_w (k := k + 2) hv' hl.2 ?_
          rw [e]
          walk_at "w"
          refine ktp_w hw ?_
          rw [ew]
          walk_at "w"
          refine writes_of_w (k := k + 3) hv' hl.2 ?_
          walk_at "w"
          exact q
theorem three_told_w {v : D} {vs : List Int} {u : Int} (hv : Vw v vs) (hl : 2 ≤ vs.length ∧ vs.length ≤ 64) (hc : Ct vs) (hu : V3 u) (hf : Fm u vs) (q : Q (.int (rd vs).1) (M ++ [some (.lst ((rd vs).2.map pD))])) : wR (callI tbl (subOf subs) (k + 6) "three_told" [v] M) Q X := by
  refine def_e (n := 3) (b := b_three_told) [some v, none, none] rfl rfl ?_
  unfold b_three_told
  walk_at "w"
  refine three_w (k := k) hv hl hc hu hf ?_
  walk_at "w"
  exact q
theorem three_mending_w {v : D} {vs : List Int} {u : Int} (hv : Vw v vs) (hl : 2 ≤ vs.length ∧ vs.length ≤ 64) (hc : Ct vs) (hu : V3 u) (hf : Fm u vs) (q : Q (.loc M.length) (M ++ [some (.lst ((rd vs).2.map pD))])) : wR (callI tbl (subOf subs) (k + 6) "three_mending" [v] M) Q X := by
  refine def_e (n := 3) (b := b_three_mending) [some v, none, none] rfl rfl ?_
  unfold b_three_mending
  walk_at "w"
  refine three_w (k := k) hv hl hc hu hf ?_
  walk_at "w"
  exact q
end
end K40

set_option Elab.async false
set_option linter.all false
set_option maxRecDepth 100000
set_option maxHeartbeats 0
namespace K40
open PySem PySem.Spec En
local macro_rules | `(tactic| walk_at "w") => `(tactic| repeat (first | (with_reducible refine Step.go ?_) | ((with_reducible refine' a_mt ?mth ?mtq); (case mth => assumption)) | ((with_reducible refine g_tup ?_ ?_); exact rfl) | ((with_reducible refine g_tupL ?_ ?_); exact rfl) | ((with_reducible refine r_mod ?_ ?_); (first | decide | assumption | omega)) | ((with_reducible refine r_div ?_ ?_); (first | decide | assumption | omega)) | ((with_reducible refine r_mul ?_ ?_); (first | decide | assumption | omega)) | ((with_reducible refine r_mulI ?_ ?_); (first | decide | assumption | omega)) | ((with_reducible refine r_pow ?_ ?_); (first | decide | assumption | omega)) | ((with_reducible refine r_tup ?_ ?_); exact Nat.le_of_ble_eq_true rfl) | ((with_reducible refine r_frz ?_ ?_); exact Nat.le_of_ble_eq_true rfl) | ((with_reducible refine r_new ?_ ?_); exact Nat.le_of_ble_eq_true rfl) | ((with_reducible refine r_r1 ?_ ?_); (first | decide | assumption | omega)) | ((with_reducible refine r_r3 ?_ ?_); (first | assumption | (unfold En.R3; omega))) | ((with_reducible refine r_l3 ?_ ?_); (first | assumption | (unfold En.R3; omega))) | ((with_reducible refine r_ln3 ?_ ?_); (first | assumption | (unfold En.R3; omega))) | ((with_reducible refine r_lenR ?_ ?_); (first | assumption | (unfold En.R3; omega))) | ((with_reducible refine r_r2 ?_ ?_); (first | decide | assumption | omega)) | ((with_reducible refine r_rl1 ?_ ?_); (first | decide | assumption | omega)) | ((with_reducible refine r_rl2 ?_ ?_); (first | decide | assumption | omega)) | ((with_reducible refine r_rn1 ?_ ?_); (first | decide | assumption | omega)) | ((with_reducible refine r_rn2 ?_ ?_); (first | decide | assumption | omega)) | ((with_reducible refine a_len ?_ ?_); exact rfl) | ((with_reducible refine i_dt ?_ ?_); (first | decide | assumption | exact rfl)) | ((with_reducible refine i_df ?_ ?_); (first | decide | assumption)) | ((with_reducible refine i_ndt ?_ ?_); (first | decide | assumption | exact rfl)) | ((with_reducible refine i_ndf ?_ ?_); (first | decide | assumption))))
local macro_rules | `(tactic| walk_at "i") => `(tactic| (refine s_ife ?_; walk_at "w"))
/-- what is written for a change -/
def stp (val new : Int) (vs : List Int) : List (Int × Int) := if new = val then [] else if new = nx val then wr vs new else (wr vs new).reverse
/-- the cells that were there are as they were -/
def Keep (M M' : Mem) : Prop := M.length ≤ M'.length ∧ ∀ m, m < M.length → M'[m]? = M[m]?
theorem Keep.refl {M : Mem} : Keep M M := ⟨Nat.le_refl _, fun _ _ => rfl⟩
theorem Keep.new {M : Mem} {c : Option Cell} : Keep M (M ++ [c]) := ⟨by simp, fun m h => List.getElem?_append_left h⟩
theorem Keep.trans {M M1 M2 : Mem} (a : Keep M M1) (b : Keep M1 M2) : Keep M M2 := ⟨Nat.le_trans a.1 b.1, fun m h => (b.2 m (Nat.lt_of_lt_of_le h a.1)).trans (a.2 m h)⟩
theorem Keep.lst {M M' : Mem} {n : Nat} {xs : List D} (a : Keep M M') (h : lstAt M n = some xs) : lstAt M' n = some xs := lst_same h (a.2 n (lst_lt h))
section
variable {k : Nat} {M : Mem} {Q : D → Mem → Prop} {X : Xp}
theorem revL_n {n : Nat} {xs : List D} (h : lstAt M n = some xs) (q : Q (.loc M.length) (M ++ [some (.lst xs.reverse)])) : wR (Blt.g (.revL true) [.loc n] M) Q X := by
  show wR (match rdLst M (.loc n) with | some xs => fin true xs.reverse M | none => .bad) Q X
  rw [show rdLst M (.loc n) = some xs from h]; exact q
theorem revL_f {n : Nat} {xs : List D} (h : lstAt M n = some xs) (q : Q (.lst xs.reverse) M) : wR (Blt.g (.revL false) [.loc n] M) Q X := by
  show wR (match rdLst M (.loc n) with | some xs => fin false xs.reverse M | none => .bad) Q X
  rw [show rdLst M (.loc n) = some xs from h]; exact q
theorem revL_lf {xs : List D} (q : Q (.lst xs.reverse) M) : wR (Blt.g (.revL false) [.lst xs] M) Q X := q
theorem three_steps_w {v : D} {vs : List Int} {val new : Int} (hv : Vw v vs) (hl : 2 ≤ vs.length ∧ vs.length ≤ 64) (hc : Ct vs) (hu : V3 val) (hn : V3 new) (hs : St val vs) (q : ∀ n M', Keep M M' → M.length ≤ n → lstAt M' n = some ((stp val new vs).map pD) → Q (.loc n) M') : wR (callI tbl (subOf subs) (k + 6) "three_steps" [v, .int new] M) Q X := by
  refine def_e (n := 5) (b := b_three_steps) [some v, some (.int new), none, none, none] rfl rfl ?_
  unfold b_three_steps
  walk_at "w"
  refine three_w (k := k) hv hl hc hu (st_fm hs) ?_
  rw [rd_st hu hl.1 hs]
  dsimp only
  have l0 : lstAt (M ++ [some (.lst (([] : List (Int × Int)).map pD))]) M.length = some [] := lst_last
  have k1 : Keep M (M ++ [some (.lst (([] : List (Int × Int)).map pD))]) := .new
  revert l0 k1
  generalize M ++ [some (Cell.lst (([] : List (Int × Int)).map pD))] = M1
  intro l0 k1
  walk_at "w"
  refine s_ife ?_
  walk_at "w"
  refine len_loc l0 ?_
  walk_at "w"
  refine s_ife ?_
  walk_at "w"
  rw [is_between_eq (k := k + 3) kn_int]
  walk_at "w"
  rw [show btw (.int new) 0 2 = true from decide_eq_true hn]
  walk_at "w"
  refine s_ife ?_
  walk_at "w"
  refine if_w (fun h => ?_) fun h => ?_
  · walk_at "w"
    refine q _ _ (k1.trans .new) k1.1 ?_
    unfold stp
    rw [if_pos h]
    exact lst_last
  · walk_at "w"
    refine writes_of_w (k := k + 4) hv hl.2 ?_
    have l2 : lstAt (M1 ++ [some (.lst ((wr vs new).map pD))]) M1.length = some ((wr vs new).map pD) := lst_last
    have k2 : Keep M (M1 ++ [some (.lst ((wr vs new).map pD))]) := k1.trans .new
    revert l2 k2
    generalize M1 ++ [some (Cell.lst ((wr vs new).map pD))] = M2
    intro l2 k2
    walk_at "w"
    refine ktp_w hu ?_
    walk_at "w"
    refine if_w (fun h2 => ?_) fun h2 => ?_
    · walk_at "w"
      refine q _ _ k2 k1.1 ?_
      unfold stp
      rw [if_neg h, if_pos h2]; exact l2
    · walk_at "w"
      refine revL_n l2 ?_
      walk_at "w"
      refine q _ _ (k2.trans .new) k2.1 ?_
      unfold stp
      rw [if_neg h, if_neg h2, List.map_reverse]
      exact lst_last
/-! the law's own reckoning; the row in a cell -/
theorem mod3 {u : Int} (q : Q (.int (nx u)) M) : wR (Bop.g .mod (.int (u + 1)) (.int 3) M) Q X := by
  show wR (gMod (.int (u + 1)) (.int 3) M) Q X
  rw [mod_int (by decide)]; exact q
theorem rowd {p : Nat} {vs : List Int} {QW : Wd → Mem → Prop} (h : lstAt M p = some (vs.map D.int)) (q : QW ⟨some p, vs.map D.int⟩ M) : wR (gWd (.loc p) M) QW X := by
  show wR (match lstAt M p with | some xs => (.ok ⟨some p, xs⟩ M : Res Wd) | none => .bad) QW X
  rw [h]; exact q
theorem forG_j {C : CT} {sub : Str → Str → Bool} {t : Tg} {b : Sxs} {wd : Wd} {e : Ev} {F : Ev → Mem → Prop} {P : Po} (J : Ev → Mem → Prop) (h : ForG C sub t b wd e M (PoK J P)) (k : ∀ e M, J e M → F e M) : ForG C sub t b wd e M (PoK F P) := by
  obtain ⟨inv, h0, step, fin⟩ := h
  refine ⟨inv, h0, fun i d e M hd hi => ?_, fun e M hi => ⟨(fin e M hi).1, k e M (fin e M hi).2⟩⟩
  obtain ⟨g, w⟩ := step i d e M hd hi
  exact ⟨g, wG_mono C t d e M _ _ _ _ (fun e M h => wSs_mono C sub b e M _ _ (PoLe.l (PoLe.k k PoLe.refl)) h) (fun _ _ _ _ z => z) w⟩
theorem law_form_w {p : Nat} {vs : List Int} {u : Int} (h : lstAt M p = some (vs.map D.int)) (q : Q (.bl (fmB u vs)) M) : wR (callI tbl (subOf subs) (k + 1) "_law_form" [.loc p, .int u] M) Q X := by
  refine def_e (n := 5) (b := b__law_form) [some (.loc p), some (.int u), none, none, none] rfl rfl ?_
  unfold b__law_form
  walk_at "w"
  refine rowd h ?_
  refine forG_j (fun e M' => M' = M ∧ ∃ (t : Nat) (o : Option D), e = [some (.loc p), some (.int u), some (.int (t : Nat)), some (.int 0), o] ∧ Pre (nx u) vs t ∧ Stop (nx u) vs t) ?_ ?_
  · refine for_c (n := p) (xs := vs.map D.int) (fun i e M' => M' = M ∧ ∃ o : Option D, e = [some (.loc p), some (.int u), some (.int (i : Nat)), some (.int 0), o] ∧ Pre (nx u) vs i) ⟨rfl, none, rfl, ⟨Nat.zero_le _, fun i h => absurd h (by omega)⟩⟩ (fun i e M' hi => by rw [hi.1]; exact h) (fun i d e M' hd hi => ?_) fun e M' hi => ?_
    · obtain ⟨rfl, o, rfl, hp⟩ := hi
      obtain ⟨x, hx, rfl⟩ : ∃ x, vs[i]? = some x ∧ d = .int x := by
        rw [List.getElem?_map] at hd
        cases z : vs[i]? with
        | none => rw [z] at hd; cases hd
        | some x => rw [z] at hd; exact ⟨x, rfl, (Option.some.inj hd).symm⟩
      have lt := (List.getElem?_eq_some_iff.mp hx).1
      walk_at "w"
      refine s_ife ?_
      walk_at "w"
      rw [show (u + 1) % 3 = nx u from rfl]
      refine ifn_w (fun h2 => ?_) fun h2 => ?_
      · walk_at "w"
        exact ⟨rfl, i, _, rfl, hp, .inr ⟨x, hx, h2⟩⟩
      · walk_at "w"
        refine ⟨rfl, _, by push_cast; rfl, lt, fun j hj => ?_⟩
        rcases Nat.lt_succ_iff_lt_or_eq.mp hj with z | z
        · exact hp.2 j z
        · rw [z, hx, h2]
    · obtain ⟨rfl, o, rfl, hp⟩ := hi
      rw [List.length_map] at hp ⊢
      exact ⟨rfl, _, o, rfl, hp, .inl rfl⟩
  · rintro e M' ⟨rfl, t, o, rfl, hp, hs⟩
    walk_at "w"
    refine revL_f h ?_
    rw [← List.map_reverse]
    walk_at "w"
    refine forG_j (fun e M2 => M2 = M' ∧ ∃ (s : Nat) (o : Option D), e = [some (.loc p), some (.int u), some (.int (t : Nat)), some (.int (s : Nat)), o] ∧ Pre u vs.reverse s ∧ Stop u vs.reverse s) ?_ ?_
    · refine for_n (fun i e M2 => M2 = M' ∧ ∃ o : Option D, e = [some (.loc p), some (.int u), some (.int (t : Nat)), some (.int (i : Nat)), o] ∧ Pre u vs.reverse i) ⟨rfl, o, rfl, ⟨Nat.zero_le _, fun i h => absurd h (by omega)⟩⟩ (fun i d e M2 hd hi => ?_) fun e M2 hi => ?_
      · obtain ⟨rfl, o, rfl, hp2⟩ := hi
        obtain ⟨x, hx, rfl⟩ : ∃ x, vs.reverse[i]? = some x ∧ d = .int x := by
          rw [List.getElem?_map] at hd
          cases z : vs.reverse[i]? with
          | none => rw [z] at hd; cases hd
          | some x => rw [z] at hd; exact ⟨x, rfl, (Option.some.inj hd).symm⟩
        have lt := (List.getElem?_eq_some_iff.mp hx).1
        walk_at "w"
        refine s_ife ?_
        walk_at "w"
        refine ifn_w (fun h2 => ?_) fun h2 => ?_
        · walk_at "w"
          exact ⟨rfl, i, _, rfl, hp2, .inr ⟨x, hx, h2⟩⟩
        · walk_at "w"
          refine ⟨rfl, _, by push_cast; rfl, lt, fun j hj => ?_⟩
          rcases Nat.lt_succ_iff_lt_or_eq.mp hj with z | z
          · exact hp2.2 j z
          · rw [z, hx, h2]
      · obtain ⟨rfl, o, rfl, hp2⟩ := hi
        rw [List.length_map] at hp2 ⊢
        exact ⟨rfl, _, o, rfl, hp2, .inl rfl⟩
    · rintro e M2 ⟨rfl, s, o2, rfl, hp2, hs2⟩
      walk_at "w"
      refine len_loc h ?_
      walk_at "w"
      rw [List.length_map, fmB_dec (form_iff hp hs hp2 hs2)]
      exact q
end
end K40

set_option Elab.async false
set_option linter.all false
set_option maxRecDepth 100000
set_option maxHeartbeats 0
namespace K40
open PySem PySem.Spec En
local macro_rules | `(tactic| walk_at "w") => `(tactic| repeat (first | (with_reducible refine Step.go ?_) | ((with_reducible refine' a_mt ?mth ?mtq); (case mth => assumption)) | ((with_reducible refine g_tup ?_ ?_); exact rfl) | ((with_reducible refine g_tupL ?_ ?_); exact rfl) | ((with_reducible refine r_mod ?_ ?_); (first | decide | assumption | omega)) | ((with_reducible refine r_div ?_ ?_); (first | decide | assumption | omega)) | ((with_reducible refine r_mul ?_ ?_); (first | decide | assumption | omega)) | ((with_reducible refine r_mulI ?_ ?_); (first | decide | assumption | omega)) | ((with_reducible refine r_pow ?_ ?_); (first | decide | assumption | omega)) | ((with_reducible refine r_tup ?_ ?_); exact Nat.le_of_ble_eq_true rfl) | ((with_reducible refine r_frz ?_ ?_); exact Nat.le_of_ble_eq_true rfl) | ((with_reducible refine r_new ?_ ?_); exact Nat.le_of_ble_eq_true rfl) | ((with_reducible refine r_r1 ?_ ?_); (first | decide | assumption | omega)) | ((with_reducible refine r_r3 ?_ ?_); (first | assumption | (unfold En.R3; omega))) | ((with_reducible refine r_l3 ?_ ?_); (first | assumption | (unfold En.R3; omega))) | ((with_reducible refine r_ln3 ?_ ?_); (first | assumption | (unfold En.R3; omega))) | ((with_reducible refine r_lenR ?_ ?_); (first | assumption | (unfold En.R3; omega))) | ((with_reducible refine r_r2 ?_ ?_); (first | decide | assumption | omega)) | ((with_reducible refine r_rl1 ?_ ?_); (first | decide | assumption | omega)) | ((with_reducible refine r_rl2 ?_ ?_); (first | decide | assumption | omega)) | ((with_reducible refine r_rn1 ?_ ?_); (first | decide | assumption | omega)) | ((with_reducible refine r_rn2 ?_ ?_); (first | decide | assumption | omega)) | ((with_reducible refine a_len ?_ ?_); exact rfl) | ((with_reducible refine i_dt ?_ ?_); (first | decide | assumption | exact rfl)) | ((with_reducible refine i_df ?_ ?_); (first | decide | assumption)) | ((with_reducible refine i_ndt ?_ ?_); (first | decide | assumption | exact rfl)) | ((with_reducible refine i_ndf ?_ ?_); (first | decide | assumption))))
local macro_rules | `(tactic| walk_at "i") => `(tactic| (refine s_ife ?_; walk_at "w"))
theorem wr_snoc (val : Int) : ∀ (l : List Int) (o : Nat) (x : Int), wrF o val (l ++ [x]) = wrF o val l ++ (if x = val then [] else [(((o + l.length : Nat) : Int), val)])
  | [], o, x => by
    show (if x = val then wrF (o + 1) val [] else ((o : Int), val) :: wrF (o + 1) val []) = _
    split <;> rfl
  | a :: l, o, x => by
    have ih := wr_snoc val l (o + 1) x
    rw [List.cons_append]
    unfold wrF
    rw [ih, List.length_cons, show o + 1 + l.length = o + (l.length + 1) by omega]
    split <;> rfl
theorem wrF_mem {val : Int} : ∀ {vs : List Int} {o : Nat} {p : Int × Int}, p ∈ wrF o val vs → (o : Int) ≤ p.1 ∧ p.1 < o + vs.length ∧ p.2 = val
  | [], o, p, h => by cases h
  | x :: r, o, p, h => by
    unfold wrF at h
    have go : p ∈ wrF (o + 1) val r → (o : Int) ≤ p.1 ∧ p.1 < o + (x :: r).length ∧ p.2 = val := fun h => by
      obtain ⟨h1, h2, h3⟩ := wrF_mem h
      exact ⟨by omega, by rw [List.length_cons]; push_cast at h2 ⊢; omega, h3⟩
    split at h
    · exact go h
    · rcases List.mem_cons.mp h with rfl | h
      · exact ⟨Int.le_refl _, by rw [List.length_cons]; push_cast; show (o : Int) < o + (r.length + 1); omega, rfl⟩
      · exact go h
theorem wr_sw {vs : List Int} {val : Int} (hl : vs.length ≤ 64) (h : 0 ≤ val ∧ val ≤ 996) : Sw (wr vs val) := by
  refine ⟨Nat.le_trans (wrF_le val vs 0) (by omega), fun p hp => ?_⟩
  obtain ⟨h1, h2, h3⟩ := wrF_mem hp
  exact ⟨by omega, by omega⟩
theorem nx_b (u : Int) : 0 ≤ nx u ∧ nx u ≤ 2 := by unfold nx; omega
/-- what is told is small -/
theorem rd_sw {vs : List Int} (hl : 1 ≤ vs.length ∧ vs.length ≤ 64) (hc : Ct vs) : (0 ≤ (rd vs).1 ∧ (rd vs).1 ≤ 996) ∧ Sw (rd vs).2 ∧ ∀ p ∈ (rd vs).2, 0 ≤ p.1 ∧ p.1 < vs.length ∧ p.2 = (rd vs).1 := by
  have hb : ∀ i, i < vs.length → 0 ≤ vs.getD i 0 ∧ vs.getD i 0 ≤ 996 := fun i hi => hc _ (by rw [List.getD_eq_getElem?_getD, List.getElem?_eq_getElem hi]; exact List.getElem_mem hi)
  have h0 : vs.headD 0 = vs.getD 0 0 := by cases vs <;> rfl
  have f3 : 0 ≤ fst3 vs ∧ fst3 vs ≤ 996 := by unfold fst3; split <;> first | omega | (split <;> omega)
  unfold rd
  rw [h0]
  split
  · exact ⟨hb 0 (by omega), ⟨by simp, fun p hp => by cases hp⟩, fun p hp => by cases hp⟩
  · split
    · exact ⟨f3, wr_sw hl.2 f3, fun p hp => by obtain ⟨h1, h2, h3⟩ := wrF_mem hp; exact ⟨by omega, by omega, h3⟩⟩
    · rename_i hU hn
      have two : 1 < vs.length := by
        apply Classical.byContradiction
        intro z
        refine hU fun x hx => ?_
        match vs, hl, hx with
        | [y], _, hx => simpa using hx
        | y :: y2 :: r, _, _ => exact absurd z (by simp)
      have b1 := hb 1 two
      have b0 := hb 0 (by omega)
      split
      · refine ⟨b1, ⟨by simp, fun p hp => ?_⟩, fun p hp => ?_⟩
        · rw [List.mem_singleton] at hp; subst hp; exact ⟨by simp, by omega, by omega⟩
        · rw [List.mem_singleton] at hp; subst hp; exact ⟨by simp, by simp; omega, rfl⟩
      · split
        · refine ⟨b0, ⟨by simp, fun p hp => ?_⟩, fun p hp => ?_⟩
          · rw [List.mem_singleton] at hp; subst hp; exact ⟨by simp, by omega, by omega⟩
          · rw [List.mem_singleton] at hp; subst hp; exact ⟨by simp, by simp; omega, rfl⟩
        · have := nx_b (vs.getD 1 0)
          exact ⟨by show 0 ≤ nx _ ∧ nx _ ≤ 996; omega, ⟨by simp, fun p hp => by cases hp⟩, fun p hp => by cases hp⟩
section
variable {k : Nat} {M : Mem} {Q : D → Mem → Prop} {X : Xp}
def vNx : D → D
  | .int z => .int (nx z)
  | d => d
theorem vNx_int {z : Int} : vNx (.int z) = .int (nx z) := rfl
theorem flt_ne {vs : List Int} {x : Int} : ((vs.map D.int).filter fun d => match d with | .int z => !decide (z = x) | _ => false).map (fun d => d) = (vs.filter fun z => !decide (z = x)).map D.int := by
  rw [List.map_id', List.filter_map]; rfl
open Classical in
theorem law_reading_w {p : Nat} {vs : List Int} {u : Int} (h : lstAt M p = some (vs.map D.int)) (hl : 2 ≤ vs.length ∧ vs.length ≤ 64) (hc : Ct vs) (hu : V3 u) (hf : Fm u vs) (q : Q (.lst [.int (rd vs).1, .lst ((rd vs).2.map pD)]) M) : wR (callI tbl (subOf subs) (k + 2) "_law_reading" [.loc p] M) Q X := by
  obtain ⟨w, r, e, hw, ew⟩ := lfD_at hu hf
  obtain ⟨x, y, t, evs⟩ : ∃ x y t, vs = x :: y :: t := by
    match vs, hl with
    | x :: y :: t, _ => exact ⟨x, y, t, rfl⟩
    | [_], h => simp at h
    | [], h => simp at h
  have e0 : vs[0]? = some x := by rw [evs]; rfl
  have e1 : vs[1]? = some y := by rw [evs]; rfl
  have hd0 : vs.headD 0 = x := by rw [evs]; rfl
  have gd1 : vs.getD 1 0 = y := by rw [evs]; rfl
  have xc := hc x (by rw [evs]; simp)
  have yc := hc y (by rw [evs]; simp)
  refine def_e (n := 7) (b := b__law_reading) [some (.loc p), none, none, none, none, none, none] rfl rfl ?_
  unfold b__law_reading
  walk_at "w"
  refine s_ife ?_
  walk_at "w"
  refine rowd h ?_
  refine lc_flt h (by rw [List.length_map]; omega) (fun d => match d with | .int z => !decide (z = x) | _ => false) (fun d => d) (fun d hd => ?_) ?_
  · obtain ⟨z, hz, rfl⟩ := List.mem_map.mp hd
    refine ⟨[some (.loc p), some (.int z), none, none, none, none, none], rfl, ?_⟩
    walk_at "w"
    refine ix_loc h (by omega) (d := .int x) (vget e0) ?_
    walk_at "w"
    refine ⟨rfl, rfl, fun _ => ?_⟩
    walk_at "w"
    exact ⟨rfl, rfl⟩
  · rw [flt_ne]
    walk_at "w"
    refine eq_nil_i (y := .lst _) rfl rfl ?_
    walk_at "w"
    refine ifb_w (fun h2 => ?_) fun h2 => ?_
    · have hU : Uni vs (vs.headD 0) := fun z hz => by
        rw [List.isEmpty_iff] at h2
        apply Classical.byContradiction
        intro ne
        have : z ∈ vs.filter fun z => !decide (z = x) := List.mem_filter.mpr ⟨hz, by rw [hd0] at ne; simp [ne]⟩
        rw [h2] at this; cases this
      have er : rd vs = (x, []) := by unfold rd; rw [if_pos hU, hd0]
      rw [er] at q
      walk_at "w"
      refine ix_loc h (by omega) (d := .int x) (vget e0) ?_
      walk_at "w"
      exact q
    · have hU : ¬ Uni vs (vs.headD 0) := fun z => by
        have : (vs.filter fun z => !decide (z = x)) = [] := by
          rw [List.filter_eq_nil_iff]
          intro t ht
          rw [hd0] at z
          simp [z t ht]
        rw [this] at h2; cases h2
      walk_at "w"
      refine s_ife ?_
      walk_at "w"
      refine len_loc h ?_
      walk_at "w"
      rw [List.length_map]
      refine if_w (fun h3 => ?_) fun h3 => ?_
      · have er : rd vs = (fst3 vs, wr vs (fst3 vs)) := by
          unfold rd; rw [if_neg hU, if_pos (by omega)]
        rw [er] at q
        walk_at "w"
        refine lc_flt trivial (by decide) (kf vs) vNx (fun d hd => ?_) ?_
        · obtain ⟨i, hi⟩ := List.getElem?_of_mem hd
          obtain ⟨rfl, lt⟩ := rng_at hi
          refine ⟨[some (.loc p), none, none, some (.int (0 + i)), none, none, none], rfl, ?_⟩
          walk_at "w"
          refine law_form_w (k := k) h ?_
          walk_at "w"
          refine ⟨rfl, rfl, fun _ => ?_⟩
          walk_at "w"
          exact ⟨rfl, rfl⟩
        · have ef : (rngD 0 (Int.toNat 3)).filter (kf vs) = lfD vs := rfl
          show wR (fin false (((rngD 0 (Int.toNat 3)).filter (kf vs)).map _) M) _ _
          rw [ef, e, List.map_cons, vNx_int, ew]
          walk_at "w"
          refine len_loc h ?_
          rw [List.length_map]
          walk_at "w"
          refine lc_n (fun j acc M' => acc = (wr (vs.take j) (fst3 vs)).map pD ∧ M' = M) ?_ ⟨rfl, rfl⟩ (fun j d acc M2 hd hi => ?_) fun acc M2 hi => ?_
          · rw [rng_len]; omega
          · obtain ⟨rfl, lt⟩ := rng_at hd
            obtain ⟨rfl, rfl⟩ := hi
            have lt2 : j < vs.length := by omega
            have ex := List.getElem?_eq_getElem lt2
            refine ⟨[some (.loc p), none, some (.int (fst3 vs)), none, some (.int (0 + j)), none, none], rfl, ?_⟩
            have sn := wr_snoc (fst3 vs) (vs.take j) 0 vs[j]
            rw [← take_succ ex, List.length_take, Nat.min_eq_left (by omega), Nat.zero_add] at sn
            walk_at "w"
            refine ix_loc h (by omega) (d := .int vs[j]) (by rw [show ((0 : Int) + (j : Int)).toNat = j by omega]; exact vget ex) ?_
            walk_at "w"
            refine ifn_w (fun h4 => ?_) fun h4 => ?_
            · walk_at "w"
              refine ⟨?_, rfl⟩
              show _ = (wrF 0 (fst3 vs) (vs.take (j + 1))).map pD
              rw [sn, if_neg h4, List.map_append, show (0 : Int) + (j : Int) = (j : Int) by omega]; rfl
            · refine ⟨?_, rfl⟩
              show _ = (wrF 0 (fst3 vs) (vs.take (j + 1))).map pD
              rw [sn, if_pos h4, List.append_nil]; rfl
          · obtain ⟨rfl, rfl⟩ := hi
            rw [rng_len, Int.toNat_natCast, List.take_length]
            walk_at "w"
            exact q
      · have et : t = [] := by
          have : vs.length = 2 := by omega
          rw [evs] at this
          cases t with
          | nil => rfl
          | cons => simp at this
        have er : rd vs = (if x > 2 then (y, [(0, y)]) else if y > 2 ∨ x = nx y then (x, [(1, x)]) else (nx y, [])) := by
          unfold rd; rw [if_neg hU, if_neg (by omega), hd0, gd1]
        rw [er] at q
        walk_at "w"
        refine g_tupC h (by rw [evs, et]; rfl) ?_
        rw [evs, et, List.map_cons, List.map_cons, List.map_nil]
        walk_at "w"
        refine s_ife ?_
        walk_at "w"
        refine if_w (fun c1 => ?_) fun c1 => ?_
        · rw [if_pos (show x > 2 from c1)] at q
          walk_at "w"
          exact q
        · rw [if_neg (show ¬ x > 2 from c1)] at q
          walk_at "w"
          refine s_ife ?_
          walk_at "w"
          refine if_w (fun c2 => ?_) fun c2 => ?_
          · rw [if_pos (.inl c2)] at q
            walk_at "w"
            exact q
          · walk_at "w"
            refine if_w (fun c3 => ?_) fun c3 => ?_
            · rw [if_pos (.inr c3)] at q
              walk_at "w"
              exact q
            · have no : ¬ (y > 2 ∨ x = nx y) := fun z => z.elim c2 c3
              rw [if_neg no] at q
              walk_at "w"
              have xy : x ≠ y := fun z => hU fun s hs => by
                rw [evs, et] at hs
                simp only [List.mem_cons, List.not_mem_nil, or_false] at hs
                rw [hd0]
                rcases hs with rfl | rfl
                · rfl
                · exact z.symm
              have e3 : 3 - x - y = nx y := by
                have : x ≠ nx y := c3
                unfold nx at *; omega
              rw [e3]
              exact q
theorem law_passed_w {p : Nat} {vs : List Int} {low : Int} (h : lstAt M p = some (vs.map D.int)) (hl : vs.length ≤ 64) (q : ∀ v, v = (if low = 0 then D.tup (vs.map D.int) else D.lst (vs.map D.int)) → Vw v vs → Q v M) : wR (callI tbl (subOf subs) (k + 1) "_law_passed" [.loc p, .int low] M) Q X := by
  refine def_e (n := 2) (b := b__law_passed) [some (.loc p), some (.int low)] rfl rfl ?_
  unfold b__law_passed
  walk_at "w"
  refine if_w (fun h0 => ?_) fun h0 => ?_
  · walk_at "w"
    refine tuple_loc h (by rw [List.length_map]; omega) ?_
    walk_at "w"
    exact q _ (by rw [if_pos h0]) (.inl rfl)
  · walk_at "w"
    refine list_frz (x := .loc p) h ?_
    walk_at "w"
    exact q _ (by rw [if_neg h0]) (.inr rfl)
theorem law_content_w {b : Nat} {c0 : Int} {great : Bool} (hb : Box M b c0) (hc : c0 ≤ 900000) (q : ∀ (y : Int) M', 0 ≤ y ∧ y ≤ 996 → Box M' b (c0 + 3) → Ex1 b M M' → Q (.int y) M') : wR (callI tbl (subOf subs) (k + 2) "_law_content" [.loc b, .bl great] M) Q X := by
  refine def_e (n := 5) (b := b__law_content) [some (.loc b), some (.bl great), none, none, none] rfl rfl ?_
  unfold b__law_content
  walk_at "w"
  refine take_w (k := k) hb (by omega) ⟨by omega, by omega⟩ fun way M1 a0 a1 b1 x1 => ?_
  walk_at "w"
  refine take_w (k := k) b1 (by omega) ⟨by omega, by omega⟩ fun d M2 d0 d1 b2 x2 => ?_
  walk_at "w"
  refine take_w (k := k) b2 (by omega) ⟨by omega, by omega⟩ fun z M3 z0 z1 b3 x3 => ?_
  walk_at "w"
  refine if_w (fun _ => ?_) fun _ => ?_
  · walk_at "w"
    exact q _ _ ⟨z0, by omega⟩ (b3.le (by omega)) ((x1.trans x2).trans x3)
  · walk_at "w"
    exact q _ _ ⟨d0, by omega⟩ (b3.le (by omega)) ((x1.trans x2).trans x3)
end
end K40

set_option Elab.async false
set_option linter.all false
set_option maxRecDepth 100000
set_option maxHeartbeats 0
namespace K40
open PySem PySem.Spec En
local macro_rules | `(tactic| walk_at "w") => `(tactic| repeat (first | (with_reducible refine Step.go ?_) | ((with_reducible refine' a_mt ?mth ?mtq); (case mth => assumption)) | ((with_reducible refine g_tup ?_ ?_); exact rfl) | ((with_reducible refine g_tupL ?_ ?_); exact rfl) | ((with_reducible refine r_mod ?_ ?_); (first | decide | assumption | omega)) | ((with_reducible refine r_div ?_ ?_); (first | decide | assumption | omega)) | ((with_reducible refine r_mul ?_ ?_); (first | decide | assumption | omega)) | ((with_reducible refine r_mulI ?_ ?_); (first | decide | assumption | omega)) | ((with_reducible refine r_pow ?_ ?_); (first | decide | assumption | omega)) | ((with_reducible refine r_tup ?_ ?_); exact Nat.le_of_ble_eq_true rfl) | ((with_reducible refine r_frz ?_ ?_); exact Nat.le_of_ble_eq_true rfl) | ((with_reducible refine r_new ?_ ?_); exact Nat.le_of_ble_eq_true rfl) | ((with_reducible refine r_r1 ?_ ?_); (first | decide | assumption | omega)) | ((with_reducible refine r_r3 ?_ ?_); (first | assumption | (unfold En.R3; omega))) | ((with_reducible refine r_l3 ?_ ?_); (first | assumption | (unfold En.R3; omega))) | ((with_reducible refine r_ln3 ?_ ?_); (first | assumption | (unfold En.R3; omega))) | ((with_reducible refine r_lenR ?_ ?_); (first | assumption | (unfold En.R3; omega))) | ((with_reducible refine r_r2 ?_ ?_); (first | decide | assumption | omega)) | ((with_reducible refine r_rl1 ?_ ?_); (first | decide | assumption | omega)) | ((with_reducible refine r_rl2 ?_ ?_); (first | decide | assumption | omega)) | ((with_reducible refine r_rn1 ?_ ?_); (first | decide | assumption | omega)) | ((with_reducible refine r_rn2 ?_ ?_); (first | decide | assumption | omega)) | ((with_reducible refine a_len ?_ ?_); exact rfl) | ((with_reducible refine i_dt ?_ ?_); (first | decide | assumption | exact rfl)) | ((with_reducible refine i_df ?_ ?_); (first | decide | assumption)) | ((with_reducible refine i_ndt ?_ ?_); (first | decide | assumption | exact rfl)) | ((with_reducible refine i_ndf ?_ ?_); (first | decide | assumption))))
local macro_rules | `(tactic| walk_at "i") => `(tactic| (refine s_ife ?_; walk_at "w"))
def WV (p : Nat) (val : Int) : List (Str × D) := [(("view" : Str), .loc p), (("value" : Str), .int val)]
/-- a box, a world in its cell, its row in a cell -/
structure WS (M : Mem) (b : Nat) (c : Int) (w p : Nat) (vs : List Int) (val : Int) : Prop where
  box : Box M b c
  dic : M[w]? = some (some (.dic (WV p val)))
  row : lstAt M p = some (vs.map D.int)
  bw : b ≠ w
  bp : b ≠ p
  wp : w ≠ p
/-- only the box, the world and its row may have changed -/
def Fr (b w p : Nat) (M M' : Mem) : Prop := M.length ≤ M'.length ∧ ∀ m, m < M.length → m ≠ b → m ≠ w → m ≠ p → M'[m]? = M[m]?
theorem Fr.refl {b w p : Nat} {M : Mem} : Fr b w p M M := ⟨Nat.le_refl _, fun _ _ _ _ _ => rfl⟩
theorem Fr.trans {b w p p1 : Nat} {M M1 M2 : Mem} (a : Fr b w p M M1) (h : p1 = p ∨ M.length ≤ p1) (c : Fr b w p1 M1 M2) : Fr b w p M M2 :=
  ⟨Nat.le_trans a.1 c.1, fun m hm h1 h2 h3 => (c.2 m (Nat.lt_of_lt_of_le hm a.1) h1 h2 (fun z => by rcases h with h | h <;> omega)).trans (a.2 m hm h1 h2 h3)⟩
theorem Keep.fr {b w p : Nat} {M M' : Mem} (a : Keep M M') : Fr b w p M M' := ⟨a.1, fun m hm _ _ _ => a.2 m hm⟩
theorem fr_ex1 {b w p n : Nat} {M M' : Mem} (a : Ex1 n M M') (h : n = b ∨ n = w ∨ n = p) : Fr b w p M M' := ⟨Nat.le_of_eq a.len.symm, fun m _ h1 h2 h3 => a.same m fun z => by rcases h with h | h | h <;> omega⟩
theorem ex1_len {n : Nat} {M M' : Mem} (a : Ex1 n M M') : M'.length = M.length := a.len
section
variable {M M' : Mem} {b w p : Nat} {c c' : Int} {vs : List Int} {val : Int}
theorem WS.wl (h : WS M b c w p vs val) : w < M.length := (List.getElem?_eq_some_iff.mp h.dic).1
theorem WS.pl (h : WS M b c w p vs val) : p < M.length := lst_lt h.row
theorem WS.keep (h : WS M b c w p vs val) (k : Keep M M') : WS M' b c w p vs val :=
  ⟨h.box.keep (k.2 b h.box.lt), (k.2 w h.wl).trans h.dic, k.lst h.row, h.bw, h.bp, h.wp⟩
theorem WS.draw (h : WS M b c w p vs val) (k : Ex1 b M M') (hb : Box M' b c') : WS M' b c' w p vs val :=
  ⟨hb, (k.same w (Ne.symm h.bw)).trans h.dic, lst_same h.row (k.same p (Ne.symm h.bp)), h.bw, h.bp, h.wp⟩
theorem WS.le (h : WS M b c w p vs val) (e : c ≤ c') : WS M b c' w p vs val := ⟨h.box.le e, h.dic, h.row, h.bw, h.bp, h.wp⟩
theorem WS.rowTo (h : WS M b c w p vs val) (vs' : List Int) : WS (M.set p (some (.lst (vs'.map D.int)))) b c w p vs' val :=
  ⟨h.box.put (Ne.symm h.bp), (List.getElem?_set_ne (Ne.symm h.wp)).trans h.dic, lst_set h.row, h.bw, h.bp, h.wp⟩
theorem WS.valTo (h : WS M b c w p vs val) (v' : Int) : WS (M.set w (some (.dic (WV p v')))) b c w p vs v' :=
  ⟨h.box.put (Ne.symm h.bw), List.getElem?_set_self h.wl, lst_same h.row (List.getElem?_set_ne h.wp), h.bw, h.bp, h.wp⟩
theorem WS.viewTo (h : WS M b c w p vs val) {p' : Nat} {vs' : List Int} (g : lstAt M p' = some (vs'.map D.int)) (hb : b ≠ p') (hw : w ≠ p') : WS (M.set w (some (.dic (WV p' val)))) b c w p' vs' val :=
  ⟨h.box.put (Ne.symm h.bw), List.getElem?_set_self h.wl, lst_same g (List.getElem?_set_ne hw), h.bw, hb, hw⟩
end
/-- rows as they are met -/
structure Ok (vs : List Int) : Prop where
  len : 2 ≤ vs.length ∧ vs.length ≤ 64
  ct : Ct vs
theorem Ok.erase {vs : List Int} (h : Ok vs) (t : Nat) (h3 : 2 < vs.length) (ht : t < vs.length) : Ok (vs.eraseIdx t) := by
  have l : (vs.eraseIdx t).length = vs.length - 1 := List.length_eraseIdx_of_lt ht
  have := h.len
  exact ⟨by omega, fun x hx => h.ct x (List.mem_of_mem_eraseIdx hx)⟩
theorem Ok.set {vs : List Int} (h : Ok vs) (t : Nat) {y : Int} (hy : 0 ≤ y ∧ y ≤ 996) : Ok (vs.set t y) :=
  ⟨by rw [List.length_set]; exact h.len, fun x hx => by
    rcases List.mem_or_eq_of_mem_set hx with z | z
    · exact h.ct x z
    · rw [z]; exact hy⟩
theorem Ok.app {ws : List (Int × Int)} : ∀ {vs : List Int}, Ok vs → (∀ p ∈ ws, 0 ≤ p.2 ∧ p.2 ≤ 996) → Ok (app ws vs) := by
  induction ws with
  | nil => intro vs h _; exact h
  | cons p r ih => intro vs h k; exact ih (h.set _ (k p List.mem_cons_self)) fun q m => k q (List.mem_cons_of_mem _ m)
theorem cut_erase {vs : List Int} {t : Nat} : (vs.take t).map D.int ++ (vs.drop (t + 1)).map D.int = (vs.eraseIdx t).map D.int := by
  rw [← List.map_append, List.eraseIdx_eq_take_drop_succ]
section
variable {k : Nat} {M : Mem} {Q : D → Mem → Prop} {X : Xp} {b w p : Nat} {c0 : Int} {vs : List Int} {val : Int}
theorem wv_view {p : Nat} {val : Int} : (WV p val).lookup ("view" : Str) = some (.loc p) := rfl
theorem wv_value {p : Nat} {val : Int} : (WV p val).lookup ("value" : Str) = some (.int val) := rfl
theorem wv_putv {p p' : Nat} {val : Int} : putM ("view" : Str) (.loc p') (WV p val) = WV p' val := rfl
theorem wv_putw {p : Nat} {val v' : Int} : putM ("value" : Str) (.int v') (WV p val) = WV p v' := rfl
theorem view_w (h : WS M b c0 w p vs val) (q : Q (.loc p) M) : wR (gIx (.loc w) (.str ("view" : Str)) M) Q X := ix_dic h.dic wv_view q
theorem value_w (h : WS M b c0 w p vs val) (q : Q (.int val) M) : wR (gIx (.loc w) (.str ("value" : Str)) M) Q X := ix_dic h.dic wv_value q
theorem add_new {xs ys : List D} (hl : xs.length + ys.length ≤ 1000000) (q : Q (.loc M.length) (M ++ [some (.lst (xs ++ ys))])) : wR (Bop.g (.add true) (.lst xs) (.lst ys) M) Q X := by
  show wR (if xs.length + ys.length ≤ 1000000 then fin true (xs ++ ys) M else .bad) Q X
  rw [if_pos hl]; exact q
theorem law_losses_w {u : Int} (h : WS M b c0 w p vs val) (hc : c0 ≤ 800000) (ho : Ok vs) (hf : Fm u vs) (q : ∀ p' vs' M', WS M' b (c0 + 200) w p' vs' val → Ok vs' → Fm u vs' → (p' = p ∨ M.length ≤ p') → Fr b w p M M' → Q .non M') : wR (callI tbl (subOf subs) (k + 2) "_law_losses" [.loc b, .loc w] M) Q X := by
  refine def_e (n := 6) (b := b__law_losses) [some (.loc b), some (.loc w), none, none, none, none] rfl rfl ?_
  unfold b__law_losses
  walk_at "w"
  refine take_w (k := k) h.box (by omega) ⟨by omega, by omega⟩ fun way M1 a0 a1 b1 x1 => ?_
  have h1 := h.draw x1 b1
  walk_at "w"
  refine take_w (k := k) b1 (by omega) ⟨by omega, by omega⟩ fun many M2 d0 d1 b2 x2 => ?_
  have h2 := h1.draw x2 b2
  have f2 : Fr b w p M M2 := fr_ex1 (x1.trans x2) (.inl rfl)
  walk_at "w"
  refine menu_w a0 (by simpa using a1) fun e1 he1 => ?_
  obtain ⟨n, rfl, n0, n1⟩ : ∃ n : Int, e1 = .int n ∧ 0 ≤ n ∧ n ≤ 63 := by
    simp only [List.mem_cons, List.not_mem_nil, or_false] at he1
    rcases he1 with rfl | rfl | rfl <;> exact ⟨_, rfl, by omega, by omega⟩
  walk_at "w"
  refine for_n (fun i e M' => ∃ (p' : Nat) (vs' : List Int) (o o2 : Option D), e = [some (.loc b), some (.loc w), some (.int way), some (.int many), o, o2] ∧ WS M' b (c0 + 2 + 2 * i) w p' vs' val ∧ Ok vs' ∧ Fm u vs' ∧ (p' = p ∨ M.length ≤ p') ∧ Fr b w p M M')
    ⟨p, vs, none, none, rfl, h2.le (by omega), ho, hf, .inl rfl, f2⟩ (fun i d e M' hd hi => ?_) fun e M' hi => ?_
  · obtain ⟨rfl, lt⟩ := rng_at hd
    obtain ⟨p', vs', o, o2, rfl, h3, ho3, hf3, hp3, f3⟩ := hi
    have lt2 : i < 63 := by omega
    walk_at "w"
    refine s_ife ?_
    walk_at "w"
    refine view_w h3 ?_
    walk_at "w"
    refine len_loc h3.row ?_
    walk_at "w"
    rw [List.length_map]
    refine if_w (fun g => ?_) fun g => ?_
    · have cont : ∀ M4, WS M4 b (c0 + 2 + 2 * i + 1) w p' vs' val → Fr b w p M M4 → wSs (callI tbl (subOf subs) (k + 1)) (subOf subs) (.cons (.asg (.nm 5) (.call "_law_take" 2 (.cons (.var 0) (.cons (.blt .len (.cons (.ix (.var 1) (.cst (.str "view"))) .nil)) .nil))))
    (.one (.asg (.sub (.var 1) (.cst (.str "view"))) (.op (.add true) (.sl false (.ix (.var 1) (.cst (.str "view"))) .none (.some (.var 5))) (.sl false (.ix (.var 1) (.cst (.str "view"))) (.some (.op (.add false) (.var 5) (.cst (.int 1)))) .none))))) [some (.loc b), some (.loc w), some (.int way), some (.int many), some (.int (0 + i)), o2] M4
            (PoL (fun e M' => ∃ (p' : Nat) (vs' : List Int) (o o2 : Option D), e = [some (.loc b), some (.loc w), some (.int way), some (.int many), o, o2] ∧ WS M' b (c0 + 2 + 2 * (i + 1 : Nat)) w p' vs' val ∧ Ok vs' ∧ Fm u vs' ∧ (p' = p ∨ M.length ≤ p') ∧ Fr b w p M M') (PoD Q X)) := fun M4 h4 f4 => by
        walk_at "w"
        refine view_w h4 ?_
        walk_at "w"
        refine len_loc h4.row ?_
        walk_at "w"
        rw [List.length_map]
        have := ho3.len
        refine take_w (k := k) h4.box (by omega) ⟨by omega, by omega⟩ fun t M5 t0 t1 b5 x5 => ?_
        obtain ⟨t, rfl⟩ := Int.eq_ofNat_of_zero_le t0
        have h5 := h4.draw x5 b5
        walk_at "w"
        refine view_w h5 ?_
        walk_at "w"
        refine sl_loc_w h5.row ?_
        walk_at "w"
        refine view_w h5 ?_
        walk_at "w"
        refine sl_loc_w h5.row ?_
        rw [cut_lo (by omega), cut_hi (by omega), Int.toNat_natCast, show ((t : Int) + 1).toNat = t + 1 by omega, ← List.map_take, ← List.map_drop]
        walk_at "w"
        refine add_new (by simp; omega) ?_
        rw [cut_erase]
        have l6 : lstAt (M5 ++ [some (.lst ((vs'.eraseIdx t).map D.int))]) M5.length = some ((vs'.eraseIdx t).map D.int) := lst_last
        have h6 := h5.keep (M' := M5 ++ [some (.lst ((vs'.eraseIdx t).map D.int))]) .new
        have nb := Ne.symm (Nat.ne_of_gt b5.lt)
        have nw := Nat.ne_of_lt h5.wl
        have ml : M.length ≤ M5.length := Nat.le_trans f4.1 (Nat.le_of_eq x5.len.symm)
        have f6 : Fr b w p M (M5 ++ [some (.lst ((vs'.eraseIdx t).map D.int))]) := (f4.trans (.inl rfl) (fr_ex1 x5 (.inl rfl))).trans (.inl rfl) (Keep.fr .new)
        revert l6 h6 f6
        generalize M5 ++ [some (Cell.lst ((vs'.eraseIdx t).map D.int))] = M6
        intro l6 h6 f6
        walk_at "w"
        refine ⟨_, put_dic h6.dic rfl (by show 2 < 1000; decide), ?_⟩
        rw [wv_putv]
        have h7 := h6.viewTo l6 nb nw
        refine ⟨_, _, _, _, rfl, h7.le (by push_cast; omega), ho3.erase t (by omega) (by omega), hf3.erase t, .inr ml, f6.trans (.inl rfl) (fr_ex1 .set (.inr (.inl rfl)))⟩
      walk_at "w"
      refine if_w (fun g2 => ?_) fun g2 => ?_
      · exact i_tt (cont M' (h3.le (by omega)) f3)
      · walk_at "w"
        refine take_w (k := k) h3.box (by omega) ⟨by omega, by omega⟩ fun z M4 z0 z1 b4 x4 => ?_
        have h4 := h3.draw x4 b4
        have f4 := f3.trans (.inl rfl) (fr_ex1 (w := w) (p := p) x4 (.inl rfl))
        walk_at "w"
        refine if_w (fun g3 => ?_) fun g3 => ?_
        · exact cont M4 h4 f4
        · walk_at "w"
          exact ⟨p', vs', _, _, rfl, h4.le (by push_cast; omega), ho3, hf3, hp3, f4⟩
    · walk_at "w"
      exact ⟨p', vs', _, _, rfl, h3.le (by push_cast; omega), ho3, hf3, hp3, f3⟩
  · obtain ⟨p', vs', o, o2, rfl, h3, ho3, hf3, hp3, f3⟩ := hi
    rw [rng_len] at h3
    walk_at "w"
    exact q p' vs' M' (h3.le (by omega)) ho3 hf3 hp3 f3
theorem law_written_w {ws : List (Int × Int)} (h : WS M b c0 w p vs val) (hw : ∀ z ∈ ws, 0 ≤ z.1 ∧ z.1 < vs.length) (q : ∀ M', WS M' b c0 w p (app ws vs) val → Ex1 p M M' → Q .non M') : wR (callI tbl (subOf subs) (k + 1) "_law_written" [.loc w, .lst (ws.map pD)] M) Q X := by
  refine def_e (n := 4) (b := b__law_written) [some (.loc w), some (.lst (ws.map pD)), none, none] rfl rfl ?_
  unfold b__law_written
  walk_at "w"
  refine for_n (fun i e M' => ∃ (o o2 : Option D), e = [some (.loc w), some (.lst (ws.map pD)), o, o2] ∧ WS M' b c0 w p (app (ws.take i) vs) val ∧ Ex1 p M M') ⟨none, none, rfl, h, .refl⟩ (fun i d e M' hd hi => ?_) fun e M' hi => ?_
  · obtain ⟨o, o2, rfl, h1, x1⟩ := hi
    rw [List.getElem?_map] at hd
    cases z : ws[i]? with
    | none => rw [z] at hd; cases hd
    | some t =>
      rw [z] at hd
      obtain rfl : pD t = d := Option.some.inj hd
      obtain ⟨t0, t1⟩ := hw t (List.mem_of_getElem? z)
      obtain ⟨a, y⟩ := t
      obtain ⟨a, rfl⟩ := Int.eq_ofNat_of_zero_le t0
      unfold pD
      walk_at "w"
      refine view_w h1 ?_
      walk_at "w"
      refine ⟨_, set_lst h1.row (j := a) (ixN_nat (by rw [List.length_map, app_len]; simp at t1; omega)), ?_⟩
      rw [show ((app (ws.take i) vs).map D.int).set a (.int y) = ((app (ws.take i) vs).set a y).map D.int from by rw [List.map_set]]
      have h2 := h1.rowTo ((app (ws.take i) vs).set a y)
      refine ⟨_, _, rfl, ?_, x1.trans .set⟩
      rw [take_succ z, app_snoc]
      exact h2
  · obtain ⟨o, o2, rfl, h1, x1⟩ := hi
    rw [List.length_map, List.take_length] at h1
    walk_at "w"
    exact q M' h1 x1
end
end K40

set_option Elab.async false
set_option linter.all false
set_option maxRecDepth 100000
set_option maxHeartbeats 0
namespace K40
open PySem PySem.Spec En
local macro_rules | `(tactic| walk_at "w") => `(tactic| repeat (first | (with_reducible refine Step.go ?_) | ((with_reducible refine' a_mt ?mth ?mtq); (case mth => assumption)) | ((with_reducible refine g_tup ?_ ?_); exact rfl) | ((with_reducible refine g_tupL ?_ ?_); exact rfl) | ((with_reducible refine r_mod ?_ ?_); (first | decide | assumption | omega)) | ((with_reducible refine r_div ?_ ?_); (first | decide | assumption | omega)) | ((with_reducible refine r_mul ?_ ?_); (first | decide | assumption | omega)) | ((with_reducible refine r_mulI ?_ ?_); (first | decide | assumption | omega)) | ((with_reducible refine r_pow ?_ ?_); (first | decide | assumption | omega)) | ((with_reducible refine r_tup ?_ ?_); exact Nat.le_of_ble_eq_true rfl) | ((with_reducible refine r_frz ?_ ?_); exact Nat.le_of_ble_eq_true rfl) | ((with_reducible refine r_new ?_ ?_); exact Nat.le_of_ble_eq_true rfl) | ((with_reducible refine r_r1 ?_ ?_); (first | decide | assumption | omega)) | ((with_reducible refine r_r3 ?_ ?_); (first | assumption | (unfold En.R3; omega))) | ((with_reducible refine r_l3 ?_ ?_); (first | assumption | (unfold En.R3; omega))) | ((with_reducible refine r_ln3 ?_ ?_); (first | assumption | (unfold En.R3; omega))) | ((with_reducible refine r_lenR ?_ ?_); (first | assumption | (unfold En.R3; omega))) | ((with_reducible refine r_r2 ?_ ?_); (first | decide | assumption | omega)) | ((with_reducible refine r_rl1 ?_ ?_); (first | decide | assumption | omega)) | ((with_reducible refine r_rl2 ?_ ?_); (first | decide | assumption | omega)) | ((with_reducible refine r_rn1 ?_ ?_); (first | decide | assumption | omega)) | ((with_reducible refine r_rn2 ?_ ?_); (first | decide | assumption | omega)) | ((with_reducible refine a_len ?_ ?_); exact rfl) | ((with_reducible refine i_dt ?_ ?_); (first | decide | assumption | exact rfl)) | ((with_reducible refine i_df ?_ ?_); (first | decide | assumption)) | ((with_reducible refine i_ndt ?_ ?_); (first | decide | assumption | exact rfl)) | ((with_reducible refine i_ndf ?_ ?_); (first | decide | assumption))))
local macro_rules | `(tactic| walk_at "i") => `(tactic| (refine s_ife ?_; walk_at "w"))
theorem nin_ints {M : Mem} {Q : D → Mem → Prop} {X : Xp} {y : D} {i : Int} {ns : List Int} (h : rdLst M y = some (ns.map D.int)) (q : Q (.bl (!decide (i ∈ ns))) M) : wR (Bop.g .ninT (.int i) y M) Q X := by
  show wR (gIn true (.int i) y M) Q X
  unfold gIn
  rw [toP_lst h, toP_ints, show toP M 65 (.int i) = some (.int i) from rfl]
  simp only [Option.map_some]
  rw [if_pos ⟨rfl, shaped_ints ns⟩]
  have e : ((ns.map PyData.int).any fun z => PyData.eqv z (.int i)) = decide (i ∈ ns) := by
    rw [Bool.eq_iff_iff]
    simp only [List.any_eq_true, List.mem_map, decide_eq_true_eq]
    constructor
    · rintro ⟨_, ⟨a, ha, rfl⟩, he⟩
      have : a = i := by simpa [PyData.eqv] using he
      exact this ▸ ha
    · intro h
      exact ⟨_, ⟨i, h, rfl⟩, by simp [PyData.eqv]⟩
  simp only [if_true]
  rw [e]; exact q
theorem Ok.sn {vs : List Int} (h : Ok vs) : Sn vs := ⟨by have := h.len; omega, fun x hx => by have := h.ct x hx; omega⟩
section
variable {k : Nat} {M : Mem} {Q : D → Mem → Prop} {X : Xp} {b w p : Nat} {c0 : Int} {vs : List Int} {val : Int}
theorem reverse_w {n : Nat} {xs : List D} (h : lstAt M n = some xs) (q : Q .non (M.set n (some (.lst xs.reverse)))) : wR (Mth.g .reverse (.loc n) [] M) Q X := by
  show wR (match lstAt M n with | some xs => (.ok .non (M.set n (some (.lst xs.reverse))) : Res D) | none => .bad) Q X
  rw [h]; exact q
theorem Keep.set {M M' : Mem} {n : Nat} {c : Option Cell} (a : Keep M M') (h : M.length ≤ n) : Keep M (M'.set n c) := ⟨by rw [List.length_set]; exact a.1, fun m hm => (List.getElem?_set_ne (by omega)).trans (a.2 m hm)⟩
theorem repr_eq_w {v : D} {low : Int} (ev : v = (if low = 0 then D.tup (vs.map D.int) else D.lst (vs.map D.int))) (hs : Sn vs) (q : Q (.str (if low = 0 then PyData.tuple (vs.map PyData.int) else PyData.list (vs.map PyData.int)).shown) M) : wR (Blt.g .repr [v] M) Q X := by
  by_cases h : low = 0
  · rw [if_pos h] at ev q
    subst ev
    exact repr_intsT hs q
  · rw [if_neg h] at ev q
    subst ev
    exact repr_ints rfl hs q
theorem law_told_right_w {u a b2 : Int} (h : WS M b c0 w p vs val) (hc : c0 ≤ 800000) (ho : Ok vs) (hu : V3 u) (hf : Fm u vs) (hp : (rd vs).1 ∈ [a, b2]) (q : ∀ M', WS M' b (c0 + 1) w p vs val → Fr b w p M M' → Q (.bl true) M') : wR (callI tbl (subOf subs) (k + 7) "_law_told_right" [.loc b, .loc w, .int u, .lst [.int a, .int b2]] M) Q X := by
  have ol := ho.len
  obtain ⟨r0, rs, rm⟩ := rd_sw (vs := vs) ⟨by omega, ol.2⟩ ho.ct
  refine def_e (n := 11) (b := b__law_told_right) [some (.loc b), some (.loc w), some (.int u), some (.lst [.int a, .int b2]), none, none, none, none, none, none, none] rfl rfl ?_
  unfold b__law_told_right
  walk_at "w"
  refine view_w h ?_
  walk_at "w"
  refine take_w (k := k + 5) h.box (by omega) ⟨by omega, by omega⟩ fun low M1 l0 l1 b1 x1 => ?_
  have h1 := h.draw x1 b1
  have f1 : Fr b w p M M1 := fr_ex1 x1 (.inl rfl)
  walk_at "w"
  refine law_reading_w (k := k + 4) h1.row ol ho.ct hu hf ?_
  walk_at "w"
  refine s_ife ?_
  walk_at "w"
  refine nin_ints (ns := [a, b2]) rfl ?_
  rw [decide_eq_true hp]
  walk_at "w"
  refine law_form_w (k := k + 5) h1.row ?_
  rw [fmB_t hf]
  walk_at "w"
  refine law_passed_w (k := k + 5) h1.row ol.2 fun v ev hv => ?_
  walk_at "w"
  refine forG_j (fun e M' => ∃ (o o2 : Option D), e = [some (.loc b), some (.loc w), some (.int u), some (.lst [.int a, .int b2]), some (.loc p), some (.int low), some (.int (rd vs).1), some (.lst ((rd vs).2.map pD)), some v, o, o2] ∧ Keep M1 M') ?_ ?_
  · refine for_n (fun i e M' => ∃ (o o2 : Option D), e = [some (.loc b), some (.loc w), some (.int u), some (.lst [.int a, .int b2]), some (.loc p), some (.int low), some (.int (rd vs).1), some (.lst ((rd vs).2.map pD)), some v, o, o2] ∧ Keep M1 M') ⟨none, none, rfl, .refl⟩ (fun i d e M' hd hi => ?_) fun e M' hi => ?_
    · obtain ⟨rfl, lt⟩ := rng_at hd
      obtain ⟨o, o2, rfl, k1⟩ := hi
      walk_at "w"
      refine if_w (fun h0 => ?_) (fun h0 => ?_) <;>
      · walk_at "w"
        refine three_mending_w (k := k) hv ol ho.ct hu hf ?_
        have l2 : lstAt (M' ++ [some (.lst ((rd vs).2.map pD))]) M'.length = some ((rd vs).2.map pD) := lst_last
        have k2 : Keep M1 (M' ++ [some (.lst ((rd vs).2.map pD))]) := k1.trans .new
        have kl := k1.1
        revert l2 k2 kl
        generalize M' ++ [some (Cell.lst ((rd vs).2.map pD))] = M2
        generalize M'.length = n
        intro l2 k2 kl
        walk_at "w"
        refine s_ife ?_
        walk_at "w"
        refine repr_pairs (y := .loc n) (show rdLst M2 (.loc n) = _ from l2) rs ?_
        walk_at "w"
        refine repr_pairs (y := .lst _) rfl rs ?_
        walk_at "w"
        refine nes_same ?_
        walk_at "w"
        refine app_w l2 (by rw [List.length_map]; have := rs.1; omega) ?_
        have l3 := lst_set (ys := (rd vs).2.map pD ++ [D.tup [D.int 0, D.int 0]]) l2
        have k3 : Keep M1 (M2.set n (some (.lst ((rd vs).2.map pD ++ [D.tup [D.int 0, D.int 0]])))) := k2.set kl
        revert l3 k3
        generalize M2.set n (some (Cell.lst ((rd vs).2.map pD ++ [D.tup [D.int 0, D.int 0]]))) = M3
        intro l3 k3
        walk_at "w"
        refine reverse_w l3 ?_
        walk_at "w"
        exact ⟨_, _, rfl, k3.set kl⟩
    · exact hi
  · rintro e M' ⟨o, o2, rfl, k1⟩
    have h2 := h1.keep k1
    walk_at "w"
    refine s_ife ?_
    walk_at "w"
    refine can_be_left_w (k := k + 2) hv ol ho.ct hu hf ?_
    walk_at "w"
    refine three_told_w (k := k) hv ol ho.ct hu hf ?_
    have k2 : Keep M1 (M' ++ [some (.lst ((rd vs).2.map pD))]) := k1.trans .new
    revert k2
    generalize M' ++ [some (Cell.lst ((rd vs).2.map pD))] = M3
    intro k2
    have h3 := h1.keep k2
    walk_at "w"
    refine repr_int (by omega) ?_
    walk_at "w"
    refine repr_int (by omega) ?_
    walk_at "w"
    refine nes_same ?_
    walk_at "w"
    refine repr_eq_w ev ho.sn ?_
    walk_at "w"
    refine law_passed_w (k := k + 5) h3.row ol.2 fun v2 ev2 hv2 => ?_
    walk_at "w"
    refine repr_eq_w ev2 ho.sn ?_
    walk_at "w"
    refine eqs_same ?_
    walk_at "w"
    exact q M3 h3 (f1.trans (.inl rfl) k2.fr)
theorem law_opened_w {u a b2 : Int} (h : WS M b c0 w p vs val) (hc : c0 ≤ 700000) (ho : Ok vs) (hu : V3 u) (hf : Fm u vs) (hp : ∀ x : Int, x = u ∨ x = nx u → x ∈ [a, b2]) (q : ∀ p' vs' v' M', WS M' b (c0 + 1000) w p' vs' v' → Ok vs' → V3 v' → St v' vs' → (p' = p ∨ M.length ≤ p') → Fr b w p M M' → Q (.bl true) M') : wR (callI tbl (subOf subs) (k + 8) "_law_opened" [.loc b, .loc w, .int u, .lst [.int a, .int b2]] M) Q X := by
  refine def_e (n := 9) (b := b__law_opened) [some (.loc b), some (.loc w), some (.int u), some (.lst [.int a, .int b2]), none, none, none, none, none] rfl rfl ?_
  unfold b__law_opened
  walk_at "w"
  refine take_w (k := k + 6) h.box (by omega) ⟨by omega, by omega⟩ fun n M1 n0 n1 b1 x1 => ?_
  have h1 := h.draw x1 b1
  have f1 : Fr b w p M M1 := fr_ex1 x1 (.inl rfl)
  walk_at "w"
  refine forG_j (fun e M' => ∃ (p' : Nat) (vs' : List Int) (o1 o2 o3 o4 o5 : Option D), e = [some (.loc b), some (.loc w), some (.int u), some (.lst [.int a, .int b2]), o1, o2, o3, o4, o5] ∧ WS M' b (c0 + 1 + 210 * 4) w p' vs' val ∧ Ok vs' ∧ Fm u vs' ∧ (p' = p ∨ M.length ≤ p') ∧ Fr b w p M M') ?_ ?_
  · refine for_n (fun i e M' => ∃ (p' : Nat) (vs' : List Int) (o1 o2 o3 o4 o5 : Option D), e = [some (.loc b), some (.loc w), some (.int u), some (.lst [.int a, .int b2]), o1, o2, o3, o4, o5] ∧ WS M' b (c0 + 1 + 210 * i) w p' vs' val ∧ Ok vs' ∧ Fm u vs' ∧ (p' = p ∨ M.length ≤ p') ∧ Fr b w p M M')
      ⟨p, vs, none, none, none, none, none, rfl, h1.le (by omega), ho, hf, .inl rfl, f1⟩ (fun i d e M' hd hi => ?_) fun e M' hi => ?_
    · obtain ⟨rfl, lt⟩ := rng_at hd
      obtain ⟨p2, vs2, o1, o2, o3, o4, o5, rfl, h2, ho2, hf2, hp2, f2⟩ := hi
      have lt2 : i < 3 := by omega
      have ol := ho2.len
      obtain ⟨R1, R2, R3⟩ := rd_fm hu ol.1 (fun x hx => (ho2.ct x hx).1) hf2
      obtain ⟨r0, rs, rm⟩ := rd_sw (vs := vs2) ⟨by omega, ol.2⟩ ho2.ct
      walk_at "w"
      refine s_ife ?_
      walk_at "w"
      refine law_told_right_w (k := k) h2 (by omega) ho2 hu hf2 (hp _ R1) fun M3 h3 f3 => ?_
      walk_at "w"
      refine view_w h3 ?_
      walk_at "w"
      refine law_reading_w (k := k + 5) h3.row ol ho2.ct hu hf2 ?_
      walk_at "w"
      refine ife_j (fun e M' => ∃ (vs3 : List Int) (o4 o5 : Option D), e = [some (.loc b), some (.loc w), some (.int u), some (.lst [.int a, .int b2]), some (.int (0 + i)), some (.int (rd vs2).1), some (.lst ((rd vs2).2.map pD)), o4, o5] ∧ WS M' b (c0 + 1 + 210 * i + 5) w p2 vs3 val ∧ Ok vs3 ∧ Fm u vs3 ∧ Fr b w p M M') ?_ ?_
      · walk_at "w"
        refine ne_nil_p (y := .lst _) rfl rfl rs ?_
        walk_at "w"
        refine ifnb_w (fun g => ?_) fun g => ?_
        · have pos : 0 < (rd vs2).2.length := by
            cases z : (rd vs2).2 with
            | nil => rw [z] at g; cases g
            | cons => simp
          walk_at "w"
          rw [List.length_map]
          refine take_w (k := k + 6) h3.box (by omega) ⟨by omega, by have := rs.1; omega⟩ fun s M4 s0 s1 b4 x4 => ?_
          obtain ⟨s, rfl⟩ := Int.eq_ofNat_of_zero_le s0
          have h4 := h3.draw x4 b4
          walk_at "w"
          refine law_content_w (k := k + 5) b4 (by omega) fun y M5 hy b5 x5 => ?_
          have h5 := h4.draw x5 b5
          obtain ⟨pos2, xv, e1, e2, e3⟩ := R2 s (by omega)
          walk_at "w"
          rw [cut_lo (by omega), Int.toNat_natCast, ← List.map_take]
          refine ix_w (x := .lst _) rfl (by omega) (d := pD ((pos2 : Int), xv)) (by rw [Int.toNat_natCast, List.getElem?_map, e1]; rfl) ?_
          unfold pD
          walk_at "w"
          refine add_lst_w (by simp; have := rs.1; omega) ?_
          have ea : List.map (fun p : Int × Int => D.tup [D.int p.1, D.int p.2]) ((rd vs2).2.take s) ++ [D.tup [D.int (pos2 : Int), D.int y]] = ((rd vs2).2.take s ++ [((pos2 : Int), y)]).map pD := by rw [List.map_append]; rfl
          rw [ea]
          walk_at "w"
          refine law_written_w (k := k + 6) h5 (fun z hz => ?_) fun M6 h6 x6 => ?_
          · rcases List.mem_append.mp hz with hz | hz
            · obtain ⟨z1, z2, _⟩ := rm z (List.mem_of_mem_take hz)
              exact ⟨z1, z2⟩
            · rw [List.mem_singleton] at hz; subst hz
              exact ⟨by simp, by simp; omega⟩
          rw [app_snoc] at h6
          have ok6 : Ok ((app ((rd vs2).2.take s) vs2).set pos2 y) := (Ok.app ho2 fun z hz => by
            obtain ⟨_, _, z3⟩ := rm z (List.mem_of_mem_take hz)
            rw [z3]; exact r0).set pos2 hy
          walk_at "w"
          exact ⟨_, _, _, rfl, h6.le (by omega), ok6, e3 y, ((f2.trans hp2 f3).trans hp2 (fr_ex1 (x4.trans x5) (.inl rfl))).trans hp2 (fr_ex1 x6 (.inr (.inr rfl)))⟩
        · walk_at "w"
          exact ⟨vs2, _, _, rfl, h3.le (by omega), ho2, hf2, f2.trans hp2 f3⟩
      · rintro e M4 ⟨vs3, o4, o5, rfl, h4, ho4, hf4, f4⟩
        walk_at "w"
        refine law_losses_w (k := k + 5) h4 (by omega) ho4 hf4 fun p5 vs5 M5 h5 ho5 hf5 hp5 f5 => ?_
        walk_at "w"
        refine ⟨p5, vs5, _, _, _, _, _, rfl, h5.le (by push_cast; omega), ho5, hf5, ?_, f4.trans hp2 f5⟩
        have := f4.1
        rcases hp5 with z | z
        · rw [z]; exact hp2
        · exact .inr (by omega)
    · obtain ⟨p2, vs2, o1, o2, o3, o4, o5, rfl, h2, ho2, hf2, hp2, f2⟩ := hi
      rw [rng_len] at h2
      exact ⟨p2, vs2, o1, o2, o3, o4, o5, rfl, h2.le (by omega), ho2, hf2, hp2, f2⟩
  · rintro e M' ⟨p2, vs2, o1, o2, o3, o4, o5, rfl, h2, ho2, hf2, hp2, f2⟩
    have ol := ho2.len
    obtain ⟨R1, R2, R3⟩ := rd_fm hu ol.1 (fun x hx => (ho2.ct x hx).1) hf2
    obtain ⟨r0, rs, rm⟩ := rd_sw (vs := vs2) ⟨by omega, ol.2⟩ ho2.ct
    walk_at "w"
    refine s_ife ?_
    walk_at "w"
    refine law_told_right_w (k := k) h2 (by omega) ho2 hu hf2 (hp _ R1) fun M3 h3 f3 => ?_
    walk_at "w"
    refine view_w h3 ?_
    walk_at "w"
    refine law_reading_w (k := k + 5) h3.row ol ho2.ct hu hf2 ?_
    walk_at "w"
    refine law_written_w (k := k + 6) h3 (fun z hz => ⟨(rm z hz).1, (rm z hz).2.1⟩) fun M4 h4 x4 => ?_
    walk_at "w"
    refine ⟨_, put_dic h4.dic rfl (by show 2 < 1000; decide), ?_⟩
    rw [wv_putw]
    have h5 := h4.valTo (rd vs2).1
    walk_at "w"
    refine q p2 _ _ _ (h5.le (by omega)) (Ok.app ho2 fun z hz => by rw [(rm z hz).2.2]; exact r0) ?_ R3 hp2 (((f2.trans hp2 f3).trans hp2 (fr_ex1 x4 (.inr (.inr rfl)))).trans hp2 (fr_ex1 .set (.inr (.inl rfl))))
    rcases R1 with z | z
    · rw [z]; exact hu
    · rw [z]; exact v3_nx hu
end
end K40

set_option Elab.async false
set_option linter.all false
set_option maxRecDepth 100000
set_option maxHeartbeats 0
namespace K40
open PySem PySem.Spec En
local macro_rules | `(tactic| walk_at "w") => `(tactic| repeat (first | (with_reducible refine Step.go ?_) | ((with_reducible refine' a_mt ?mth ?mtq); (case mth => assumption)) | ((with_reducible refine g_tup ?_ ?_); exact rfl) | ((with_reducible refine g_tupL ?_ ?_); exact rfl) | ((with_reducible refine r_mod ?_ ?_); (first | decide | assumption | omega)) | ((with_reducible refine r_div ?_ ?_); (first | decide | assumption | omega)) | ((with_reducible refine r_mul ?_ ?_); (first | decide | assumption | omega)) | ((with_reducible refine r_mulI ?_ ?_); (first | decide | assumption | omega)) | ((with_reducible refine r_pow ?_ ?_); (first | decide | assumption | omega)) | ((with_reducible refine r_tup ?_ ?_); exact Nat.le_of_ble_eq_true rfl) | ((with_reducible refine r_frz ?_ ?_); exact Nat.le_of_ble_eq_true rfl) | ((with_reducible refine r_new ?_ ?_); exact Nat.le_of_ble_eq_true rfl) | ((with_reducible refine r_r1 ?_ ?_); (first | decide | assumption | omega)) | ((with_reducible refine r_r3 ?_ ?_); (first | assumption | (unfold En.R3; omega))) | ((with_reducible refine r_l3 ?_ ?_); (first | assumption | (unfold En.R3; omega))) | ((with_reducible refine r_ln3 ?_ ?_); (first | assumption | (unfold En.R3; omega))) | ((with_reducible refine r_lenR ?_ ?_); (first | assumption | (unfold En.R3; omega))) | ((with_reducible refine r_r2 ?_ ?_); (first | decide | assumption | omega)) | ((with_reducible refine r_rl1 ?_ ?_); (first | decide | assumption | omega)) | ((with_reducible refine r_rl2 ?_ ?_); (first | decide | assumption | omega)) | ((with_reducible refine r_rn1 ?_ ?_); (first | decide | assumption | omega)) | ((with_reducible refine r_rn2 ?_ ?_); (first | decide | assumption | omega)) | ((with_reducible refine a_len ?_ ?_); exact rfl) | ((with_reducible refine i_dt ?_ ?_); (first | decide | assumption | exact rfl)) | ((with_reducible refine i_df ?_ ?_); (first | decide | assumption)) | ((with_reducible refine i_ndt ?_ ?_); (first | decide | assumption | exact rfl)) | ((with_reducible refine i_ndf ?_ ?_); (first | decide | assumption))))
local macro_rules | `(tactic| walk_at "i") => `(tactic| (refine s_ife ?_; walk_at "w"))
theorem St.erase {val : Int} {vs : List Int} (h : St val vs) (t : Nat) (h3 : 2 < vs.length) : St val (vs.eraseIdx t) := by
  rcases h with h | rfl
  · exact .inl fun x hx => h x (List.mem_of_mem_eraseIdx hx)
  · simp at h3
/-- the value whose form a row has amid a change -/
def cu (val new : Int) : Int := if new = (val + 2) % 3 then new else val
theorem cu_v3 {val new : Int} (h : V3 val) (h2 : V3 new) : V3 (cu val new) := by unfold cu; split <;> assumption
theorem cu_in {val new : Int} (h : V3 val) (h2 : V3 new) (ne : new ≠ val) : ∀ x : Int, x = cu val new ∨ x = nx (cu val new) → x ∈ [val, new] := by
  intro x hx
  have : x = val ∨ x = new := by
    unfold cu nx V3 at *
    split at hx <;> omega
  rcases this with rfl | rfl <;> simp
theorem stp_sw {val new : Int} {vs : List Int} (hl : vs.length ≤ 64) (h : V3 new) : Sw (stp val new vs) ∧ ∀ p ∈ stp val new vs, 0 ≤ p.1 ∧ p.1 < vs.length ∧ p.2 = new := by
  have hw := wr_sw (vs := vs) (val := new) hl (by unfold V3 at h; omega)
  have hm : ∀ p ∈ wr vs new, 0 ≤ p.1 ∧ p.1 < vs.length ∧ p.2 = new := fun p hp => by
    obtain ⟨h1, h2, h3⟩ := wrF_mem hp
    exact ⟨by omega, by omega, h3⟩
  unfold stp
  split
  · exact ⟨⟨by simp, fun p hp => by cases hp⟩, fun p hp => by cases hp⟩
  · split
    · exact ⟨hw, hm⟩
    · exact ⟨⟨by rw [List.length_reverse]; exact hw.1, fun p hp => hw.2 p (List.mem_reverse.mp hp)⟩, fun p hp => hm p (List.mem_reverse.mp hp)⟩
theorem stp_cut {val new : Int} {vs : List Int} {k : Nat} (hv : V3 val) (hn : V3 new) (hs : St val vs) (hk : k < (stp val new vs).length) : new ≠ val ∧ ∃ (p : Nat) (x : Int), (stp val new vs)[k]? = some ((p : Int), x) ∧ p < vs.length ∧ ∀ y, Fm (cu val new) ((app ((stp val new vs).take k) vs).set p y) := by
  have ne : new ≠ val := fun z => by
    unfold stp at hk
    rw [if_pos z] at hk; simp at hk
  refine ⟨ne, ?_⟩
  by_cases h : new = nx val
  · have e : stp val new vs = wr vs new := by unfold stp; rw [if_neg ne, if_pos h]
    have ec : cu val new = val := by unfold cu; rw [if_neg (by unfold nx V3 at *; omega)]
    rw [e] at hk ⊢
    rw [ec]
    subst h
    obtain ⟨p, h1, h2, h3⟩ := cut_up (st_fm hs) hk
    exact ⟨p, _, h1, h2, h3⟩
  · have e : stp val new vs = (wr vs new).reverse := by unfold stp; rw [if_neg ne, if_neg h]
    have en : new = (val + 2) % 3 := by unfold nx V3 at *; omega
    have ec : cu val new = new := by unfold cu; rw [if_pos en]
    have ev : nx new = val := by unfold nx V3 at *; omega
    rw [e] at hk ⊢
    rw [ec]
    rw [List.length_reverse] at hk
    obtain ⟨p, h1, h2, h3⟩ := cut_dn (st_fm2 hn (by rw [ev]; exact hs)) hk
    exact ⟨p, _, h1, h2, h3⟩
theorem stp_all {val new : Int} {vs : List Int} (hs : St val vs) : St new (app (stp val new vs) vs) := by
  unfold stp
  by_cases h : new = val
  · rw [if_pos h, h]; exact hs
  · rw [if_neg h]
    split
    · exact .inl (app_uni vs new)
    · exact .inl (app_uniR vs new)
section
variable {k : Nat} {M : Mem} {Q : D → Mem → Prop} {X : Xp} {b w p : Nat} {c0 : Int} {vs : List Int} {val : Int}
theorem WS.other {c : Option Cell} {n : Nat} (h : WS M b c0 w p vs val) (h1 : n ≠ b) (h2 : n ≠ w) (h3 : n ≠ p) : WS (M.set n c) b c0 w p vs val :=
  ⟨h.box.put h1, (List.getElem?_set_ne h2).trans h.dic, lst_same h.row (List.getElem?_set_ne h3), h.bw, h.bp, h.wp⟩
theorem Fr.setNew {M M' : Mem} {c : Option Cell} {n : Nat} (a : Fr b w p M M') (h : M.length ≤ n) : Fr b w p M (M'.set n c) :=
  ⟨by rw [List.length_set]; exact a.1, fun m hm h1 h2 h3 => (List.getElem?_set_ne (by omega)).trans (a.2 m hm h1 h2 h3)⟩
theorem law_rests_w (h : WS M b c0 w p vs val) (hc : c0 ≤ 800000) (ho : Ok vs) (hv : V3 val) (hs : St val vs) (q : ∀ M', WS M' b (c0 + 5) w p vs val → Fr b w p M M' → Q (.bl true) M') : wR (callI tbl (subOf subs) (k + 7) "_law_rests" [.loc b, .loc w] M) Q X := by
  have ol := ho.len
  have bl := h.box.lt
  have wl := h.wl
  have pl := h.pl
  refine def_e (n := 6) (b := b__law_rests) [some (.loc b), some (.loc w), none, none, none, none] rfl rfl ?_
  unfold b__law_rests
  walk_at "w"
  refine view_w h ?_
  walk_at "w"
  refine view_w h ?_
  walk_at "w"
  refine list_new (x := .loc p) h.row ?_
  have l1 : lstAt (M ++ [some (.lst (vs.map D.int))]) M.length = some (vs.map D.int) := lst_last
  have h1 := h.keep (M' := M ++ [some (.lst (vs.map D.int))]) .new
  have f1 : Fr b w p M (M ++ [some (.lst (vs.map D.int))]) := Keep.fr .new
  obtain ⟨n, hn⟩ : ∃ n, n = M.length := ⟨_, rfl⟩
  rw [← hn] at l1 ⊢
  revert l1 h1 f1
  generalize M ++ [some (Cell.lst (vs.map D.int))] = M1
  intro h1 f1 l1
  walk_at "w"
  refine take_w (k := k + 5) h1.box (by omega) ⟨by omega, by omega⟩ fun m M2 m0 m1 b2 x2 => ?_
  have h2 := h1.draw x2 b2
  have l2 := lst_same l1 (x2.same n (by omega))
  have f2 := f1.trans (.inl rfl) (fr_ex1 (w := w) (p := p) x2 (.inl rfl))
  walk_at "w"
  refine forG_j (fun e M' => ∃ (o : Option D) (ls : List Int), e = [some (.loc b), some (.loc w), some (.loc p), some (.loc n), o, none] ∧ WS M' b (c0 + 5) w p vs val ∧ lstAt M' n = some (ls.map D.int) ∧ Ok ls ∧ St val ls ∧ Fr b w p M M') ?_ ?_
  · refine for_n (fun i e M' => ∃ (o : Option D) (ls : List Int), e = [some (.loc b), some (.loc w), some (.loc p), some (.loc n), o, none] ∧ WS M' b (c0 + 1 + i) w p vs val ∧ lstAt M' n = some (ls.map D.int) ∧ Ok ls ∧ St val ls ∧ Fr b w p M M') ⟨none, vs, rfl, h2.le (by omega), l2, ho, hs, f2⟩ (fun i d e M' hd hi => ?_) fun e M' hi => ?_
    · obtain ⟨rfl, lt⟩ := rng_at hd
      obtain ⟨o, ls, rfl, h3, l3, ho3, hs3, f3⟩ := hi
      have lt2 : i < 4 := by omega
      walk_at "w"
      refine s_ife ?_
      walk_at "w"
      refine len_loc l3 ?_
      walk_at "w"
      rw [List.length_map]
      refine if_w (fun g => ?_) fun g => ?_
      · have o3 := ho3.len
        walk_at "w"
        refine len_loc l3 ?_
        walk_at "w"
        rw [List.length_map]
        refine take_w (k := k + 5) h3.box (by omega) ⟨by omega, by omega⟩ fun t M4 t0 t1 b4 x4 => ?_
        obtain ⟨t, rfl⟩ := Int.eq_ofNat_of_zero_le t0
        have h4 := h3.draw x4 b4
        have l4 := lst_same l3 (x4.same n (by omega))
        walk_at "w"
        have ex : ls[t]? = some ls[t] := List.getElem?_eq_getElem (by omega)
        refine popAt_w l4 (by omega) (by omega) (d := .int ls[t]) (by rw [Int.toNat_natCast]; exact vget ex) ?_
        rw [erase_map, Int.toNat_natCast]
        have l5 := lst_set (ys := (ls.eraseIdx t).map D.int) l4
        have f4 := f3.trans (.inl rfl) (fr_ex1 (w := w) (p := p) x4 (.inl rfl))
        have h5 := h4.other (c := some (.lst ((ls.eraseIdx t).map D.int))) (n := n) (by omega) (by omega) (by omega)
        walk_at "w"
        exact ⟨_, _, rfl, h5.le (by push_cast; omega), l5, ho3.erase t (by omega) (by omega), hs3.erase t (by omega), f4.setNew (by omega)⟩
      · walk_at "w"
        exact ⟨_, ls, rfl, h3.le (by push_cast; omega), l3, ho3, hs3, f3⟩
    · obtain ⟨o, ls, rfl, h3, l3, ho3, hs3, f3⟩ := hi
      rw [rng_len] at h3
      exact ⟨o, ls, rfl, h3.le (by omega), l3, ho3, hs3, f3⟩
  · rintro e M3 ⟨o, ls, rfl, h3, l3, ho3, hs3, f3⟩
    have okP : ∀ d ∈ ([.loc p, .loc n] : List D), ∃ (r : Nat) (rs : List Int), d = .loc r ∧ lstAt M3 r = some (rs.map D.int) ∧ Ok rs ∧ St val rs := fun d hd => by
      simp only [List.mem_cons, List.not_mem_nil, or_false] at hd
      rcases hd with rfl | rfl
      · exact ⟨p, vs, rfl, h3.row, ho, hs⟩
      · exact ⟨n, ls, rfl, l3, ho3, hs3⟩
    walk_at "w"
    refine forG_j (fun e M' => ∃ (o o2 : Option D), e = [some (.loc b), some (.loc w), some (.loc p), some (.loc n), o, o2] ∧ Keep M3 M') ?_ ?_
    · refine for_n (fun i e M' => ∃ (o o2 : Option D), e = [some (.loc b), some (.loc w), some (.loc p), some (.loc n), o, o2] ∧ Keep M3 M') ⟨_, _, rfl, .refl⟩ (fun i d e M' hd hi => ?_) fun e M' hi => hi
      obtain ⟨o, o2, rfl, k4⟩ := hi
      obtain ⟨r, rs, rfl, lr, hor, hsr⟩ := okP d (List.mem_of_getElem? hd)
      have lr4 := k4.lst lr
      have er := rd_st hv hor.len.1 hsr
      have h4 := h3.keep k4
      walk_at "w"
      refine s_ife ?_
      walk_at "w"
      refine list_frz (x := .loc r) lr4 ?_
      walk_at "w"
      refine three_told_w (k := k) (vs := rs) (u := val) (.inr rfl) hor.len hor.ct hv (st_fm hsr) ?_
      rw [er]
      dsimp only
      have k5 : Keep M3 (M' ++ [some (.lst (([] : List (Int × Int)).map pD))]) := k4.trans .new
      revert k5
      generalize M' ++ [some (Cell.lst (([] : List (Int × Int)).map pD))] = M5
      intro k5
      have h5 := h3.keep k5
      walk_at "w"
      refine repr_int (by unfold V3 at hv; omega) ?_
      walk_at "w"
      refine value_w h5 ?_
      walk_at "w"
      refine repr_int (by unfold V3 at hv; omega) ?_
      walk_at "w"
      refine nes_same ?_
      walk_at "w"
      refine tuple_loc (k5.lst lr) (by rw [List.length_map]; have := hor.len; omega) ?_
      walk_at "w"
      refine three_mending_w (k := k) (vs := rs) (u := val) (.inl rfl) hor.len hor.ct hv (st_fm hsr) ?_
      rw [er]
      dsimp only
      have l6 : lstAt (M5 ++ [some (.lst (([] : List (Int × Int)).map pD))]) M5.length = some (([] : List (Int × Int)).map pD) := lst_last
      have k6 : Keep M3 (M5 ++ [some (.lst (([] : List (Int × Int)).map pD))]) := k5.trans .new
      revert l6 k6
      generalize M5 ++ [some (Cell.lst (([] : List (Int × Int)).map pD))] = M6
      generalize M5.length = n5
      intro l6 k6
      walk_at "w"
      refine ne_nil_p (y := .loc n5) (ws := []) (show rdLst M6 (.loc n5) = _ from l6) rfl ⟨by simp, fun p hp => by cases hp⟩ ?_
      walk_at "w"
      refine i_ff ?_
      walk_at "w"
      exact ⟨_, _, rfl, k6⟩
    · rintro e M4 ⟨o4, o5, rfl, k4⟩
      have h4 := h3.keep k4
      walk_at "w"
      refine list_frz (x := .loc p) h4.row ?_
      walk_at "w"
      refine value_w h4 ?_
      walk_at "w"
      refine three_steps_w (k := k) (vs := vs) (val := val) (new := val) (.inr rfl) ol ho.ct hv hv hs fun n5 M5 k5 g5 l5 => ?_
      have es : stp val val vs = [] := by unfold stp; rw [if_pos rfl]
      rw [es] at l5
      walk_at "w"
      refine eq_nil_p (y := .loc n5) (ws := []) (show rdLst M5 (.loc n5) = _ from l5) rfl ⟨by simp, fun p hp => by cases hp⟩ ?_
      walk_at "w"
      exact q M5 (h4.keep k5) (f3.trans (.inl rfl) (k4.trans k5).fr)
end
end K40

set_option Elab.async false
set_option linter.all false
set_option maxRecDepth 100000
set_option maxHeartbeats 0
namespace K40
open PySem PySem.Spec En
local macro_rules | `(tactic| walk_at "w") => `(tactic| repeat (first | (with_reducible refine Step.go ?_) | ((with_reducible refine' a_mt ?mth ?mtq); (case mth => assumption)) | ((with_reducible refine g_tup ?_ ?_); exact rfl) | ((with_reducible refine g_tupL ?_ ?_); exact rfl) | ((with_reducible refine r_mod ?_ ?_); (first | decide | assumption | omega)) | ((with_reducible refine r_div ?_ ?_); (first | decide | assumption | omega)) | ((with_reducible refine r_mul ?_ ?_); (first | decide | assumption | omega)) | ((with_reducible refine r_mulI ?_ ?_); (first | decide | assumption | omega)) | ((with_reducible refine r_pow ?_ ?_); (first | decide | assumption | omega)) | ((with_reducible refine r_tup ?_ ?_); exact Nat.le_of_ble_eq_true rfl) | ((with_reducible refine r_frz ?_ ?_); exact Nat.le_of_ble_eq_true rfl) | ((with_reducible refine r_new ?_ ?_); exact Nat.le_of_ble_eq_true rfl) | ((with_reducible refine r_r1 ?_ ?_); (first | decide | assumption | omega)) | ((with_reducible refine r_r3 ?_ ?_); (first | assumption | (unfold En.R3; omega))) | ((with_reducible refine r_l3 ?_ ?_); (first | assumption | (unfold En.R3; omega))) | ((with_reducible refine r_ln3 ?_ ?_); (first | assumption | (unfold En.R3; omega))) | ((with_reducible refine r_lenR ?_ ?_); (first | assumption | (unfold En.R3; omega))) | ((with_reducible refine r_r2 ?_ ?_); (first | decide | assumption | omega)) | ((with_reducible refine r_rl1 ?_ ?_); (first | decide | assumption | omega)) | ((with_reducible refine r_rl2 ?_ ?_); (first | decide | assumption | omega)) | ((with_reducible refine r_rn1 ?_ ?_); (first | decide | assumption | omega)) | ((with_reducible refine r_rn2 ?_ ?_); (first | decide | assumption | omega)) | ((with_reducible refine a_len ?_ ?_); exact rfl) | ((with_reducible refine i_dt ?_ ?_); (first | decide | assumption | exact rfl)) | ((with_reducible refine i_df ?_ ?_); (first | decide | assumption)) | ((with_reducible refine i_ndt ?_ ?_); (first | decide | assumption | exact rfl)) | ((with_reducible refine i_ndf ?_ ?_); (first | decide | assumption))))
local macro_rules | `(tactic| walk_at "i") => `(tactic| (refine s_ife ?_; walk_at "w"))
section
variable {k : Nat} {M : Mem} {Q : D → Mem → Prop} {X : Xp} {b w p : Nat} {c0 : Int} {vs : List Int} {val : Int}
theorem ws_if {new val : Int} {vs : List Int} (hv : V3 val) (hn : V3 new) : (if new = val then [] else if new = (val + 2) % 3 then (wr vs new).reverse else wr vs new) = stp val new vs := by
  unfold stp
  by_cases h : new = val
  · rw [if_pos h, if_pos h]
  · rw [if_neg h, if_neg h]
    by_cases h2 : new = nx val
    · rw [if_pos h2, if_neg (by unfold nx V3 at *; omega)]
    · rw [if_neg h2, if_pos (by unfold nx V3 at *; omega)]
theorem ix_pD0 {z : Int × Int} (q : Q (.int z.1) M) : wR (gIx (pD z) (.int 0) M) Q X := ix_w (x := pD z) (xs := [.int z.1, .int z.2]) rfl (by omega) rfl q
theorem mod3b {u : Int} (q : Q (.int ((u + 2) % 3)) M) : wR (Bop.g .mod (.int (u + 2)) (.int 3) M) Q X := by
  show wR (gMod (.int (u + 2)) (.int 3) M) Q X
  rw [mod_int (by decide)]; exact q
theorem law_change_w (h : WS M b c0 w p vs val) (hc : c0 ≤ 600000) (ho : Ok vs) (hv : V3 val) (hs : St val vs) (q : ∀ p' vs' v' M', WS M' b (c0 + 2000) w p' vs' v' → Ok vs' → V3 v' → St v' vs' → (p' = p ∨ M.length ≤ p') → Fr b w p M M' → Q (.bl true) M') : wR (callI tbl (subOf subs) (k + 9) "_law_change" [.loc b, .loc w] M) Q X := by
  have ol := ho.len
  refine def_e (n := 15) (b := b__law_change) [some (.loc b), some (.loc w), none, none, none, none, none, none, none, none, none, none, none, none, none] rfl rfl ?_
  unfold b__law_change
  walk_at "w"
  refine take_w (k := k + 7) h.box (by omega) ⟨by omega, by omega⟩ fun way M1 a0 a1 b1 x1 => ?_
  have h1 := h.draw x1 b1
  walk_at "w"
  refine take_w (k := k + 7) b1 (by omega) ⟨by omega, by omega⟩ fun by1 M2 d0 d1 b2 x2 => ?_
  have h2 := h1.draw x2 b2
  walk_at "w"
  refine take_w (k := k + 7) b2 (by omega) ⟨by omega, by omega⟩ fun low M3 l0 l1 b3 x3 => ?_
  have h3 := h2.draw x3 b3
  walk_at "w"
  refine value_w h3 ?_
  walk_at "w"
  refine take_w (k := k + 7) b3 (by omega) ⟨by omega, by omega⟩ fun new M4 n0 n1 b4 x4 => ?_
  have h4 := h3.draw x4 b4
  have f4 : Fr b w p M M4 := fr_ex1 (((x1.trans x2).trans x3).trans x4) (.inl rfl)
  have hn : V3 new := ⟨n0, by omega⟩
  obtain ⟨sw, sm⟩ := stp_sw (val := val) (new := new) (vs := vs) ol.2 hn
  walk_at "w"
  refine view_w h4 ?_
  walk_at "w"
  refine len_loc h4.row ?_
  rw [List.length_map]
  walk_at "w"
  refine lc_n (fun j acc M' => acc = (wr (vs.take j) new).map pD ∧ M' = M4) ?_ ⟨rfl, rfl⟩ (fun j d acc M5 hd hi => ?_) fun acc M5 hi => ?_
  · rw [rng_len]; omega
  · obtain ⟨rfl, lt⟩ := rng_at hd
    obtain ⟨rfl, rfl⟩ := hi
    have lt2 : j < vs.length := by omega
    have ex := List.getElem?_eq_getElem lt2
    refine ⟨[some (.loc b), some (.loc w), some (.int way), some (.int by1), some (.int low), some (.int val), some (.int new), some (.loc p), none, some (.int (0 + j)), none, none, none, none, none], rfl, ?_⟩
    have sn := wr_snoc new (vs.take j) 0 vs[j]
    rw [← take_succ ex, List.length_take, Nat.min_eq_left (by omega), Nat.zero_add] at sn
    walk_at "w"
    refine ix_loc h4.row (by omega) (d := .int vs[j]) (by rw [show ((0 : Int) + (j : Int)).toNat = j by omega]; exact vget ex) ?_
    walk_at "w"
    refine ifn_w (fun h4 => ?_) fun h4 => ?_
    · walk_at "w"
      refine ⟨?_, rfl⟩
      show _ = (wrF 0 new (vs.take (j + 1))).map pD
      rw [sn, if_neg h4, List.map_append, show (0 : Int) + (j : Int) = (j : Int) by omega]; rfl
    · refine ⟨?_, rfl⟩
      show _ = (wrF 0 new (vs.take (j + 1))).map pD
      rw [sn, if_pos h4, List.append_nil]; rfl
  obtain ⟨rfl, rfl⟩ := hi
  rw [rng_len, Int.toNat_natCast, List.take_length]
  walk_at "w"
  refine ife_j (fun e M' => M' = M5 ∧ e = [some (.loc b), some (.loc w), some (.int way), some (.int by1), some (.int low), some (.int val), some (.int new), some (.loc p), some (.lst ((if new = (val + 2) % 3 then (wr vs new).reverse else wr vs new).map pD)), none, none, none, none, none, none]) ?_ ?_
  · walk_at "w"
    refine if_w (fun g => ?_) fun g => ?_
    · walk_at "w"
      refine revL_lf ?_
      walk_at "w"
      refine ⟨rfl, ?_⟩
      rw [if_pos g, List.map_reverse]
    · walk_at "w"
      refine ⟨rfl, ?_⟩
      rw [if_neg g]
  rintro e M' ⟨rfl, rfl⟩
  walk_at "w"
  refine ife_j (fun e M2 => M2 = M' ∧ e = [some (.loc b), some (.loc w), some (.int way), some (.int by1), some (.int low), some (.int val), some (.int new), some (.loc p), some (.lst ((stp val new vs).map pD)), none, none, none, none, none, none]) ?_ ?_
  · walk_at "w"
    rw [← ws_if hv hn]
    refine if_w (fun g => ?_) fun g => ?_
    · walk_at "w"
      refine ⟨rfl, ?_⟩
      rw [if_pos g]; rfl
    · walk_at "w"
      refine ⟨rfl, ?_⟩
      rw [if_neg g]
  rintro e M6 ⟨rfl, rfl⟩
  walk_at "w"
  refine law_passed_w (k := k + 7) h4.row ol.2 fun v ev hvw => ?_
  walk_at "w"
  refine forG_j (fun e M' => ∃ (o o2 : Option D), e = [some (.loc b), some (.loc w), some (.int way), some (.int by1), some (.int low), some (.int val), some (.int new), some (.loc p), some (.lst ((stp val new vs).map pD)), none, some v, o, o2, none, none] ∧ Keep M6 M') ?_ ?_
  · refine for_n (fun i e M' => ∃ (o o2 : Option D), e = [some (.loc b), some (.loc w), some (.int way), some (.int by1), some (.int low), some (.int val), some (.int new), some (.loc p), some (.lst ((stp val new vs).map pD)), none, some v, o, o2, none, none] ∧ Keep M6 M') ⟨_, _, rfl, .refl⟩ (fun i d e M' hd hi => ?_) fun e M' hi => hi
    obtain ⟨rfl, lt⟩ := rng_at hd
    obtain ⟨o, o2, rfl, k1⟩ := hi
    walk_at "w"
    refine if_w (fun h0 => ?_) (fun h0 => ?_) <;>
    · walk_at "w"
      refine three_steps_w (k := k + 2) hvw ol ho.ct hv hn hs fun n M7 k2 nl l2 => ?_
      have k3 := k1.trans k2
      have kl : M6.length ≤ n := Nat.le_trans k1.1 nl
      walk_at "w"
      refine s_ife ?_
      walk_at "w"
      refine repr_pairs (y := .loc n) (show rdLst M7 (.loc n) = _ from l2) sw ?_
      walk_at "w"
      refine repr_pairs (y := .lst _) rfl sw ?_
      walk_at "w"
      refine nes_same ?_
      walk_at "w"
      refine app_w l2 (by rw [List.length_map]; have := sw.1; omega) ?_
      walk_at "w"
      exact ⟨_, _, rfl, k3.set kl⟩
  rintro e M7 ⟨o, o2, rfl, k7⟩
  have h7 := h4.keep k7
  have f7 := f4.trans (.inl rfl) (k7.fr (b := b) (w := w) (p := p))
  refine seq_j (fun e M' => M' = M7 ∧ e = [some (.loc b), some (.loc w), some (.int way), some (.int by1), some (.int low), some (.int val), some (.int new), some (.loc p), some (.lst ((stp val new vs).map pD)), none, some v, o, o2, some (.int (cu val new)), none]) ?_ ?_
  · walk_at "w"
    refine if_w (fun g => ?_) fun g => ?_
    · walk_at "w"
      refine ⟨rfl, ?_⟩
      rw [show cu val new = new from if_pos g]
    · walk_at "w"
      refine ⟨rfl, ?_⟩
      rw [show cu val new = val from if_neg g]
  rintro e M' ⟨rfl, rfl⟩
  walk_at "w"
  rw [List.length_map]
  have sl := sw.1
  refine take_w (k := k + 7) h7.box (by omega) ⟨by omega, by omega⟩ fun s M8 s0 s1 b8 x8 => ?_
  obtain ⟨s, rfl⟩ := Int.eq_ofNat_of_zero_le s0
  have h8 := h7.draw x8 b8
  have f8 := f7.trans (.inl rfl) (fr_ex1 (w := w) (p := p) x8 (.inl rfl))
  have okA : Ok (app (stp val new vs) vs) := Ok.app ho fun z hz => by rw [(sm z hz).2.2]; unfold V3 at hn; omega
  have full : ∀ M9, WS M9 b (c0 + 5) w p (app (stp val new vs) vs) val → Ex1 p M8 M9 → wR (callI tbl (subOf subs) (k + 8) "_law_rests" [.loc b, .loc w] (M9.set w (some (.dic (WV p new))))) Q X := fun M9 h9 x9 => by
    have h10 := h9.valTo new
    refine law_rests_w (k := k + 1) h10 (by omega) okA hn (stp_all hs) fun M11 h11 f11 => ?_
    exact q p _ new M11 (h11.le (by omega)) okA hn (stp_all hs) (.inl rfl) (((f8.trans (.inl rfl) (fr_ex1 x9 (.inr (.inr rfl)))).trans (.inl rfl) (fr_ex1 .set (.inr (.inl rfl)))).trans (.inl rfl) f11)
  walk_at "w"
  refine s_ife ?_
  walk_at "w"
  refine if_w (fun g => ?_) fun g => ?_
  · walk_at "w"
    refine law_written_w (k := k + 7) h8 (fun z hz => ⟨(sm z hz).1, (sm z hz).2.1⟩) fun M9 h9 x9 => ?_
    walk_at "w"
    refine ⟨_, put_dic h9.dic rfl (by show 2 < 1000; decide), ?_⟩
    rw [wv_putw]
    walk_at "w"
    exact full M9 (h9.le (by omega)) x9
  · walk_at "w"
    rw [List.length_map]
    refine if_w (fun g2 => ?_) fun g2 => ?_
    · walk_at "w"
      refine law_written_w (k := k + 7) h8 (fun z hz => ⟨(sm z hz).1, (sm z hz).2.1⟩) fun M9 h9 x9 => ?_
      walk_at "w"
      refine ⟨_, put_dic h9.dic rfl (by show 2 < 1000; decide), ?_⟩
      rw [wv_putw]
      walk_at "w"
      exact full M9 (h9.le (by omega)) x9
    · obtain ⟨ne, pos, xv, e1, e2, e3⟩ := stp_cut (k := s) hv hn hs (by omega)
      walk_at "w"
      rw [cut_lo (by omega), Int.toNat_natCast, ← List.map_take]
      refine ix_w (x := .lst _) rfl (by omega) (d := pD ((pos : Int), xv)) (by rw [Int.toNat_natCast, List.getElem?_map, e1]; rfl) ?_
      walk_at "w"
      refine ix_pD0 ?_
      walk_at "w"
      refine law_content_w (k := k + 6) b8 (by omega) fun y M9 hy b9 x9 => ?_
      have h9 := h8.draw x9 b9
      have f9 := f8.trans (.inl rfl) (fr_ex1 (w := w) (p := p) x9 (.inl rfl))
      walk_at "w"
      refine add_lst_w (by simp; omega) ?_
      have ea : List.map pD ((stp val new vs).take s) ++ [D.tup [D.int (pos : Int), D.int y]] = ((stp val new vs).take s ++ [((pos : Int), y)]).map pD := by rw [List.map_append]; rfl
      rw [ea]
      walk_at "w"
      refine law_written_w (k := k + 7) h9 (fun z hz => ?_) fun M10 h10 x10 => ?_
      · rcases List.mem_append.mp hz with hz | hz
        · obtain ⟨z1, z2, _⟩ := sm z (List.mem_of_mem_take hz)
          exact ⟨z1, z2⟩
        · rw [List.mem_singleton] at hz; subst hz
          exact ⟨by simp, by simp; omega⟩
      rw [app_snoc] at h10
      have ok10 : Ok ((app ((stp val new vs).take s) vs).set pos y) := (Ok.app ho fun z hz => by
        obtain ⟨_, _, z3⟩ := sm z (List.mem_of_mem_take hz)
        rw [z3]; unfold V3 at hn; omega).set pos hy
      have f10 := f9.trans (.inl rfl) (fr_ex1 (b := b) (w := w) x10 (.inr (.inr rfl)))
      walk_at "w"
      refine law_losses_w (k := k + 6) h10 (by omega) ok10 (e3 y) fun p11 vs11 M11 h11 ho11 hf11 hp11 f11 => ?_
      have f11b := f10.trans (.inl rfl) f11
      have pp : p11 = p ∨ M.length ≤ p11 := hp11.imp id fun z => Nat.le_trans f10.1 z
      walk_at "w"
      refine law_opened_w (k := k) h11 (by omega) ho11 (cu_v3 hv hn) hf11 (cu_in hv hn ne) fun p12 vs12 v12 M12 h12 ho12 hv12 hs12 hp12 f12 => ?_
      have f12b := f11b.trans pp f12
      have pp2 : p12 = p ∨ M.length ≤ p12 := by
        rcases hp12 with z | z
        · rw [z]; exact pp
        · exact .inr (Nat.le_trans f11b.1 z)
      walk_at "w"
      refine law_rests_w (k := k + 1) h12 (by omega) ho12 hv12 hs12 fun M13 h13 f13 => ?_
      exact q p12 vs12 v12 M13 (h13.le (by omega)) ho12 hv12 hs12 pp2 (f12b.trans pp2 f13)
end
end K40

set_option Elab.async false
set_option linter.all false
set_option maxRecDepth 100000
set_option maxHeartbeats 0
namespace K40
open PySem PySem.Spec En
local macro_rules | `(tactic| walk_at "w") => `(tactic| repeat (first | (with_reducible refine Step.go ?_) | ((with_reducible refine' a_mt ?mth ?mtq); (case mth => assumption)) | ((with_reducible refine g_tup ?_ ?_); exact rfl) | ((with_reducible refine g_tupL ?_ ?_); exact rfl) | ((with_reducible refine r_mod ?_ ?_); (first | decide | assumption | omega)) | ((with_reducible refine r_div ?_ ?_); (first | decide | assumption | omega)) | ((with_reducible refine r_mul ?_ ?_); (first | decide | assumption | omega)) | ((with_reducible refine r_mulI ?_ ?_); (first | decide | assumption | omega)) | ((with_reducible refine r_pow ?_ ?_); (first | decide | assumption | omega)) | ((with_reducible refine r_tup ?_ ?_); exact Nat.le_of_ble_eq_true rfl) | ((with_reducible refine r_frz ?_ ?_); exact Nat.le_of_ble_eq_true rfl) | ((with_reducible refine r_new ?_ ?_); exact Nat.le_of_ble_eq_true rfl) | ((with_reducible refine r_r1 ?_ ?_); (first | decide | assumption | omega)) | ((with_reducible refine r_r3 ?_ ?_); (first | assumption | (unfold En.R3; omega))) | ((with_reducible refine r_l3 ?_ ?_); (first | assumption | (unfold En.R3; omega))) | ((with_reducible refine r_ln3 ?_ ?_); (first | assumption | (unfold En.R3; omega))) | ((with_reducible refine r_lenR ?_ ?_); (first | assumption | (unfold En.R3; omega))) | ((with_reducible refine r_r2 ?_ ?_); (first | decide | assumption | omega)) | ((with_reducible refine r_rl1 ?_ ?_); (first | decide | assumption | omega)) | ((with_reducible refine r_rl2 ?_ ?_); (first | decide | assumption | omega)) | ((with_reducible refine r_rn1 ?_ ?_); (first | decide | assumption | omega)) | ((with_reducible refine r_rn2 ?_ ?_); (first | decide | assumption | omega)) | ((with_reducible refine a_len ?_ ?_); exact rfl) | ((with_reducible refine i_dt ?_ ?_); (first | decide | assumption | exact rfl)) | ((with_reducible refine i_df ?_ ?_); (first | decide | assumption)) | ((with_reducible refine i_ndt ?_ ?_); (first | decide | assumption | exact rfl)) | ((with_reducible refine i_ndf ?_ ?_); (first | decide | assumption))))
local macro_rules | `(tactic| walk_at "i") => `(tactic| (refine s_ife ?_; walk_at "w"))
theorem flat1 {x : D} : ∀ n : Nat, (List.replicate n [x]).flatten = List.replicate n x
  | 0 => rfl
  | n + 1 => by rw [List.replicate_succ, List.flatten_cons, flat1 n]; rfl
/-- one world: where it stands, where its row stands, what it shows -/
structure Wr where
  w : Nat
  p : Nat
  vs : List Int
  val : Int
structure Gw (M : Mem) (r : Wr) : Prop where
  dic : M[r.w]? = some (some (.dic (WV r.p r.val)))
  row : lstAt M r.p = some (r.vs.map D.int)
  wp : r.w ≠ r.p
  ok : Ok r.vs
  v3 : V3 r.val
  st : St r.val r.vs
/-- two worlds in the list n, apart from the box b -/
structure IB (M : Mem) (b n : Nat) (f : Nat → Wr) : Prop where
  lst : lstAt M n = some [.loc (f 0).w, .loc (f 1).w]
  gw : ∀ i, i < 2 → Gw M (f i)
  nb : b ≠ n
  nw : ∀ i, i < 2 → n ≠ (f i).w ∧ n ≠ (f i).p ∧ b ≠ (f i).w ∧ b ≠ (f i).p
  ap : ∀ i j, i < 2 → j < 2 → i ≠ j → (f i).w ≠ (f j).w ∧ (f i).w ≠ (f j).p ∧ (f i).p ≠ (f j).w ∧ (f i).p ≠ (f j).p
theorem Gw.same {M M' : Mem} {r : Wr} (h : Gw M r) (h1 : M'[r.w]? = M[r.w]?) (h2 : M'[r.p]? = M[r.p]?) : Gw M' r := ⟨h1.trans h.dic, lst_same h.row h2, h.wp, h.ok, h.v3, h.st⟩
theorem Gw.wl {M : Mem} {r : Wr} (h : Gw M r) : r.w < M.length := (List.getElem?_eq_some_iff.mp h.dic).1
theorem Gw.pl {M : Mem} {r : Wr} (h : Gw M r) : r.p < M.length := lst_lt h.row
theorem IB.same {M M' : Mem} {b b' n : Nat} {f : Nat → Wr} (h : IB M b n f) (hb : b' ≠ n ∧ ∀ i, i < 2 → b' ≠ (f i).w ∧ b' ≠ (f i).p) (k : ∀ m, m < M.length → m ≠ b' → M'[m]? = M[m]?) : IB M' b' n f :=
  ⟨lst_same h.lst (k n (lst_lt h.lst) (Ne.symm hb.1)), fun i hi => (h.gw i hi).same (k _ (h.gw i hi).wl (Ne.symm (hb.2 i hi).1)) (k _ (h.gw i hi).pl (Ne.symm (hb.2 i hi).2)), hb.1, fun i hi => ⟨(h.nw i hi).1, (h.nw i hi).2.1, (hb.2 i hi).1, (hb.2 i hi).2⟩, h.ap⟩
theorem IB.self {M : Mem} {b n : Nat} {f : Nat → Wr} (h : IB M b n f) : b ≠ n ∧ ∀ i, i < 2 → b ≠ (f i).w ∧ b ≠ (f i).p := ⟨h.nb, fun i hi => ⟨(h.nw i hi).2.2.1, (h.nw i hi).2.2.2⟩⟩
theorem IB.ws {M : Mem} {b n : Nat} {c : Int} {f : Nat → Wr} (h : IB M b n f) (hb : Box M b c) {i : Nat} (hi : i < 2) : WS M b c (f i).w (f i).p (f i).vs (f i).val :=
  ⟨hb, (h.gw i hi).dic, (h.gw i hi).row, (h.nw i hi).2.2.1, (h.nw i hi).2.2.2, (h.gw i hi).wp⟩
theorem IB.at {M : Mem} {b n : Nat} {f : Nat → Wr} (h : IB M b n f) {i : Nat} (hi : i < 2) {Q : D → Mem → Prop} {X : Xp} (q : Q (.loc (f i).w) M) : wR (gIx (.loc n) (.int (i : Nat)) M) Q X := by
  refine ix_loc h.lst (by omega) (d := .loc (f i).w) ?_ q
  rcases (show i = 0 ∨ i = 1 by omega) with rfl | rfl <;> rfl
def put1 (f : Nat → Wr) (i : Nat) (r : Wr) : Nat → Wr := fun j => if j = i then r else f j
theorem put1_same {f : Nat → Wr} {i : Nat} {r : Wr} : put1 f i r i = r := if_pos rfl
theorem put1_ne {f : Nat → Wr} {i j : Nat} {r : Wr} (h : j ≠ i) : put1 f i r j = f j := if_neg h
/-- one world's row has become another one -/
theorem IB.turn {M M' : Mem} {b n : Nat} {c : Int} {f : Nat → Wr} (h : IB M b n f) {i : Nat} (hi : i < 2) {p' : Nat} {vs' : List Int} {v' : Int} (hw : WS M' b c (f i).w p' vs' v') (ok : Ok vs') (v3 : V3 v') (st : St v' vs') (hp : p' = (f i).p ∨ M.length ≤ p') (fr : Fr b (f i).w (f i).p M M') : IB M' b n (put1 f i ⟨(f i).w, p', vs', v'⟩) := by
  have oth : ∀ j, j < 2 → j ≠ i → Gw M' (f j) := fun j hj ne => by
    obtain ⟨a1, a2, a3, a4⟩ := h.ap j i hj hi ne
    obtain ⟨_, _, b1, b2⟩ := h.nw j hj
    exact (h.gw j hj).same (fr.2 _ (h.gw j hj).wl (Ne.symm b1) a1 a2) (fr.2 _ (h.gw j hj).pl (Ne.symm b2) a3 a4)
  obtain ⟨n1, n2, _, _⟩ := h.nw i hi
  have nl := lst_lt h.lst
  have lt : ∀ j, j < 2 → (f j).w < M.length ∧ (f j).p < M.length := fun j hj => ⟨(h.gw j hj).wl, (h.gw j hj).pl⟩
  have wsame : ∀ j, (put1 f i ⟨(f i).w, p', vs', v'⟩ j).w = (f j).w := fun j => by
    unfold put1
    split
    · rename_i e; rw [e]
    · rfl
  refine ⟨?_, fun j hj => ?_, h.nb, fun j hj => ?_, fun j k hj hk ne => ?_⟩
  · rw [wsame, wsame]
    exact lst_same h.lst (fr.2 n nl (Ne.symm h.nb) n1 n2)
  · by_cases e : j = i
    · subst e; rw [put1_same]; exact ⟨hw.dic, hw.row, hw.wp, ok, v3, st⟩
    · rw [put1_ne e]; exact oth j hj e
  · by_cases e : j = i
    · subst e; rw [put1_same]
      exact ⟨n1, by rcases hp with z | z <;> show n ≠ p' <;> omega, hw.bw, hw.bp⟩
    · rw [put1_ne e]; exact h.nw j hj
  · have hpne : ∀ m, m ≠ (f i).p → m < M.length → m ≠ p' := fun m h1 h2 => by rcases hp with z | z <;> omega
    by_cases e : j = i
    · by_cases e2 : k = i
      · omega
      · subst e
        rw [put1_same, put1_ne e2]
        obtain ⟨a1, a2, a3, a4⟩ := h.ap j k hj hk ne
        obtain ⟨l1, l2⟩ := lt k hk
        exact ⟨a1, a2, Ne.symm (hpne _ (Ne.symm a3) l1), Ne.symm (hpne _ (Ne.symm a4) l2)⟩
    · by_cases e2 : k = i
      · subst e2
        rw [put1_same, put1_ne e]
        obtain ⟨a1, a2, a3, a4⟩ := h.ap j k hj hk ne
        obtain ⟨l1, l2⟩ := lt j hj
        exact ⟨a1, hpne _ a2 l1, a3, hpne _ a4 l2⟩
      · rw [put1_ne e, put1_ne e2]; exact h.ap j k hj hk ne
/-- a new world in the place of one -/
theorem IB.put {M M' : Mem} {b n : Nat} {c : Int} {f : Nat → Wr} (h : IB M b n f) {i : Nat} (hi : i < 2) {w' p' : Nat} {vs' : List Int} {v' : Int} (hw : WS M' b c w' p' vs' v') (ok : Ok vs') (v3 : V3 v') (st : St v' vs') (hl : M.length ≤ w' ∧ M.length ≤ p') (ev : Evo b M M') :
    ∃ j, L2.ixN ([D.loc (f 0).w, D.loc (f 1).w] : List D).length (i : Nat) = some j ∧ lstAt M' n = some [.loc (f 0).w, .loc (f 1).w] ∧ IB (M'.set n (some (.lst (([D.loc (f 0).w, D.loc (f 1).w] : List D).set j (.loc w'))))) b n (put1 f i ⟨w', p', vs', v'⟩) := by
  have nl := lst_lt h.lst
  have ln : lstAt M' n = some [.loc (f 0).w, .loc (f 1).w] := lst_same h.lst (ev.same n nl (Ne.symm h.nb))
  refine ⟨i, ixN_nat hi, ln, ?_⟩
  have lt : ∀ j, j < 2 → (f j).w < M.length ∧ (f j).p < M.length := fun j hj => ⟨(h.gw j hj).wl, (h.gw j hj).pl⟩
  have g1 : ∀ j, j < 2 → Gw (M'.set n (some (.lst (([D.loc (f 0).w, D.loc (f 1).w] : List D).set i (.loc w'))))) (f j) := fun j hj => by
    obtain ⟨a1, a2, b1, b2⟩ := h.nw j hj
    exact (h.gw j hj).same ((List.getElem?_set_ne a1).trans (ev.same _ (lt j hj).1 (Ne.symm b1))) ((List.getElem?_set_ne a2).trans (ev.same _ (lt j hj).2 (Ne.symm b2)))
  have nw' : n ≠ w' := by omega
  have np' : n ≠ p' := by omega
  refine ⟨?_, fun j hj => ?_, h.nb, fun j hj => ?_, fun j k hj hk ne => ?_⟩
  · rw [lst_set ln]
    rcases (show i = 0 ∨ i = 1 by omega) with rfl | rfl <;> rfl
  · by_cases e : j = i
    · subst e; rw [put1_same]; exact ⟨(List.getElem?_set_ne nw').trans hw.dic, lst_same hw.row (List.getElem?_set_ne np'), hw.wp, ok, v3, st⟩
    · rw [put1_ne e]; exact g1 j hj
  · by_cases e : j = i
    · subst e; rw [put1_same]; exact ⟨nw', np', hw.bw, hw.bp⟩
    · rw [put1_ne e]; exact h.nw j hj
  · by_cases e : j = i
    · by_cases e2 : k = i
      · omega
      · subst e
        rw [put1_same, put1_ne e2]
        obtain ⟨l1, l2⟩ := lt k hk
        exact ⟨by show w' ≠ _; omega, by show w' ≠ _; omega, by show p' ≠ _; omega, by show p' ≠ _; omega⟩
    · by_cases e2 : k = i
      · subst e2
        rw [put1_same, put1_ne e]
        obtain ⟨l1, l2⟩ := lt j hj
        exact ⟨by show _ ≠ w'; omega, by show _ ≠ p'; omega, by show _ ≠ w'; omega, by show _ ≠ p'; omega⟩
      · rw [put1_ne e, put1_ne e2]; exact h.ap j k hj hk ne
section
variable {k : Nat} {M : Mem} {Q : D → Mem → Prop} {X : Xp} {b : Nat} {c0 : Int}
theorem law_new_row_w {great : Bool} (hb : Box M b c0) (hc : c0 ≤ 800000) (q : ∀ w p vs val M', WS M' b (c0 + 2) w p vs val → Ok vs → V3 val → St val vs → M.length ≤ w ∧ M.length ≤ p → Evo b M M' → Q (.loc w) M') : wR (callI tbl (subOf subs) (k + 2) "_law_new_row" [.loc b, .bl great] M) Q X := by
  refine def_e (n := 4) (b := b__law_new_row) [some (.loc b), some (.bl great), none, none] rfl rfl ?_
  unfold b__law_new_row
  have main : ∀ (m z : Int) M2, 0 ≤ m → m < 63 → 0 ≤ z → z < 3 → Box M2 b (c0 + 2) → Ex1 b M M2 → wSs (callI tbl (subOf subs) (k + 1)) (subOf subs) (.one (.ret (.dsp [("view" : Str), ("value" : Str)] (.cons (.op (.mul true) (.lst false (.cons (.var 3) .nil)) (.var 2)) (.cons (.var 3) .nil))))) [some (.loc b), some (.bl great), some (.int (2 + m)), some (.int z)] M2 (PoD Q X) := fun m z M2 m0 m1 z0 z1 b2 x2 => by
    walk_at "w"
    refine mul_lst_n ⟨by simp, by omega, by omega⟩ ?_
    rw [flat1, show List.replicate (2 + m).toNat (D.int z) = (List.replicate (2 + m).toNat z).map D.int from by rw [List.map_replicate]]
    have l3 : lstAt (M2 ++ [some (.lst ((List.replicate (2 + m).toNat z).map D.int))]) M2.length = some ((List.replicate (2 + m).toNat z).map D.int) := lst_last
    have b3 := b2.new (x := some (.lst ((List.replicate (2 + m).toNat z).map D.int)))
    have e3 : Evo b M (M2 ++ [some (.lst ((List.replicate (2 + m).toNat z).map D.int))]) := x2.evo.trans .new
    have hl : M.length = M2.length := x2.len.symm
    have bl := b2.lt
    have len3 : (M2 ++ [some (Cell.lst ((List.replicate (2 + m).toNat z).map D.int))]).length = M2.length + 1 := by simp
    revert l3 b3 e3 len3
    generalize M2 ++ [some (Cell.lst ((List.replicate (2 + m).toNat z).map D.int))] = M3
    intro l3 b3 e3 len3
    walk_at "w"
    refine dsp_w ⟨rfl, by decide, by decide⟩ ?_
    walk_at "w"
    refine q M3.length M2.length (List.replicate (2 + m).toNat z) z _ ⟨b3.new, ?_, ?_, by omega, by omega, by omega⟩ ⟨by rw [List.length_replicate]; omega, fun x hx => by rw [(List.mem_replicate.mp hx).2]; omega⟩ ⟨z0, by omega⟩ (.inl fun x hx => (List.mem_replicate.mp hx).2) ⟨by omega, by omega⟩ (e3.trans .new)
    · rw [List.getElem?_append_right (Nat.le_refl _), Nat.sub_self]; rfl
    · exact lst_same l3 (List.getElem?_append_left (by omega))
  walk_at "w"
  refine ifb_w (fun g => ?_) fun g => ?_ <;>
  · walk_at "w"
    refine take_w (k := k) hb (by omega) ⟨by omega, by omega⟩ fun m M1 m0 m1 b1 x1 => ?_
    walk_at "w"
    refine take_w (k := k) b1 (by omega) ⟨by omega, by omega⟩ fun z M2 z0 z1 b2 x2 => ?_
    walk_at "w"
    exact main m z M2 m0 (by omega) z0 z1 (b2.le (by omega)) (x1.trans x2)
end
end K40

set_option Elab.async false
set_option linter.all false
set_option maxRecDepth 100000
set_option maxHeartbeats 0
namespace K40
open PySem PySem.Spec En
local macro_rules | `(tactic| walk_at "w") => `(tactic| repeat (first | (with_reducible refine Step.go ?_) | ((with_reducible refine' a_mt ?mth ?mtq); (case mth => assumption)) | ((with_reducible refine g_tup ?_ ?_); exact rfl) | ((with_reducible refine g_tupL ?_ ?_); exact rfl) | ((with_reducible refine r_mod ?_ ?_); (first | decide | assumption | omega)) | ((with_reducible refine r_div ?_ ?_); (first | decide | assumption | omega)) | ((with_reducible refine r_mul ?_ ?_); (first | decide | assumption | omega)) | ((with_reducible refine r_mulI ?_ ?_); (first | decide | assumption | omega)) | ((with_reducible refine r_pow ?_ ?_); (first | decide | assumption | omega)) | ((with_reducible refine r_tup ?_ ?_); exact Nat.le_of_ble_eq_true rfl) | ((with_reducible refine r_frz ?_ ?_); exact Nat.le_of_ble_eq_true rfl) | ((with_reducible refine r_new ?_ ?_); exact Nat.le_of_ble_eq_true rfl) | ((with_reducible refine r_r1 ?_ ?_); (first | decide | assumption | omega)) | ((with_reducible refine r_r3 ?_ ?_); (first | assumption | (unfold En.R3; omega))) | ((with_reducible refine r_l3 ?_ ?_); (first | assumption | (unfold En.R3; omega))) | ((with_reducible refine r_ln3 ?_ ?_); (first | assumption | (unfold En.R3; omega))) | ((with_reducible refine r_lenR ?_ ?_); (first | assumption | (unfold En.R3; omega))) | ((with_reducible refine r_r2 ?_ ?_); (first | decide | assumption | omega)) | ((with_reducible refine r_rl1 ?_ ?_); (first | decide | assumption | omega)) | ((with_reducible refine r_rl2 ?_ ?_); (first | decide | assumption | omega)) | ((with_reducible refine r_rn1 ?_ ?_); (first | decide | assumption | omega)) | ((with_reducible refine r_rn2 ?_ ?_); (first | decide | assumption | omega)) | ((with_reducible refine a_len ?_ ?_); exact rfl) | ((with_reducible refine i_dt ?_ ?_); (first | decide | assumption | exact rfl)) | ((with_reducible refine i_df ?_ ?_); (first | decide | assumption)) | ((with_reducible refine i_ndt ?_ ?_); (first | decide | assumption | exact rfl)) | ((with_reducible refine i_ndf ?_ ?_); (first | decide | assumption))))
local macro_rules | `(tactic| walk_at "i") => `(tactic| (refine s_ife ?_; walk_at "w"))
section
variable {k : Nat} {Q : D → Mem → Prop} {X : Xp}
theorem law_w {M : Mem} {ns : List Int} (hl : ns.length ≤ 63) : wR (callI tbl (subOf subs) (k + 11) "law" [.scr (ns.map D.int)] M) (fun d _ => d = .bl true) X := by
  refine def_e (n := 7) (b := b_law) [some (.scr (ns.map D.int)), none, none, none, none, none, none] rfl rfl ?_
  unfold b_law
  walk_at "w"
  refine cell_w (k := k + 9) ⟨by omega, by omega⟩ hl fun z0 => ?_
  walk_at "w"
  refine box_w (k := k + 9) fun cb0 b0 => ?_
  obtain ⟨b, hb⟩ : ∃ b, b = M.length := ⟨_, rfl⟩
  rw [← hb] at b0 ⊢
  revert b0
  generalize M ++ [some cb0] = M0
  intro b0
  walk_at "w"
  refine take_w (k := k + 9) b0 (by omega) ⟨by omega, by omega⟩ fun g0 M1 g1 g2 b1 x1 => ?_
  walk_at "w"
  generalize decide (g0 = 0) = gr
  refine law_new_row_w (k := k + 8) b1 (by omega) fun w0 p0 vs0 v0 M2 h2 ok2 v32 st2 l2 e2 => ?_
  walk_at "w"
  refine law_new_row_w (k := k + 8) h2.box (by omega) fun w1 p1 vs1 v1 M3 h3 ok3 v33 st3 l3 e3 => ?_
  walk_at "w"
  have ln : lstAt (M3 ++ [some (.lst [.loc w0, .loc w1])]) M3.length = some [.loc w0, .loc w1] := lst_last
  have bl := h3.box.lt
  have w0l := h2.wl
  have p0l := h2.pl
  have w1l := h3.wl
  have p1l := h3.pl
  have e3l := e3.len
  have ib0 : IB (M3 ++ [some (.lst [.loc w0, .loc w1])]) b M3.length (fun i => if i = 0 then ⟨w0, p0, vs0, v0⟩ else ⟨w1, p1, vs1, v1⟩) := by
    have ks : ∀ m, m < M3.length → (M3 ++ [some (Cell.lst [.loc w0, .loc w1])])[m]? = M3[m]? := fun m h => List.getElem?_append_left h
    refine ⟨ln, fun i hi => ?_, by omega, fun i hi => ?_, fun i j hi hj ne => ?_⟩
    · rcases (show i = 0 ∨ i = 1 by omega) with rfl | rfl
      · exact ⟨(ks w0 (by omega)).trans ((e3.same w0 w0l (Ne.symm h2.bw)).trans h2.dic), lst_same h2.row ((ks p0 (by omega)).trans (e3.same p0 p0l (Ne.symm h2.bp))), h2.wp, ok2, v32, st2⟩
      · exact ⟨(ks w1 w1l).trans h3.dic, lst_same h3.row (ks p1 p1l), h3.wp, ok3, v33, st3⟩
    · have a1 := h2.bw
      have a2 := h2.bp
      have a3 := h3.bw
      have a4 := h3.bp
      rcases (show i = 0 ∨ i = 1 by omega) with rfl | rfl
      · exact ⟨by show M3.length ≠ w0; omega, by show M3.length ≠ p0; omega, a1, a2⟩
      · exact ⟨by show M3.length ≠ w1; omega, by show M3.length ≠ p1; omega, a3, a4⟩
    · rcases (show i = 0 ∧ j = 1 ∨ i = 1 ∧ j = 0 by omega) with ⟨rfl, rfl⟩ | ⟨rfl, rfl⟩
      · exact ⟨by show w0 ≠ w1; omega, by show w0 ≠ p1; omega, by show p0 ≠ w1; omega, by show p0 ≠ p1; omega⟩
      · exact ⟨by show w1 ≠ w0; omega, by show w1 ≠ p0; omega, by show p1 ≠ w0; omega, by show p1 ≠ p0; omega⟩
  revert ib0
  generalize M3 ++ [some (Cell.lst [.loc w0, .loc w1])] = M4
  generalize M3.length = n
  generalize (fun i => if i = 0 then (⟨w0, p0, vs0, v0⟩ : Wr) else ⟨w1, p1, vs1, v1⟩) = f0
  clear ln h2 h3 e2 e3 ok2 ok3 st2 st3 l2 l3 b0 b1 x1 bl w0l p0l w1l p1l e3l
  intro ib0
  walk_at "w"
  rw [List.length_map]
  obtain ⟨m, hm, m0, m1⟩ : ∃ m : Int, (if (if ((ns.length : Nat) : Int) < 48 then ((ns.length : Nat) : Int) else 48) > 16 then (if ((ns.length : Nat) : Int) < 48 then ((ns.length : Nat) : Int) else 48) else 16) = m ∧ 0 ≤ m ∧ m ≤ 48 := by
    refine ⟨_, rfl, ?_, ?_⟩ <;> (repeat' split) <;> omega
  rw [hm]
  walk_at "w"
  refine for_n (fun i e M' => ∃ (b' : Nat) (f : Nat → Wr) (o4 o5 o6 : Option D), e = [some (.scr (ns.map D.int)), some (.loc b'), some (.bl gr), some (.loc n), o4, o5, o6] ∧ IB M' b' n f) ⟨b, f0, none, none, none, rfl, ib0⟩ (fun i d e M' hd hi => ?_) fun e M' hi => ?_
  · obtain ⟨rfl, lt⟩ := rng_at hd
    obtain ⟨b', f, o4, o5, o6, rfl, ib⟩ := hi
    have lt2 : i < 48 := by omega
    walk_at "w"
    refine cell_w (k := k + 9) ⟨by omega, by omega⟩ hl fun z1 => ?_
    walk_at "w"
    refine box_w (k := k + 9) fun cb bx => ?_
    have nl := lst_lt ib.lst
    have ib1 : IB (M' ++ [some cb]) M'.length n f := ib.same ⟨by omega, fun j hj => ⟨by have := (ib.gw j hj).wl; omega, by have := (ib.gw j hj).pl; omega⟩⟩ fun m hm _ => List.getElem?_append_left hm
    revert ib1 bx
    generalize M' ++ [some cb] = M5
    generalize M'.length = b2
    intro bx ib1
    walk_at "w"
    refine take_w (k := k + 9) bx (by omega) ⟨by omega, by omega⟩ fun kk M6 k0 k1 b6 x6 => ?_
    obtain ⟨kk, rfl⟩ := Int.eq_ofNat_of_zero_le k0
    have hk : kk < 2 := by omega
    have ib6 := ib1.same ib1.self fun m _ ne => x6.same m ne
    walk_at "w"
    refine take_w (k := k + 9) b6 (by omega) ⟨by omega, by omega⟩ fun ag M7 a0 a1 b7 x7 => ?_
    have ib7 := ib6.same ib6.self fun m _ ne => x7.same m ne
    walk_at "w"
    refine ife_j (fun e M8 => ∃ f2, e = [some (.scr (ns.map D.int)), some (.loc b2), some (.bl gr), some (.loc n), some (.int (0 + i)), some (.int (kk : Nat)), some (.int ag)] ∧ IB M8 b2 n f2 ∧ Box M8 b2 4) ?_ ?_
    · have skip : ∃ f2, ([some (.scr (ns.map D.int)), some (.loc b2), some (.bl gr), some (.loc n), some (.int (0 + i)), some (.int (kk : Nat)), some (.int ag)] : Ev) = [some (.scr (ns.map D.int)), some (.loc b2), some (.bl gr), some (.loc n), some (.int (0 + i)), some (.int (kk : Nat)), some (.int ag)] ∧ IB M7 b2 n f2 ∧ Box M7 b2 4 := ⟨f, rfl, ib7, b7.le (by omega)⟩
      have ws7 := ib7.ws b7 hk
      walk_at "w"
      refine ib7.at hk ?_
      walk_at "w"
      refine view_w ws7 ?_
      walk_at "w"
      refine len_loc ws7.row ?_
      walk_at "w"
      rw [List.length_map]
      refine if_w (fun g => ?_) fun g => ?_
      · walk_at "w"
        refine if_w (fun g2 => ?_) fun g2 => ?_
        · walk_at "w"
          refine if_w (fun g3 => ?_) fun g3 => ?_
          · walk_at "w"
            refine law_new_row_w (k := k + 8) b7 (by omega) fun w8 p8 vs8 v8 M8 h8 ok8 v38 st8 l8 e8 => ?_
            obtain ⟨j, ej, ln8, ib8⟩ := ib7.put hk h8 ok8 v38 st8 l8 e8
            walk_at "w"
            refine ⟨_, set_lst ln8 ej, ?_⟩
            exact ⟨_, rfl, ib8, (h8.box.put (Ne.symm ib7.nb)).le (by omega)⟩
          · walk_at "w"
            exact skip
        · walk_at "w"
          exact skip
      · walk_at "w"
        exact skip
    rintro e M8 ⟨f8, rfl, ib8, b8⟩
    walk_at "w"
    refine ife_j (fun e M9 => ∃ f2, e = [some (.scr (ns.map D.int)), some (.loc b2), some (.bl gr), some (.loc n), some (.int (0 + i)), some (.int (kk : Nat)), some (.int ag)] ∧ IB M9 b2 n f2 ∧ Box M9 b2 6) ?_ ?_
    · walk_at "w"
      refine ifb_w (fun g => ?_) fun g => ?_
      · walk_at "w"
        refine if_w (fun g2 => ?_) fun g2 => ?_
        · walk_at "w"
          refine law_new_row_w (k := k + 8) b8 (by omega) fun w9 p9 vs9 v9 M9 h9 ok9 v39 st9 l9 e9 => ?_
          obtain ⟨j, ej, ln9, ib9⟩ := ib8.put (i := 0) (by omega) h9 ok9 v39 st9 l9 e9
          walk_at "w"
          refine ⟨_, set_lst ln9 ej, ?_⟩
          exact ⟨_, rfl, ib9, (h9.box.put (Ne.symm ib8.nb)).le (by omega)⟩
        · walk_at "w"
          exact ⟨f8, rfl, ib8, b8.le (by omega)⟩
      · walk_at "w"
        exact ⟨f8, rfl, ib8, b8.le (by omega)⟩
    rintro e M9 ⟨f9, rfl, ib9, b9⟩
    have ws9 := ib9.ws b9 hk
    walk_at "w"
    refine s_ife ?_
    walk_at "w"
    refine ib9.at hk ?_
    walk_at "w"
    refine law_change_w (k := k + 1) ws9 (by omega) (ib9.gw kk hk).ok (ib9.gw kk hk).v3 (ib9.gw kk hk).st fun p10 vs10 v10 M10 h10 ok10 v310 st10 hp10 f10 => ?_
    have ib10 := ib9.turn hk h10 ok10 v310 st10 hp10 f10
    have hk2 : 1 - kk < 2 := by omega
    have ws10 := ib10.ws h10.box hk2
    walk_at "w"
    rw [show (1 : Int) - (kk : Int) = ((1 - kk : Nat) : Int) by omega]
    refine ib10.at hk2 ?_
    walk_at "w"
    refine law_rests_w (k := k + 3) ws10 (by omega) (ib10.gw _ hk2).ok (ib10.gw _ hk2).v3 (ib10.gw _ hk2).st fun M11 h11 f11 => ?_
    have ib11 := ib10.turn hk2 h11 (ib10.gw _ hk2).ok (ib10.gw _ hk2).v3 (ib10.gw _ hk2).st (.inl rfl) f11
    walk_at "w"
    exact ⟨b2, _, _, _, _, rfl, ib11⟩
  · obtain ⟨b', f, o4, o5, o6, rfl, ib⟩ := hi
    walk_at "w"
    rfl
theorem goal : ∀ ns : List Int, ns.length ≤ 63 → (∀ z ∈ ns, Builtin.Int.intBits z ≤ 1048576) → ∃ M, callI tbl prg.sub 30 "law" [.scr (ns.map D.int)] [] = .ok (.bl true) M := by
  intro ns hl _
  have h := law_w (k := 19) (X := fun _ _ _ => False) (M := []) hl
  show ∃ M, callI tbl (subOf subs) 30 "law" [.scr (ns.map D.int)] [] = .ok (.bl true) M
  cases e : callI tbl (subOf subs) 30 "law" [.scr (ns.map D.int)] [] with
  | ok d M =>
    rw [e] at h
    obtain rfl : d = .bl true := h
    exact ⟨M, rfl⟩
  | exc => rw [e] at h; exact h.elim
  | bad => rw [e] at h; exact h.elim
end
end K40

set_option Elab.async false
set_option linter.all false
set_option maxRecDepth 100000
set_option maxHeartbeats 0
namespace K40
open PySem PySem.Spec PyProof.Rows L2 En
theorem goalE : Goal := by
  unfold Goal
  rw [name_eq]
  exact goal
end K40
open PySem PySem.W PySem.Calls PyProof.Rows
theorem PySem.Challenge.cw_sparesum_k40_whole_three_values_kept_holds : PySem.Challenge.rw_sparesum_k40_whole_three_values_kept.Holds :=
  K40.holds_of K40.goalE
