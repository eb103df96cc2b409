import PyProof.Rows.All
import Wide.All
import OpenK.AllK
import Wide.FinOn
import HandS.ForMost
import HandS.ForExc
import HandS.Evl
import HandS.TupAny
import HandS.TupLe
import HandS.TupMul
import HandS.Deep
import HandS.Conv
import HandS.Zip
import HandS.TupSets
import HandS.SortRule
import HandS.ExcInit
import HandS.ExcValue
import HandS.ExcIs
import HandS.Flow
import HandS.IsInst
import HandS.Wide
import HandS.RaiseMore
import PyProof.ReprReads
import HandS.Defaults
import KE.SortData
import KE.DataAny
import KE.KTupSum
import KE.GoesEnum
import KE.GoesMore
import HandS.Style
import KE.SortLaws
import HandS.ExcField
import HandS.WordsExc
import HandS.Lambda
import KE.KExcIs
import HandS.HeadHook4
import HandS.NestedK
import HandS.EndTab
import KE.KStateDown
import HandS.Head0
import HandS.Head1
import HandS.Head2
import HandS.HeadEnd
import HandS.HeadHook1
import HandS.HeadHook2
import HandS.HeadHook3
import HandS.SortInts
import PyProof.InstNe
import OpenK.KWalk
import KE.DataMinMax
import ObjForm.LawKit
import KE.KDictKeyed
import HandS.Iter
import HandS.Sort
import KE.KDictDisplayH
import HandS.Small
import HandS.Text
import HandS.FStr
import PySem.Challenge.RW_noneleft_k04_texts_of_books
set_option Elab.async false
set_option linter.all false
set_option maxRecDepth 100000
set_option maxHeartbeats 4000000
namespace NL
open PySem PySem.Spec PyProof.Rows L2
abbrev Sub (S S' : Hp) : Prop := Evl.Ex S S'
theorem Sub.rfl' (S : Hp) : Sub S S := Evl.Ex.refl S
theorem Sub.tr {A B C : Hp} (x : Sub A B) (y : Sub B C) : Sub A C := Evl.Ex.trans x y
theorem Sub.fresh {S H : Hp} (x : Sub S H) {p : Addr} (h : H p = none) : S p = none := Evl.fresh_back x h
theorem Sub.up {S S' : Hp} (x : Sub S S') {p : Addr} {o : HO} (h : S p = none) (h' : S' p = some o) : Sub (upd S p o) S' := fun a u e => by
  by_cases ha : a = p
  · subst ha
    rw [upd_same] at e
    cases e
    exact h'
  · rw [upd_ne ha] at e
    exact x a u e
theorem Sub.both {S H : Hp} (x : Sub S H) {p : Addr} {o : HO} : Sub (upd S p o) (upd H p o) := fun a u e => by
  by_cases ha : a = p
  · subst ha
    rw [upd_same] at e ⊢
    exact e
  · rw [upd_ne ha] at e ⊢
    exact x a u e
abbrev D := PyData
mutual
def Rp (K : PySem.W.Frag) (S : Hp) : D → V → Prop
  | .none, v => v = .non
  | .bool b, v => v = .bl b
  | .int i, v => v = .int i
  | .str x, v => v = .str x
  | .list ds, v => ∃ a xs, v = .ref a ∧ S a = some (.lst xs) ∧ RpA K S ds xs
  | .tuple ds, v => ∃ a xs, v = .ref a ∧ S a = some (.tup xs) ∧ RpA K S ds xs
  | .dict [], v => ∃ a, v = .ref a ∧ S a = some (.dK [])
  | .dict (_ :: _), _ => False
def RpA (K : PySem.W.Frag) (S : Hp) : List D → List V → Prop
  | [], vs => vs = []
  | d :: ds, vs => ∃ v r, vs = v :: r ∧ Rp K S d v ∧ RpA K S ds r
end
section
variable {K : PySem.W.Frag} {S S' : Hp}
mutual
theorem Rp.mono (e : Sub S S') : ∀ (d : D) (v : V), Rp K S d v → Rp K S' d v
  | .none, _, h => h
  | .bool _, _, h => h
  | .int _, _, h => h
  | .str _, _, h => h
  | .list ds, _, ⟨a, xs, h1, h2, h3⟩ => ⟨a, xs, h1, e a _ h2, RpA.mono e ds xs h3⟩
  | .tuple ds, _, ⟨a, xs, h1, h2, h3⟩ => ⟨a, xs, h1, e a _ h2, RpA.mono e ds xs h3⟩
  | .dict [], _, ⟨a, h1, h2⟩ => ⟨a, h1, e a _ h2⟩
  | .dict (_ :: _), _, h => h.elim
theorem RpA.mono (e : Sub S S') : ∀ (ds : List D) (vs : List V), RpA K S ds vs → RpA K S' ds vs
  | [], _, h => h
  | d :: ds, _, ⟨v, r, h1, h2, h3⟩ => ⟨v, r, h1, Rp.mono e d v h2, RpA.mono e ds r h3⟩
end
theorem RpA.len : ∀ {ds : List D} {vs : List V}, RpA K S ds vs → vs.length = ds.length
  | [], _, h => by subst h; rfl
  | d :: ds, _, ⟨v, r, h1, _, h3⟩ => by subst h1; rw [List.length_cons, List.length_cons, RpA.len h3]
theorem RpA.at : ∀ {ds : List D} {vs : List V} {i : Nat} {d : D}, RpA K S ds vs → ds[i]? = some d → ∃ v, vs[i]? = some v ∧ Rp K S d v
  | [], _, _, _, _, e => by simp at e
  | _ :: _, _, 0, _, ⟨v, r, h1, h2, _⟩, e => by
    simp at e; subst e; subst h1
    exact ⟨v, rfl, h2⟩
  | _ :: ds, _, i + 1, d, ⟨v, r, h1, _, h3⟩, e => by
    subst h1
    obtain ⟨w, a, b⟩ := RpA.at (i := i) h3 (by simpa using e)
    exact ⟨w, by simpa using a, b⟩
theorem RpA.app : ∀ {ds es : List D} {vs ws : List V}, RpA K S ds vs → RpA K S es ws → RpA K S (ds ++ es) (vs ++ ws)
  | [], _, _, _, h, g => by subst h; exact g
  | _ :: _, _, _, _, ⟨v, r, h1, h2, h3⟩, g => by
    subst h1
    exact ⟨v, _, rfl, h2, RpA.app h3 g⟩
theorem RpA.take : ∀ {ds : List D} {vs : List V} (n : Nat), RpA K S ds vs → RpA K S (ds.take n) (vs.take n)
  | [], _, n, h => by subst h; cases n <;> exact rfl
  | _ :: _, _, 0, ⟨v, r, h1, _, _⟩ => by subst h1; exact rfl
  | _ :: _, _, n + 1, ⟨v, r, h1, h2, h3⟩ => by subst h1; exact ⟨v, _, rfl, h2, RpA.take n h3⟩
theorem RpA.drop : ∀ {ds : List D} {vs : List V} (n : Nat), RpA K S ds vs → RpA K S (ds.drop n) (vs.drop n)
  | [], _, n, h => by subst h; cases n <;> exact rfl
  | _ :: _, _, 0, h => h
  | _ :: _, _, n + 1, ⟨v, r, h1, _, h3⟩ => by subst h1; exact RpA.drop n h3
theorem RpA.ints : ∀ (ns : List Int), RpA K S (ns.map PyData.int) (ns.map V.int)
  | [] => rfl
  | n :: ns => ⟨.int n, _, rfl, rfl, RpA.ints ns⟩
theorem RpA.ints_inv : ∀ {ns : List Int} {vs : List V}, RpA K S (ns.map PyData.int) vs → vs = ns.map V.int
  | [], _, h => h
  | _ :: _, _, ⟨v, r, h1, h2, h3⟩ => by
    have h2' : v = .int _ := h2
    rw [h1, h2', RpA.ints_inv h3]; rfl
theorem RpA.bools_inv : ∀ {bs : List Bool} {vs : List V}, RpA K S (bs.map PyData.bool) vs → vs = bs.map V.bl
  | [], _, h => h
  | _ :: _, _, ⟨v, r, h1, h2, h3⟩ => by
    have h2' : v = .bl _ := h2
    rw [h1, h2', RpA.bools_inv h3]; rfl
mutual
def nodct : D → Bool
  | .dict _ => false
  | .list ds => nodctA ds
  | .tuple ds => nodctA ds
  | _ => true
def nodctA : List D → Bool
  | [] => true
  | d :: ds => nodct d && nodctA ds
end
mutual
theorem Rp.dp : ∀ {d : D} {v : V}, nodct d = true → Rp K S d v → Dp K S v d
  | .none, _, _, h => by cases h; exact .non
  | .bool _, _, _, h => by cases h; exact .bl _
  | .int _, _, _, h => by cases h; exact .int _
  | .str _, _, _, h => by cases h; exact .str _
  | .list ds, _, n, ⟨a, xs, h1, h2, h3⟩ => by subst h1; exact .lst (SqL.of h2) (RpA.dp (by simpa [nodct] using n) h3)
  | .tuple ds, _, n, ⟨a, xs, h1, h2, h3⟩ => by subst h1; exact .tup (SqT.of h2) (RpA.dp (by simpa [nodct] using n) h3)
  | .dict _, _, n, _ => by simp [nodct] at n
theorem RpA.dp : ∀ {ds : List D} {vs : List V}, nodctA ds = true → RpA K S ds vs → DpAll K S vs ds
  | [], _, _, h => by subst h; exact .nil
  | d :: ds, _, n, ⟨v, r, h1, h2, h3⟩ => by
    subst h1
    simp only [nodctA, Bool.and_eq_true] at n
    exact .cons (Rp.dp n.1 h2) (RpA.dp n.2 h3)
end
end
inductive SV where
  /-- plain data -/
  | d (x : D)
  /-- an object of this def's own that may be written -/
  | o (a : Addr)
  /-- an instance that no one writes -/
  | ins (C : Addr) (fs : List (Str × D))
  /-- a list that was there ahead of the law -/
  | q (x : List D)
  /-- an error that was caught: where it is, its dict, what it keeps under `at` -/
  | x (a dd : Addr) (d : D)
  /-- a value as it is -/
  | v (v : V)
  /-- not told -/
  | u
def Flds (K : PySem.W.Frag) (S : Hp) : List (Str × D) → List (Str × V) → Prop
  | [], vs => vs = []
  | (n, d) :: fs, vs => ∃ v r, vs = (n, v) :: r ∧ Rp K S d v ∧ Flds K S fs r
def Rel (K : PySem.W.Frag) (S : Hp) : SV → V → Prop
  | .d x, v => Rp K S x v
  | .o a, v => v = .ref a
  | .ins C fs, v => ∃ a dx vs, v = .ref a ∧ S a = some (.ins C dx vs) ∧ Flds K S fs vs
  | .q xs, v => ∃ a vs, v = .ref a ∧ SqL K S a vs ∧ RpA K S xs vs
  | .x a dd d, v => v = .ref a ∧ ∃ w, S dd = some (.xd [("at", w)]) ∧ Rp K S d w
  | .v w, v => v = w
  | .u, _ => True
def RelS (K : PySem.W.Frag) (S : Hp) : SV → Option V → Prop
  | .u, _ => True
  | s, some v => Rel K S s v
  | _, none => False
/-- slots, one by one -/
def Slots (K : PySem.W.Frag) (S : Hp) : List SV → L2.St → Prop
  | [], σ => σ = []
  | s :: ρ, σ => ∃ v r, σ = v :: r ∧ RelS K S s v ∧ Slots K S ρ r
def RelA (K : PySem.W.Frag) (S : Hp) : List SV → List V → Prop
  | [], vs => vs = []
  | s :: ρ, vs => ∃ v r, vs = v :: r ∧ Rel K S s v ∧ RelA K S ρ r
section
variable {K : PySem.W.Frag} {S S' : Hp}
theorem Flds.mono (e : Sub S S') : ∀ {fs : List (Str × D)} {vs : List (Str × V)}, Flds K S fs vs → Flds K S' fs vs
  | [], _, h => h
  | (_, d) :: _, _, ⟨v, r, h1, h2, h3⟩ => ⟨v, r, h1, Rp.mono e d v h2, Flds.mono e h3⟩
theorem Flds.get {f : Str} {d : D} : ∀ {fs : List (Str × D)} {vs : List (Str × V)}, Flds K S fs vs → fs.lookup f = some d → ∃ v, vs.lookup f = some v ∧ Rp K S d v
  | [], _, _, e => by simp at e
  | (n, x) :: fs, _, ⟨v, r, h1, h2, h3⟩, e => by
    subst h1
    by_cases h : f = n
    · subst h
      simp [List.lookup] at e
      subst e
      exact ⟨v, by simp [List.lookup], h2⟩
    · have q : (f == n) = false := by simpa using h
      simp only [List.lookup, q] at e ⊢
      exact Flds.get h3 e
theorem Rel.mono (e : Sub S S') : ∀ {s : SV} {v : V}, Rel K S s v → Rel K S' s v
  | .d x, v, h => Rp.mono e x v h
  | .o _, _, h => h
  | .ins _ _, _, ⟨a, dx, vs, h1, h2, h3⟩ => ⟨a, dx, vs, h1, e a _ h2, h3.mono e⟩
  | .q xs, _, ⟨a, vs, h1, h2, h3⟩ => ⟨a, vs, h1, Evl.ex_l e h2, RpA.mono e _ _ h3⟩
  | .x _ dd d, _, ⟨h1, w, h2, h3⟩ => ⟨h1, w, e dd _ h2, Rp.mono e d w h3⟩
  | .v _, _, h => h
  | .u, _, _ => trivial
theorem RelS.mono (e : Sub S S') : ∀ {s : SV} {v : Option V}, RelS K S s v → RelS K S' s v
  | .u, _, _ => trivial
  | .d x, some v, h => Rp.mono e x v h
  | .o _, some _, h => h
  | .ins _ _, some _, h => Rel.mono (s := .ins _ _) e h
  | .q _, some _, h => Rel.mono (s := .q _) e h
  | .x _ _ _, some _, h => Rel.mono (s := .x _ _ _) e h
  | .v _, some _, h => h
  | .d _, none, h => h.elim
  | .o _, none, h => h.elim
  | .ins _ _, none, h => h.elim
  | .q _, none, h => h.elim
  | .x _ _ _, none, h => h.elim
  | .v _, none, h => h.elim
theorem RelS.of : ∀ {s : SV} {v : V}, Rel K S s v → RelS K S s (some v)
  | .u, _, _ => trivial
  | .d _, _, h => h
  | .o _, _, h => h
  | .ins _ _, _, h => h
  | .q _, _, h => h
  | .x _ _ _, _, h => h
  | .v _, _, h => h
theorem RelS.to : ∀ {s : SV} {v : Option V}, s ≠ .u → RelS K S s v → ∃ w, v = some w ∧ Rel K S s w
  | .u, _, n, _ => absurd rfl n
  | .d _, some v, _, h => ⟨v, rfl, h⟩
  | .o _, some v, _, h => ⟨v, rfl, h⟩
  | .ins _ _, some v, _, h => ⟨v, rfl, h⟩
  | .q _, some v, _, h => ⟨v, rfl, h⟩
  | .x _ _ _, some v, _, h => ⟨v, rfl, h⟩
  | .v _, some v, _, h => ⟨v, rfl, h⟩
  | .d _, none, _, h => h.elim
  | .o _, none, _, h => h.elim
  | .ins _ _, none, _, h => h.elim
  | .q _, none, _, h => h.elim
  | .x _ _ _, none, _, h => h.elim
  | .v _, none, _, h => h.elim
theorem Slots.mono (e : Sub S S') : ∀ {ρ : List SV} {σ : L2.St}, Slots K S ρ σ → Slots K S' ρ σ
  | [], _, h => h
  | _ :: _, _, ⟨v, r, h1, h2, h3⟩ => ⟨v, r, h1, h2.mono e, h3.mono e⟩
theorem RelA.mono (e : Sub S S') : ∀ {ρ : List SV} {σ : List V}, RelA K S ρ σ → RelA K S' ρ σ
  | [], _, h => h
  | _ :: _, _, ⟨v, r, h1, h2, h3⟩ => ⟨v, r, h1, h2.mono e, h3.mono e⟩
theorem Slots.at : ∀ {ρ : List SV} {σ : L2.St} {i : Nat} {s : SV}, Slots K S ρ σ → ρ[i]? = some s → ∃ v, σ[i]? = some v ∧ RelS K S s v
  | [], _, _, _, _, e => by simp at e
  | _ :: _, _, 0, _, ⟨v, r, h1, h2, _⟩, e => by simp at e; subst e; subst h1; exact ⟨v, rfl, h2⟩
  | _ :: _, _, i + 1, s, ⟨v, r, h1, _, h3⟩, e => by
    subst h1
    obtain ⟨w, a, b⟩ := Slots.at (i := i) h3 (by simpa using e)
    exact ⟨w, by simpa using a, b⟩
theorem Slots.set {v : Option V} {s : SV} (h : RelS K S s v) : ∀ {ρ : List SV} {σ : L2.St} (i : Nat), Slots K S ρ σ → Slots K S (ρ.set i s) (σ.set i v)
  | [], _, _, e => by subst e; exact rfl
  | _ :: _, _, 0, ⟨w, r, h1, _, h3⟩ => by subst h1; exact ⟨v, r, rfl, h, h3⟩
  | _ :: _, _, i + 1, ⟨w, r, h1, h2, h3⟩ => by subst h1; exact ⟨w, _, rfl, h2, Slots.set h i h3⟩
theorem Slots.len : ∀ {ρ : List SV} {σ : L2.St}, Slots K S ρ σ → σ.length = ρ.length
  | [], _, h => by subst h; rfl
  | _ :: _, _, ⟨_, _, h1, _, h3⟩ => by subst h1; rw [List.length_cons, List.length_cons, Slots.len h3]
theorem RelA.len : ∀ {ρ : List SV} {σ : List V}, RelA K S ρ σ → σ.length = ρ.length
  | [], _, h => by subst h; rfl
  | _ :: _, _, ⟨_, _, h1, _, h3⟩ => by subst h1; rw [List.length_cons, List.length_cons, RelA.len h3]
theorem RelA.slots : ∀ {ρ : List SV} {vs : List V}, RelA K S ρ vs → Slots K S ρ (vs.map some)
  | [], _, h => by subst h; rfl
  | _ :: _, _, ⟨v, r, h1, h2, h3⟩ => by subst h1; exact ⟨some v, _, rfl, RelS.of h2, h3.slots⟩
theorem Slots.app : ∀ {ρ τ : List SV} {σ υ : L2.St}, Slots K S ρ σ → Slots K S τ υ → Slots K S (ρ ++ τ) (σ ++ υ)
  | [], _, _, _, h, g => by subst h; exact g
  | _ :: _, _, _, _, ⟨v, r, h1, h2, h3⟩, g => by subst h1; exact ⟨v, _, rfl, h2, h3.app g⟩
theorem Slots.us : ∀ (n : Nat) (σ : L2.St), σ.length = n → Slots K S (List.replicate n .u) σ
  | 0, σ, h => List.eq_nil_of_length_eq_zero h
  | n + 1, [], h => by simp at h
  | n + 1, v :: r, h => ⟨v, r, rfl, trivial, Slots.us n r (by simpa using h)⟩
theorem RelA.app : ∀ {ρ τ : List SV} {vs ws : List V}, RelA K S ρ vs → RelA K S τ ws → RelA K S (ρ ++ τ) (vs ++ ws)
  | [], _, _, _, h, g => by subst h; exact g
  | _ :: _, _, _, _, ⟨v, r, h1, h2, h3⟩, g => by subst h1; exact ⟨v, _, rfl, h2, h3.app g⟩
theorem RelA.ds : ∀ {ds : List D} {vs : List V}, RelA K S (ds.map SV.d) vs → RpA K S ds vs
  | [], _, h => h
  | _ :: _, _, ⟨v, r, h1, h2, h3⟩ => ⟨v, r, h1, h2, h3.ds⟩
theorem RpA.ra : ∀ {ds : List D} {vs : List V}, RpA K S ds vs → RelA K S (ds.map SV.d) vs
  | [], _, h => h
  | _ :: _, _, ⟨v, r, h1, h2, h3⟩ => ⟨v, r, h1, h2, RpA.ra h3⟩
end
inductive MO where
  | lst (xs : List SV)
  | raw (o : HO)
  /-- what is true of the object, whatever is added -/
  | rel (f : PySem.W.Frag → Hp → HO → Prop) (m : ∀ K S S' o, Sub S S' → f K S o → f K S' o)
abbrev MM := Addr → Option MO
def MOk (K : PySem.W.Frag) (S : Hp) : MO → HO → Prop
  | .lst xs, o => ∃ vs, o = .lst vs ∧ RelA K S xs vs
  | .raw r, o => o = r ∧ ∀ xs, r ≠ .tup xs
  | .rel f _, o => f K S o ∧ ∀ xs, o ≠ .tup xs
theorem MOk.mono {K : PySem.W.Frag} {S S' : Hp} (e : Sub S S') : ∀ {m : MO} {o : HO}, MOk K S m o → MOk K S' m o
  | .lst _, _, ⟨vs, h1, h2⟩ => ⟨vs, h1, h2.mono e⟩
  | .raw _, _, h => h
  | .rel _ m, _, ⟨h, k⟩ => ⟨m _ _ _ _ e h, k⟩
def mset (M : MM) (a : Addr) (m : MO) : MM := fun b => if b = a then some m else M b
theorem mset_same {M : MM} {a : Addr} {m : MO} : mset M a m a = some m := if_pos rfl
theorem mset_ne {M : MM} {a b : Addr} {m : MO} (h : b ≠ a) : mset M a m b = M b := if_neg h
theorem mset_mset {M : MM} {a : Addr} {m n : MO} : mset (mset M a m) a n = mset M a n := by
  funext b; unfold mset; split <;> rfl
theorem mset_comm {M : MM} {a b : Addr} {m n : MO} (h : a ≠ b) : mset (mset M a m) b n = mset (mset M b n) a m := by
  funext c; unfold mset
  by_cases h1 : c = b
  · subst h1; rw [if_pos rfl, if_neg (Ne.symm h), if_pos rfl]
  · by_cases h2 : c = a
    · subst h2; rw [if_neg h1, if_pos rfl, if_pos rfl]
    · rw [if_neg h1, if_neg h2, if_neg h2, if_neg h1]
/-- less is said -/
def MLe (M M' : MM) : Prop := ∀ a m, M a = some m → M' a = some m
theorem MLe.rfl' (M : MM) : MLe M M := fun _ _ h => h
theorem MLe.new {M M' : MM} {p : Addr} {m : MO} (h : M p = none) (e : MLe M M') : MLe M (mset M' p m) := fun a n q => by
  by_cases ha : a = p
  · subst ha; rw [h] at q; cases q
  · rw [mset_ne ha]; exact e a n q
theorem MLe.tr {A B C : MM} (x : MLe A B) (y : MLe B C) : MLe A C := fun a m h => y a m (x a m h)
/-- the state ahead of a def's body -/
structure Gh where
  S0 : Hp
  H0 : Hp
  F0 : Addr → Prop
/-- the heap: S holds what no one writes any more, M what this def may write; what is neither (the callers') stays -/
structure Hst (K : PySem.W.Frag) (G : Gh) (S H : Hp) (M : MM) : Prop where
  sub : Sub S H
  own : ∀ a m, M a = some m → S a = none ∧ ∃ o, H a = some o ∧ MOk K S m o
  g1 : Sub G.S0 S
  g2 : ∀ a o, G.H0 a = some o → ¬ G.F0 a → H a = some o
  g3 : ∀ a, S a ≠ none → G.S0 a ≠ none ∨ G.H0 a = none ∨ G.F0 a ∨ ∃ xs, G.H0 a = some (.tup xs)
  g4 : ∀ a, M a ≠ none → G.H0 a = none ∨ G.F0 a
structure Sta (K : PySem.W.Frag) (G : Gh) (S H : Hp) (σ : L2.St) (ρ : List SV) (M : MM) : Prop where
  hst : Hst K G S H M
  sl : Slots K S ρ σ
section
variable {K : PySem.W.Frag} {G : Gh} {S S' H H' : Hp} {σ : L2.St} {ρ : List SV} {M M' : MM}
theorem Hst.free (h : Hst K G S H M) {p : Addr} (n : H p = none) : S p = none ∧ M p = none := by
  refine ⟨h.sub.fresh n, ?_⟩
  cases e : M p with
  | none => rfl
  | some m =>
    obtain ⟨_, o, q, _⟩ := h.own p m e
    rw [n] at q; cases q
theorem Hst.back (h : Hst K G S H M) {p : Addr} (n : H p = none) : G.H0 p = none ∨ G.F0 p := by
  by_cases f : G.F0 p
  · exact .inr f
  · refine .inl ?_
    cases e : G.H0 p with
    | none => rfl
    | some o => rw [h.g2 p o e f] at n; cases n
theorem Hst.less (h : Hst K G S H M) (e : MLe M' M) : Hst K G S H M' :=
  ⟨h.sub, fun a m q => h.own a m (e a m q), h.g1, h.g2, h.g3, fun a q => h.g4 a (fun z => q (by
    cases r : M' a with
    | none => rfl
    | some m => rw [e a m r] at z; cases z))⟩
theorem Sta.less (h : Sta K G S H σ ρ M) (e : MLe M' M) : Sta K G S H σ ρ M' := ⟨h.hst.less e, h.sl⟩
/-- a new object that no one writes -/
theorem Hst.newS (h : Hst K G S H M) {p : Addr} {o : HO} (n : H p = none) : Hst K G (upd S p o) (upd H p o) M := by
  obtain ⟨nS, nM⟩ := h.free n
  have e : Sub S (upd S p o) := Evl.Ex.new nS
  refine ⟨h.sub.both, fun a m q => ?_, h.g1.tr e, fun a u q f => ?_, fun a q => ?_, h.g4⟩
  · obtain ⟨h1, u, h2, h3⟩ := h.own a m q
    have na : a ≠ p := fun z => by subst z; rw [nM] at q; cases q
    exact ⟨by rw [upd_ne na]; exact h1, u, by rw [upd_ne na]; exact h2, h3.mono e⟩
  · have x := h.g2 a u q f
    have na : a ≠ p := fun z => by subst z; rw [n] at x; cases x
    rw [upd_ne na]; exact x
  · by_cases ha : a = p
    · subst ha
      rcases h.back n with z | z
      · exact .inr (.inl z)
      · exact .inr (.inr (.inl z))
    · rw [upd_ne ha] at q
      exact h.g3 a q
/-- a new object of one's own -/
theorem Hst.newM (h : Hst K G S H M) {p : Addr} {o : HO} {m : MO} (n : H p = none) (ok : MOk K S m o) : Hst K G S (upd H p o) (mset M p m) := by
  obtain ⟨nS, nM⟩ := h.free n
  refine ⟨fun a u q => ?_, fun a k q => ?_, h.g1, fun a u q f => ?_, h.g3, fun a q => ?_⟩
  · have na : a ≠ p := fun z => by subst z; rw [nS] at q; cases q
    rw [upd_ne na]; exact h.sub a u q
  · by_cases ha : a = p
    · subst ha
      rw [mset_same] at q; cases q
      exact ⟨nS, o, upd_same, ok⟩
    · rw [mset_ne ha] at q
      obtain ⟨h1, u, h2, h3⟩ := h.own a k q
      exact ⟨h1, u, by rw [upd_ne ha]; exact h2, h3⟩
  · have x := h.g2 a u q f
    have na : a ≠ p := fun z => by subst z; rw [n] at x; cases x
    rw [upd_ne na]; exact x
  · by_cases ha : a = p
    · subst ha; exact h.back n
    · rw [mset_ne ha] at q; exact h.g4 a q
/-- an object of one's own is written -/
theorem Hst.put (h : Hst K G S H M) {p : Addr} {o : HO} {m m' : MO} (e : M p = some m) (ok : MOk K S m' o) : Hst K G S (upd H p o) (mset M p m') := by
  obtain ⟨nS, o0, ho, _⟩ := h.own p m e
  refine ⟨fun a u q => ?_, fun a k q => ?_, h.g1, fun a u q f => ?_, h.g3, fun a q => ?_⟩
  · have na : a ≠ p := fun z => by subst z; rw [nS] at q; cases q
    rw [upd_ne na]; exact h.sub a u q
  · by_cases ha : a = p
    · subst ha
      rw [mset_same] at q; cases q
      exact ⟨nS, o, upd_same, ok⟩
    · rw [mset_ne ha] at q
      obtain ⟨h1, u, h2, h3⟩ := h.own a k q
      exact ⟨h1, u, by rw [upd_ne ha]; exact h2, h3⟩
  · have na : a ≠ p := fun z => by
      subst z
      rcases h.g4 a (by rw [e]; exact fun z => nomatch z) with w | w
      · rw [w] at q; cases q
      · exact f w
    rw [upd_ne na]; exact h.g2 a u q f
  · by_cases ha : a = p
    · subst ha; exact h.g4 a (by rw [e]; exact fun z => nomatch z)
    · rw [mset_ne ha] at q; exact h.g4 a q
def mdel (M : MM) (p : Addr) : MM := fun b => if b = p then none else M b
theorem mdel_ne {M : MM} {a b : Addr} (h : b ≠ a) : mdel M a b = M b := if_neg h
theorem mdel_same {M : MM} {a : Addr} : mdel M a a = none := if_pos rfl
theorem mle_mdel_mset {M : MM} {p : Addr} {m : MO} (h : M p = none) : MLe M (mdel (mset M p m) p) := fun a k q => by
  have ha : a ≠ p := fun z => by subst z; rw [h] at q; cases q
  rw [mdel_ne ha, mset_ne ha]; exact q
/-- an object of one's own is not written any more -/
theorem Hst.freeze (h : Hst K G S H M) {p : Addr} {o : HO} {m : MO} (e : M p = some m) (ho : H p = some o) : Hst K G (upd S p o) H (mdel M p) := by
  obtain ⟨nS, _, _, _⟩ := h.own p m e
  have x : Sub S (upd S p o) := Evl.Ex.new nS
  refine ⟨h.sub.up nS ho, fun a k q => ?_, h.g1.tr x, h.g2, fun a q => ?_, fun a q => ?_⟩
  · have na : a ≠ p := fun z => by subst z; rw [mdel_same] at q; cases q
    rw [mdel_ne na] at q
    obtain ⟨h1, u, h2, h3⟩ := h.own a k q
    exact ⟨by rw [upd_ne na]; exact h1, u, h2, h3.mono x⟩
  · by_cases ha : a = p
    · subst ha
      rcases h.g4 a (by rw [e]; exact fun z => nomatch z) with z | z
      · exact .inr (.inl z)
      · exact .inr (.inr (.inl z))
    · rw [upd_ne ha] at q; exact h.g3 a q
  · have na : a ≠ p := fun z => by subst z; exact q mdel_same
    rw [mdel_ne na] at q; exact h.g4 a q
/-- the abstract heap grows, S and M as they are -/
theorem Hst.grow (h : Hst K G S H M) (e : Sub H H') : Hst K G S H' M :=
  ⟨h.sub.tr e, fun a m q => let ⟨h1, u, h2, h3⟩ := h.own a m q; ⟨h1, u, e a u h2, h3⟩, h.g1, fun a o q f => e a o (h.g2 a o q f), h.g3, h.g4⟩
end
end NL
set_option Elab.async false
set_option linter.all false
set_option maxRecDepth 100000
set_option maxHeartbeats 4000000
namespace NL
open PySem PySem.Spec L2
open PyProof.Rows hiding St
structure semE' (X : Cx) (e : Expr) (σ : L2.St) (H : Hp) (Q : VK) : Prop where
  run : ∀ pins s, Inv X pins σ H s → wpAny (model X.prog X.w) X.A (eval e X.env) (EP X pins σ Q) X.xe s
def semE (X : Cx) (e : Expr) : TE := fun σ H Q => semE' X e σ H Q
structure semT' (X : Cx) (e : Expr) (σ : L2.St) (H : Hp) (Q : Bool → Hp → Prop) : Prop where
  run : ∀ pins s, Inv X pins σ H s → wpAny (model X.prog X.w) X.A (isTrue e X.env (eval e X.env)) (TP X pins σ Q) X.xe s
def semT (X : Cx) (e : Expr) : TT := fun σ H Q => semT' X e σ H Q
structure semW' (X : Cx) (e : Expr) (σ : L2.St) (H : Hp) (Q : Bool → Hp → Prop) : Prop where
  run : ∀ (whole : Sem Value) pins s, Inv X pins σ H s → wpAny (model X.prog X.w) X.A (isTrue e X.env whole) (TP X pins σ Q) X.xe s
def semW (X : Cx) (e : Expr) : TT := fun σ H Q => semW' X e σ H Q
structure semA' (X : Cx) (es : List Expr) (σ : L2.St) (H : Hp) (Q : List V → Hp → Prop) : Prop where
  run : ∀ (pos : Pos) pins s, Inv X pins σ H s → wpAny (model X.prog X.w) X.A (spliced (backTo pos (starEach es X.env))) (AP X pins σ Q) X.xe s
def semA (X : Cx) (es : List Expr) : TA := fun σ H Q => semA' X es σ H Q
structure semS' (X : Cx) (st : Stmt) (D : Ends) (σ : L2.St) (H : Hp) : Prop where
  run : ∀ pins s, Inv X pins σ H s → wpAny (model X.prog X.w) X.A (exec st X.env) (SP X pins D) X.xe s
def semS (X : Cx) (st : Stmt) : TS := fun D σ H => semS' X st D σ H
structure semB' (X : Cx) (b : List Stmt) (D : Ends) (σ : L2.St) (H : Hp) : Prop where
  run : ∀ pins s, Inv X pins σ H s → wpAny (model X.prog X.w) X.A (execs b X.env) (SP X pins D) X.xe s
def semB (X : Cx) (b : List Stmt) : TS := fun D σ H => semB' X b D σ H
structure semI' (X : Cx) (tg it : Expr) (σ : L2.St) (H : Hp) (R : It → Hp → Prop) : Prop where
  run : ∀ pins s, Inv X pins σ H s → wpAny (model X.prog X.w) X.A (eval it X.env) (fun v s1 => wpAny (model X.prog X.w) X.A (pyIter v) (PIE X pins σ tg R) X.xe s1) X.xe s
def semI (X : Cx) (tg it : Expr) : TI := fun σ H R => semI' X tg it σ H R
section
variable {X : Cx}
theorem peS {e : Expr} : PE X e (semE X e) := ⟨fun pins s _ _ _ I h => h.run pins s I⟩
theorem ptS {e : Expr} : PT X e (semT X e) := ⟨fun pins s _ _ _ I h => h.run pins s I⟩
theorem pwS {e : Expr} : PW X e (semW X e) := ⟨fun w pins s _ _ _ I h => h.run w pins s I⟩
theorem paS {es : List Expr} : PA X es (semA X es) := ⟨fun p pins s _ _ _ I h => h.run p pins s I⟩
theorem psS {st : Stmt} : PS X st (semS X st) := ⟨fun pins s _ _ _ I h => h.run pins s I⟩
theorem pbS {b : List Stmt} : PSs X b (semB X b) := ⟨fun pins s _ _ _ I h => h.run pins s I⟩
theorem piS {tg it : Expr} : PI X tg it (semI X tg it) := ⟨fun pins s _ _ _ I h => h.run pins s I⟩
theorem PE.go {e : Expr} {t : TE} (p : PE X e t) {σ H Q} (h : t σ H Q) : semE X e σ H Q := ⟨fun pins s I => p.run pins s σ H Q I h⟩
theorem PT.go {e : Expr} {t : TT} (p : PT X e t) {σ H Q} (h : t σ H Q) : semT X e σ H Q := ⟨fun pins s I => p.run pins s σ H Q I h⟩
theorem PW.go {e : Expr} {t : TT} (p : PW X e t) {σ H Q} (h : t σ H Q) : semW X e σ H Q := ⟨fun w pins s I => p.run w pins s σ H Q I h⟩
theorem PA.go {es : List Expr} {t : TA} (p : PA X es t) {σ H Q} (h : t σ H Q) : semA X es σ H Q := ⟨fun ps pins s I => p.run ps pins s σ H Q I h⟩
theorem PS.go {st : Stmt} {t : TS} (p : PS X st t) {σ H D} (h : t D σ H) : semS X st D σ H := ⟨fun pins s I => p.run pins s σ H D I h⟩
theorem PSs.go {b : List Stmt} {t : TS} (p : PSs X b t) {σ H D} (h : t D σ H) : semB X b D σ H := ⟨fun pins s I => p.run pins s σ H D I h⟩
theorem PI.go {tg it : Expr} {t : TI} (p : PI X tg it t) {σ H R} (h : t σ H R) : semI X tg it σ H R := ⟨fun pins s I => p.run pins s σ H R I h⟩
theorem semE.mono {e : Expr} {σ H} {Q Q' : VK} (h : semE X e σ H Q) (k : ∀ v H', Q v H' → Q' v H') : semE X e σ H Q' := ⟨fun pins s I =>
  thn (h.run pins s I) fun _ _ ⟨v, H', a, b, c⟩ => ⟨v, H', a, b, k v H' c⟩⟩
theorem semT.mono {e : Expr} {σ H} {Q Q' : Bool → Hp → Prop} (h : semT X e σ H Q) (k : ∀ v H', Q v H' → Q' v H') : semT X e σ H Q' := ⟨fun pins s I =>
  thn (h.run pins s I) fun _ _ ⟨H', a, c⟩ => ⟨H', a, k _ H' c⟩⟩
end
section
variable (X : Cx) (G : Gh)
/-- e gives d -/
def jE (e : Expr) (ρ : List SV) (M : MM) (d : SV) (M' : MM) : Prop := ∀ S H σ, Sta X.K G S H σ ρ M → ∀ Q : VK,
  (∀ v S' H', Sub S S' → Sta X.K G S' H' σ ρ M' → Rel X.K S' d v → Q v H') → semE X e σ H Q
/-- e gives a new list of one's own -/
def jL (e : Expr) (ρ : List SV) (M : MM) (ds : List SV) (M' : MM) : Prop := ∀ S H σ, Sta X.K G S H σ ρ M → ∀ Q : VK,
  (∀ p S' H', Sub S S' → M' p = none → Sta X.K G S' H' σ ρ (mset M' p (.lst ds)) → Q (.ref p) H') → semE X e σ H Q
def jT (e : Expr) (ρ : List SV) (M : MM) (b : Bool) (M' : MM) : Prop := ∀ S H σ, Sta X.K G S H σ ρ M → ∀ Q : Bool → Hp → Prop,
  (∀ S' H', Sub S S' → Sta X.K G S' H' σ ρ M' → Q b H') → semT X e σ H Q
def jW (e : Expr) (ρ : List SV) (M : MM) (b : Bool) (M' : MM) : Prop := ∀ S H σ, Sta X.K G S H σ ρ M → ∀ Q : Bool → Hp → Prop,
  (∀ S' H', Sub S S' → Sta X.K G S' H' σ ρ M' → Q b H') → semW X e σ H Q
def jA (es : List Expr) (ρ : List SV) (M : MM) (ds : List SV) (M' : MM) : Prop := ∀ S H σ, Sta X.K G S H σ ρ M → ∀ Q : List V → Hp → Prop,
  (∀ vs S' H', Sub S S' → Sta X.K G S' H' σ ρ M' → RelA X.K S' ds vs → Q vs H') → semA X es σ H Q
/-- an operation on two values, one, a list of values -/
def j2 (r : R2) (M : MM) (x y : SV) (z : SV) (M' : MM) : Prop := ∀ S H σ ρ u v, Sta X.K G S H σ ρ M → Rel X.K S x u → Rel X.K S y v → ∀ Q : VK,
  (∀ w S' H', Sub S S' → Sta X.K G S' H' σ ρ M' → Rel X.K S' z w → Q w H') → r u v H Q
def j1 (r : V → Hp → VK → Prop) (M : MM) (x : SV) (z : SV) (M' : MM) : Prop := ∀ S H σ ρ u, Sta X.K G S H σ ρ M → Rel X.K S x u → ∀ Q : VK,
  (∀ w S' H', Sub S S' → Sta X.K G S' H' σ ρ M' → Rel X.K S' z w → Q w H') → r u H Q
def jC (r : List V → Hp → VK → Prop) (M : MM) (xs : List SV) (z : SV) (M' : MM) : Prop := ∀ S H σ ρ us, Sta X.K G S H σ ρ M → RelA X.K S xs us → ∀ Q : VK,
  (∀ w S' H', Sub S S' → Sta X.K G S' H' σ ρ M' → Rel X.K S' z w → Q w H') → r us H Q
/-- the same with a new list as its answer -/
def j2L (r : R2) (M : MM) (x y : SV) (ds : List SV) (M' : MM) : Prop := ∀ S H σ ρ u v, Sta X.K G S H σ ρ M → Rel X.K S x u → Rel X.K S y v → ∀ Q : VK,
  (∀ p S' H', Sub S S' → M' p = none → Sta X.K G S' H' σ ρ (mset M' p (.lst ds)) → Q (.ref p) H') → r u v H Q
def jCL (r : List V → Hp → VK → Prop) (M : MM) (xs : List SV) (ds : List SV) (M' : MM) : Prop := ∀ S H σ ρ us, Sta X.K G S H σ ρ M → RelA X.K S xs us → ∀ Q : VK,
  (∀ p S' H', Sub S S' → M' p = none → Sta X.K G S' H' σ ρ (mset M' p (.lst ds)) → Q (.ref p) H') → r us H Q
end
/-- what is wanted behind a statement -/
structure Post where
  nx : List SV → MM → Prop
  rt : SV → MM → Prop
  bk : List SV → MM → Prop := fun _ _ => False
  ct : List SV → MM → Prop := fun _ _ => False
structure Fits (K : PySem.W.Frag) (G : Gh) (P : Post) (D : Ends) : Prop where
  nx : ∀ S H σ ρ M, Sta K G S H σ ρ M → P.nx ρ M → D.nx σ H
  rt : ∀ S H M d v, Hst K G S H M → Rel K S d v → P.rt d M → D.rt v H
  bk : ∀ S H σ ρ M, Sta K G S H σ ρ M → P.bk ρ M → D.bk σ H
  ct : ∀ S H σ ρ M, Sta K G S H σ ρ M → P.ct ρ M → D.ct σ H
def jS (X : Cx) (G : Gh) (st : Stmt) (ρ : List SV) (M : MM) (P : Post) : Prop := ∀ S H σ, Sta X.K G S H σ ρ M → ∀ D, Fits X.K G P D → semS X st D σ H
def jB (X : Cx) (G : Gh) (b : List Stmt) (ρ : List SV) (M : MM) (P : Post) : Prop := ∀ S H σ, Sta X.K G S H σ ρ M → ∀ D, Fits X.K G P D → semB X b D σ H
section
variable {X : Cx} {G : Gh} {ρ : List SV} {M M1 M2 M3 : MM} {d d1 d2 x y z : SV} {ds : List SV} {e a b c : Expr} {es : List Expr} {pos : Pos} {k : Bool}
theorem e_var {i : Nat} {n : Str} (hN : X.N[i]? = some n := by rfl) (hv : Vis X.env.scope n := by first | exact Or.inl rfl | exact Or.inr (Or.inl rfl) | exact Or.inr (Or.inr rfl)) (hr : ρ[i]? = some d := by rfl) (hd : d ≠ .u := by exact fun q => nomatch q)
    (h1 : (n == ("__debug__" : Str)) = false := by decide) (h2 : (n == ("__classdict__" : Str)) = false := by decide) : jE X G (.Name n pos) ρ M d M := fun S H σ st Q q => by
  obtain ⟨w, e1, r⟩ := st.sl.at hr
  obtain ⟨v, ew, r2⟩ := RelS.to hd r
  subst ew
  exact PE.go (pe_var hN hv h1 h2) ⟨v, e1, q v S H (Sub.rfl' S) st r2⟩
theorem e_int {i : Int} {j : Nat} : jE X G (.Constant (.int i) j pos) ρ M (.d (.int i)) M := fun S H σ st Q q => PE.go pe_int (q _ S H (Sub.rfl' S) st rfl)
theorem e_bl {i : Bool} {j : Nat} : jE X G (.Constant (.bool i) j pos) ρ M (.d (.bool i)) M := fun S H σ st Q q => PE.go pe_bl (q _ S H (Sub.rfl' S) st rfl)
theorem e_non {j : Nat} : jE X G (.Constant .none j pos) ρ M (.d .none) M := fun S H σ st Q q => PE.go pe_non (q _ S H (Sub.rfl' S) st rfl)
theorem e_str {i : Str} {j : Nat} : jE X G (.Constant (.str i) j pos) ρ M (.d (.str i)) M := fun S H σ st Q q => PE.go pe_str (q _ S H (Sub.rfl' S) st rfl)
theorem e_glob {n : Str} {v : V} {u : Value} (hg : Gl X n) (hm : X.mg n = some u) (r : RelV v u) (hd : (n == ("__debug__" : Str)) = false := by decide) : jE X G (.Name n pos) ρ M (.v v) M := fun S H σ st Q q =>
  PE.go (pe_glob hg hm r hd) (q v S H (Sub.rfl' S) st rfl)
theorem e_bltn {n : Str} {v : V} {u : Value} (hg : Gl X n) (hm : X.mg n = none) (hv : bootBuiltins n = some u) (r : RelV v u) (hn : n ≠ "__name__" := by decide) (hd : (n == ("__debug__" : Str)) = false := by decide) :
    jE X G (.Name n pos) ρ M (.v v) M := fun S H σ st Q q => PE.go (pe_bltn hg hm hv r hn hd) (q v S H (Sub.rfl' S) st rfl)
theorem jE.is {d' : SV} (h : jE X G e ρ M d M1) (q : d = d') : jE X G e ρ M d' M1 := q ▸ h
theorem jT.is {k' : Bool} (h : jT X G e ρ M k M1) (q : k = k') : jT X G e ρ M k' M1 := q ▸ h
theorem frz_list {K : PySem.W.Frag} {S H : Hp} {σ : L2.St} {M : MM} {p : Addr} {xs : List D} (n : M p = none) (st : Sta K G S H σ ρ (mset M p (.lst (xs.map SV.d)))) :
    ∃ S', Sub S S' ∧ Sta K G S' H σ ρ M ∧ Rp K S' (.list xs) (.ref p) := by
  obtain ⟨nS, o, ho, vs, rfl, r⟩ := st.hst.own p _ mset_same
  have e : Sub S (upd S p (.lst vs)) := Evl.Ex.new nS
  refine ⟨_, e, ⟨(st.hst.freeze mset_same ho).less (mle_mdel_mset n), st.sl.mono e⟩, p, vs, rfl, upd_same, RpA.mono e _ _ r.ds⟩
theorem e_ofL {xs : List D} (h : jL X G e ρ M (xs.map SV.d) M1) : jE X G e ρ M (.d (.list xs)) M1 := fun S H σ st Q q => h S H σ st Q fun p S' H' e1 n st' => by
  obtain ⟨S2, e2, st2, r⟩ := frz_list n st'
  exact q _ S2 H' (e1.tr e2) st2 r
theorem e_ofL' {ds : List SV} {xs : List D} (h : jL X G e ρ M ds M1) (q : ds = xs.map SV.d) : jE X G e ρ M (.d (.list xs)) M1 := e_ofL (q ▸ h)
theorem e_bin {op : Operator} {r : R2} (ho : OpR X (binaryOp op) r) (ha : jE X G a ρ M x M1) (hb : jE X G b ρ M1 y M2) (h : j2 X G r M2 x y z M3) : jE X G (.BinOp a op b pos) ρ M z M3 := fun S H σ st Q q =>
  PE.go (pe_op ho peS peS) (ha S H σ st _ fun u S1 H1 e1 st1 r1 => hb S1 H1 σ st1 _ fun v S2 H2 e2 st2 r2 =>
    h S2 H2 σ ρ u v st2 (r1.mono e2) r2 Q fun w S3 H3 e3 st3 r3 => q w S3 H3 ((e1.tr e2).tr e3) st3 r3)
theorem e_binL {op : Operator} {r : R2} (ho : OpR X (binaryOp op) r) (ha : jE X G a ρ M x M1) (hb : jE X G b ρ M1 y M2) (h : j2L X G r M2 x y ds M3) : jL X G (.BinOp a op b pos) ρ M ds M3 := fun S H σ st Q q =>
  PE.go (pe_op ho peS peS) (ha S H σ st _ fun u S1 H1 e1 st1 r1 => hb S1 H1 σ st1 _ fun v S2 H2 e2 st2 r2 =>
    h S2 H2 σ ρ u v st2 (r1.mono e2) r2 Q fun p S3 H3 e3 n st3 => q p S3 H3 ((e1.tr e2).tr e3) n st3)
theorem e_un {op : UnaryOp} {r : V → Hp → VK → Prop} (ho : UnR X (unaryOp op) r) (ha : jE X G a ρ M x M1) (h : j1 X G r M1 x z M2) : jE X G (.UnaryOp op a pos) ρ M z M2 := fun S H σ st Q q =>
  PE.go (pe_un ho peS) (ha S H σ st _ fun u S1 H1 e1 st1 r1 => h S1 H1 σ ρ u st1 r1 Q fun w S3 H3 e3 st3 r3 => q w S3 H3 (e1.tr e3) st3 r3)
theorem e_cmp {op : CmpOp} {r : R2} (ho : OpR X (compareOp op) r) (ha : jE X G a ρ M x M1) (hb : jE X G b ρ M1 y M2) (h : j2 X G r M2 x y z M3) (hm : behindInMarks op b = false) : jE X G (.Compare a [op] [b] pos) ρ M z M3 := fun S H σ st Q q =>
  PE.go (pe_cmpR ho peS peS hm) (ha S H σ st _ fun u S1 H1 e1 st1 r1 => hb S1 H1 σ st1 _ fun v S2 H2 e2 st2 r2 =>
    h S2 H2 σ ρ u v st2 (r1.mono e2) r2 Q fun w S3 H3 e3 st3 r3 => q w S3 H3 ((e1.tr e2).tr e3) st3 r3)
theorem t_cmp {op : CmpOp} {r : R2} (ho : OpR X (compareOp op) r) (ha : jE X G a ρ M x M1) (hb : jE X G b ρ M1 y M2) (h : j2 X G r M2 x y (.d (.bool k)) M3) (hm : behindInMarks op b = false) : jT X G (.Compare a [op] [b] pos) ρ M k M3 := fun S H σ st Q q =>
  PT.go (pt_cmpR ho peS peS hm) (ha S H σ st _ fun u S1 H1 e1 st1 r1 => hb S1 H1 σ st1 _ fun v S2 H2 e2 st2 r2 =>
    h S2 H2 σ ρ u v st2 (r1.mono e2) r2 _ fun w S3 H3 e3 st3 r3 => ⟨k, r3, q S3 H3 ((e1.tr e2).tr e3) st3⟩)
theorem t_val (h : jE X G e ρ M (.d (.bool k)) M1) (he : ∀ whole, isTrue e X.env whole = (do let v ← whole; standAt e.pos; holding [v] (truthy v)) := by intro _; rfl) : jT X G e ρ M k M1 := fun S H σ st Q q =>
  PT.go (pt_val peS he) (h S H σ st _ fun v S1 H1 e1 st1 r1 => ⟨k, r1, q S1 H1 e1 st1⟩)
/-- a test that is the truth of any value -/
def jTru (X : Cx) (G : Gh) (M : MM) (x : SV) (k : Bool) : Prop := ∀ S H σ ρ u, Sta X.K G S H σ ρ M → Rel X.K S x u → TruV X.K u H k
theorem t_truth (h : jE X G e ρ M x M1) (t : jTru X G M1 x k) (he : ∀ whole, isTrue e X.env whole = (do let v ← whole; standAt e.pos; holding [v] (truthy v)) := by intro _; rfl) : jT X G e ρ M k M1 := fun S H σ st Q q =>
  PT.go (pt_truth peS he) (h S H σ st _ fun v S1 H1 e1 st1 r1 => ⟨k, t S1 H1 σ ρ v st1 r1, q S1 H1 e1 st1⟩)
theorem t_not (h : jT X G e ρ M k M1) : jT X G (.UnaryOp .Not e pos) ρ M (!k) M1 := fun S H σ st Q q => PT.go (pt_not ptS) (h S H σ st _ fun S1 H1 e1 st1 => q S1 H1 e1 st1)
theorem t_ofW (h : jW X G e ρ M k M1) : jT X G e ρ M k M1 := fun S H σ st Q q => PT.go (PW.pt pwS) (h S H σ st Q q)
theorem w_and1 (h : jT X G a ρ M k M1) : jW X G (.BoolOp .And [a] pos) ρ M k M1 := fun S H σ st Q q => PW.go (pw_and1 ptS) (h S H σ st Q q)
theorem w_or1 (h : jT X G a ρ M k M1) : jW X G (.BoolOp .Or [a] pos) ρ M k M1 := fun S H σ st Q q => PW.go (pw_or1 ptS) (h S H σ st Q q)
theorem w_and {k2 : Bool} {rest : List Expr} (h : jT X G a ρ M k M1) (h2 : k = true → jW X G (.BoolOp .And (b :: rest) pos) ρ M1 k2 M2) (hM : k = false → M2 = M1) : jW X G (.BoolOp .And (a :: b :: rest) pos) ρ M (k && k2) M2 := fun S H σ st Q q =>
  PW.go (pw_and ptS pwS) (h S H σ st _ fun S1 H1 e1 st1 => by
    cases k with
    | true => exact iteT (h2 rfl S1 H1 σ st1 _ fun S2 H2 e2 st2 => q S2 H2 (e1.tr e2) st2)
    | false => exact iteF (q S1 H1 e1 (by rw [hM rfl]; exact st1)))
theorem w_or {k2 : Bool} {rest : List Expr} (h : jT X G a ρ M k M1) (h2 : k = false → jW X G (.BoolOp .Or (b :: rest) pos) ρ M1 k2 M2) (hM : k = true → M2 = M1) : jW X G (.BoolOp .Or (a :: b :: rest) pos) ρ M (k || k2) M2 := fun S H σ st Q q =>
  PW.go (pw_or ptS pwS) (h S H σ st _ fun S1 H1 e1 st1 => by
    cases k with
    | false => exact iteF (h2 rfl S1 H1 σ st1 _ fun S2 H2 e2 st2 => q S2 H2 (e1.tr e2) st2)
    | true => exact iteT (q S1 H1 e1 (by rw [hM rfl]; exact st1)))
theorem e_one {op} (h : jE X G a ρ M d M1) : jE X G (.BoolOp op [a] pos) ρ M d M1 := fun S H σ st Q q => PE.go (pe_one peS) (h S H σ st Q q)
theorem e_and {k2 : Bool} {rest : List Expr} (h : jE X G a ρ M (.d (.bool k)) M1) (h2 : k = true → jE X G (.BoolOp .And (b :: rest) pos) ρ M1 (.d (.bool k2)) M2) (hM : k = false → M2 = M1) : jE X G (.BoolOp .And (a :: b :: rest) pos) ρ M (.d (.bool (k && k2))) M2 := fun S H σ st Q q =>
  PE.go (pe_and peS peS) (h S H σ st _ fun v S1 H1 e1 st1 r1 => ⟨k, r1, by
    cases k with
    | true => exact iteT (h2 rfl S1 H1 σ st1 _ fun v2 S2 H2 e2 st2 r2 => q v2 S2 H2 (e1.tr e2) st2 r2)
    | false => exact iteF (q _ S1 H1 e1 (by rw [hM rfl]; exact st1) rfl)⟩)
theorem e_not (h : jE X G a ρ M (.d (.bool k)) M1) : jE X G (.UnaryOp .Not a pos) ρ M (.d (.bool (!k))) M1 := fun S H σ st Q q =>
  PE.go (pe_not peS) (h S H σ st _ fun v S1 H1 e1 st1 r1 => ⟨k, r1, q _ S1 H1 e1 st1 rfl⟩)
theorem e_if (hc : jT X G c ρ M k M1) (h1 : k = true → jE X G a ρ M1 d M2) (h2 : k = false → jE X G b ρ M1 d M2) : jE X G (.IfExp c a b pos) ρ M d M2 := fun S H σ st Q q =>
  PE.go (pe_ifExp ptS peS peS) (hc S H σ st _ fun S1 H1 e1 st1 => by
    cases k with
    | true => exact iteT (h1 rfl S1 H1 σ st1 Q fun v S2 H2 e2 st2 r => q v S2 H2 (e1.tr e2) st2 r)
    | false => exact iteF (h2 rfl S1 H1 σ st1 Q fun v S2 H2 e2 st2 r => q v S2 H2 (e1.tr e2) st2 r))
theorem a_nil : jA X G [] ρ M [] M := fun S H σ st Q q => PA.go pa_nil (q [] S H (Sub.rfl' S) st rfl)
theorem a_cons (h : jE X G e ρ M d M1) (hr : jA X G es ρ M1 ds M2) (hs : starEach (e :: es) X.env = (false, eval e X.env) :: starEach es X.env := by rfl) : jA X G (e :: es) ρ M (d :: ds) M2 := fun S H σ st Q q =>
  PA.go (pa_cons peS paS hs) (h S H σ st _ fun v S1 H1 e1 st1 r1 => hr S1 H1 σ st1 _ fun vs S2 H2 e2 st2 r2 => q _ S2 H2 (e1.tr e2) st2 ⟨v, vs, rfl, r1.mono e2, r2⟩)
theorem sz_le {n : Nat} (h : n ≤ 1000000) : n ≤ sizeLine := Nat.le_trans h (by decide)
theorem sz_lt {n : Nat} (h : n ≤ 1000000) : n < sizeLine := Nat.lt_of_le_of_lt h (by decide)
theorem e_tup {xs : List D} {x1} (h : jA X G es ρ M (xs.map SV.d) M1) (hl : xs.length ≤ 1000000 := by first | decide | exact Nat.le_of_ble_eq_true rfl) : jE X G (.Tuple es x1 pos) ρ M (.d (.tuple xs)) M1 := fun S H σ st Q q =>
  PE.go (pe_tup paS) (h S H σ st _ fun vs S1 H1 e1 st1 r1 => ⟨by rw [r1.len, List.length_map]; exact sz_le hl, fun p np => by
    obtain ⟨nS, _⟩ := st1.hst.free np
    have e2 : Sub S1 (upd S1 p (.tup vs)) := Evl.Ex.new nS
    exact q _ _ _ (e1.tr e2) ⟨st1.hst.newS np, st1.sl.mono e2⟩ ⟨p, vs, rfl, upd_same, RpA.mono e2 _ _ r1.ds⟩⟩)
theorem e_lst (h : jA X G es ρ M ds M1) (hl : ds.length ≤ 1000000 := by first | decide | exact Nat.le_of_ble_eq_true rfl) : jL X G (.List es pos) ρ M ds M1 := fun S H σ st Q q =>
  PE.go (pe_lst paS) (h S H σ st _ fun vs S1 H1 e1 st1 r1 => ⟨by rw [r1.len]; exact sz_le hl, fun p np => q p S1 _ e1 (st1.hst.free np).2 ⟨st1.hst.newM np ⟨vs, rfl, r1⟩, st1.sl⟩⟩)
theorem e_callB {r : List V → Hp → VK → Prop} {id : String} {n : Str} {p : Pos} (hc : CallR X (.builtin id) r) (ha : jA X G (e :: es) ρ M ds M1) (h : jC X G r M1 ds z M2) (hg : Gl X n) (hm : X.mg n = none) (hv : bootBuiltins n = some (.builtin id))
    (hn : n ≠ "__name__" := by decide) (hdb : (n == ("__debug__" : Str)) = false := by decide) (he : starEach (e :: es) X.env = (false, eval e X.env) :: starEach es X.env := by rfl) (hpl : (backTo pos (starEach es X.env)).any (·.1) = false := by rfl) :
    jE X G (.Call (.Name n p) (e :: es) [] pos) ρ M z M2 := fun S H σ st Q q =>
  PE.go (pe_callB hc hg hm hv paS hn hdb he hpl) (ha S H σ st _ fun us S1 H1 e1 st1 r1 => h S1 H1 σ ρ us st1 r1 Q fun w S2 H2 e2 st2 r2 => q w S2 H2 (e1.tr e2) st2 r2)
theorem e_callBL {r : List V → Hp → VK → Prop} {id : String} {n : Str} {p : Pos} {zs : List SV} (hc : CallR X (.builtin id) r) (ha : jA X G (e :: es) ρ M ds M1) (h : jCL X G r M1 ds zs M2) (hg : Gl X n) (hm : X.mg n = none) (hv : bootBuiltins n = some (.builtin id))
    (hn : n ≠ "__name__" := by decide) (hdb : (n == ("__debug__" : Str)) = false := by decide) (he : starEach (e :: es) X.env = (false, eval e X.env) :: starEach es X.env := by rfl) (hpl : (backTo pos (starEach es X.env)).any (·.1) = false := by rfl) :
    jL X G (.Call (.Name n p) (e :: es) [] pos) ρ M zs M2 := fun S H σ st Q q =>
  PE.go (pe_callB hc hg hm hv paS hn hdb he hpl) (ha S H σ st _ fun us S1 H1 e1 st1 r1 => h S1 H1 σ ρ us st1 r1 Q fun w S2 H2 e2 st2 r2 => q w S2 H2 (e1.tr e2) st2 r2)
theorem e_callT {r : List V → Hp → VK → Prop} {T : String} {n : Str} {p : Pos} (hc : CallR X (.type T) r) (ha : jA X G (e :: es) ρ M ds M1) (h : jC X G r M1 ds z M2) (hg : Gl X n) (hm : X.mg n = none) (hv : bootBuiltins n = some (.type T))
    (hn : n ≠ "__name__" := by decide) (hdb : (n == ("__debug__" : Str)) = false := by decide) (he : starEach (e :: es) X.env = (false, eval e X.env) :: starEach es X.env := by rfl) (hpl : (backTo pos (starEach es X.env)).any (·.1) = false := by rfl) :
    jE X G (.Call (.Name n p) (e :: es) [] pos) ρ M z M2 := fun S H σ st Q q =>
  PE.go (pe_callTy hc hg hm hv paS hn hdb he hpl) (ha S H σ st _ fun us S1 H1 e1 st1 r1 => h S1 H1 σ ρ us st1 r1 Q fun w S2 H2 e2 st2 r2 => q w S2 H2 (e1.tr e2) st2 r2)
/-- o[i] -/
theorem e_ix {r : R2} (hr : IxR X r) (ha : jE X G a ρ M x M1) (hb : jE X G b ρ M1 y M2) (h : j2 X G r M2 x y z M3) (hs : PlainIx b := by exact fun _ _ => rfl) : jE X G (.Subscript a b pos) ρ M z M3 := fun S H σ st Q q =>
  PE.go (pe_ix hr peS peS hs) (ha S H σ st _ fun u S1 H1 e1 st1 r1 => hb S1 H1 σ st1 _ fun v S2 H2 e2 st2 r2 =>
    h S2 H2 σ ρ u v st2 (r1.mono e2) r2 Q fun w S3 H3 e3 st3 r3 => q w S3 H3 ((e1.tr e2).tr e3) st3 r3)
/-- o.f -/
theorem e_fld {C : Addr} {f : Str} {fs : List (Str × D)} {w : D} (h : jE X G e ρ M (.ins C fs) M1) (hc : Cls X.K C) (hn : NoAttr X.K C f) (hl : fs.lookup f = some w) (hb : attributeBase e f X.env (eval e X.env) = eval e X.env := by rfl) : jE X G (.Attribute e f pos) ρ M (.d w) M1 := fun S H σ st Q q =>
  PE.go (pe_fld peS hb) (h S H σ st _ fun v S1 H1 e1 st1 r1 => by
    obtain ⟨a, dx, vs, rfl, hS, hf⟩ := r1
    obtain ⟨v, hv, rv⟩ := hf.get hl
    exact ⟨a, C, dx, vs, v, rfl, st1.hst.sub a _ hS, hc, hn, hv, q v S1 H1 e1 st1 rv⟩)
end
section
variable {X : Cx} {G : Gh} {ρ : List SV} {M M1 M2 : MM} {P : Post} {st : Stmt} {rest : List Stmt} {e c : Expr} {d : SV} {ds : List SV} {pos p' : Pos} {k : Bool}
theorem Fits.nxt {K : PySem.W.Frag} {D : Ends} {N : List SV → MM → Prop} {Dn : L2.St → Hp → Prop} (h : Fits K G P D) (k : ∀ S H σ ρ M, Sta K G S H σ ρ M → N ρ M → Dn σ H) : Fits K G { P with nx := N } { D with nx := Dn } := ⟨k, h.rt, h.bk, h.ct⟩
theorem b_nil (h : P.nx ρ M) : jB X G [] ρ M P := fun S H σ s D f => PSs.go pss_nil (f.nx S H σ ρ M s h)
theorem b_cons (h : jS X G st ρ M { P with nx := fun ρ' M' => jB X G rest ρ' M' P }) : jB X G (st :: rest) ρ M P := fun S H σ s D f =>
  PSs.go (pss_cons psS pbS) (h S H σ s _ (f.nxt fun S1 H1 σ1 ρ1 M1 s1 q => q S1 H1 σ1 s1 D f))
theorem b_one (h : jS X G st ρ M P) : jB X G [st] ρ M P := fun S H σ s D f => PSs.go (pss_one psS) (h S H σ s D f)
theorem s_set {i : Nat} {n : Str} (he : jE X G e ρ M d M1) (k : P.nx (ρ.set i d) M1) (hN : X.N.Nodup) (hi : X.N[i]? = some n := by rfl) (hx : Loc X.env.scope n := by first | exact Or.inl rfl | exact Or.inr rfl)
    (hs : swapsWith e (some (.Name n p')) pos.line X.env = pure false := by rfl) (hf : X.fn n = true ∨ X.env.scope.names.lookup n = some .local := by first | exact .inl rfl | exact .inr rfl) : jS X G (.Assign [.Name n p'] e pos) ρ M P := fun S H σ s D f =>
  PS.go (ps_set hN hi hx peS hs hf) (he S H σ s _ fun v S1 H1 e1 s1 r1 => f.nx S1 H1 _ _ M1 ⟨s1.hst, s1.sl.set (RelS.of r1) i⟩ k)
/-- a name for a new list of one's own -/
theorem s_setL {i : Nat} {n : Str} (he : jL X G e ρ M ds M1) (k : ∀ p, M1 p = none → P.nx (ρ.set i (.o p)) (mset M1 p (.lst ds))) (hN : X.N.Nodup) (hi : X.N[i]? = some n := by rfl) (hx : Loc X.env.scope n := by first | exact Or.inl rfl | exact Or.inr rfl)
    (hs : swapsWith e (some (.Name n p')) pos.line X.env = pure false := by rfl) (hf : X.fn n = true ∨ X.env.scope.names.lookup n = some .local := by first | exact .inl rfl | exact .inr rfl) : jS X G (.Assign [.Name n p'] e pos) ρ M P := fun S H σ s D f =>
  PS.go (ps_set hN hi hx peS hs hf) (he S H σ s _ fun p S1 H1 e1 np s1 => f.nx S1 H1 _ _ _ ⟨s1.hst, s1.sl.set (s := .o p) (v := some (.ref p)) rfl i⟩ (k p np))
theorem s_ret (he : jE X G e ρ M d M1) (k : ∃ M', MLe M' M1 ∧ P.rt d M') : jS X G (.Return (some e) pos) ρ M P := fun S H σ s D f => by
  obtain ⟨M', hl, k⟩ := k
  exact PS.go (ps_ret peS) (he S H σ s _ fun v S1 H1 e1 s1 r1 => f.rt S1 H1 M' d v (s1.hst.less hl) r1 k)
theorem s_if {A B : List Stmt} (hc : jT X G c ρ M k M1) (h1 : k = true → jB X G A ρ M1 P) (h2 : k = false → jB X G B ρ M1 P) : jS X G (.If c A B pos) ρ M P := fun S H σ s D f =>
  PS.go (ps_if ptS pbS pbS) (hc S H σ s _ fun S1 H1 e1 s1 => by
    cases k with
    | true => exact iteT (h1 rfl S1 H1 σ s1 D f)
    | false => exact iteF (h2 rfl S1 H1 σ s1 D f))
theorem s_drop (he : jE X G e ρ M d M1) (k : P.nx ρ M1) (hs : swapsWith e none pos.line X.env = pure false := by rfl) : jS X G (.Expr e pos) ρ M P := fun S H σ s D f =>
  PS.go (ps_expr peS hs) (he S H σ s _ fun v S1 H1 e1 s1 r1 => f.nx S1 H1 _ _ M1 s1 k)
end
end NL
set_option Elab.async false
set_option linter.all false
set_option maxRecDepth 100000
set_option maxHeartbeats 4000000
namespace NL
open PySem PySem.Spec L2
open PyProof.Rows hiding St
structure FnG (P : Program) (w : World) (K : PySem.W.Frag) (mg : Str → Option Value) (base : Heap) (CX : CXT) (k : Nat) (f : Addr) (fd : FuncData) (ps : List Str) (sp : Sp) : Prop where
  len : ∀ vs H Q E, sp vs H Q E → vs.length = ps.length
  run : ∀ (A : Around) (up : List Env) (s : Shared) (H : Hp) (as : Args) (us : List Value) (vs : List V) (Q : VK) (E : XK), A.guards = some [] → Room k A → Env0 P w K mg base A up s H → BindsTo s fd as (ps.zip us) → Vals vs us → sp vs H Q E →
    codeAny (model P w) A (.call (.ref f) as) (CR CX up P w H s Q E) s
/-- a def of the text, with any defaults -/
structure FunX (K : PySem.W.Frag) (x qual : Str) (st : Stmt) (f : Addr) (fd : FuncData) : Prop where
  ex : ∃ (oc : Value) (od : Option Addr) (dV kV doc pm : Value) (an : Option Addr) (cdv ct : Value) (osl : Array (Option Value)),
    fd = PySem.W.fnOf x qual (defArgs st) (defBody st) (defScope st) dV kV doc pm an cdv ct ∧ K.lookup f = some ⟨oc, od, .func fd, osl⟩ ∧ PySem.W.codeIn K cdv qual = true
  kp : PySem.W.keepIn K (.ref f) = true
theorem FunX.of {K : PySem.W.Frag} {x qual : Str} {st : Stmt} {f : Addr} {fd : FuncData} (F : Fun K x qual st f fd) : FunX K x qual st f fd := by
  obtain ⟨oc, od, kV, doc, pm, an, cdv, ct, osl, a, b, c⟩ := F.ex
  exact ⟨⟨oc, od, .none, kV, doc, pm, an, cdv, ct, osl, a, b, c⟩, F.kp⟩
section
variable {P : Program} {w : World} {K : PySem.W.Frag} {mg : Str → Option Value} {base : Heap} {CX : CXT}
theorem FunX.okC {x qual : Str} {st : Stmt} {f : Addr} {fd : FuncData} {N ps : List Str} {k : Nat} {sp : Sp} (F : FunX K x qual st f fd) (S : FnScope N ps (defScope st)) (len : ∀ vs H Q E, sp vs H Q E → vs.length = ps.length)
    (body : ∀ (cdv : Value), fd.code = cdv → ∀ (A : Around) (up : List Env) (s : Shared) (H : Hp) (vs : List V) (Q : VK) (E : XK), A.guards = some [] → Room k (A.deeper (envOfC qual (defScope st) s.heap.objs.size f cdv)) → sp vs H Q E →
      ∃ t, PSs (cxOf CX P w K mg base N qual (defScope st) f cdv A up s H E) (defBody st) t ∧ t { nx := fun _ H' => Q .non H', rt := Q } (L2.start N vs) H) : FnG P w K mg base CX (k + 1) f fd ps sp := by
  obtain ⟨oc, od, dV, kV, doc, pm, an, cdv, ct, osl, rfl, lk, hcode⟩ := F.ex
  refine ⟨len, fun A up s H as us vs Q E gd rm env bd rel hs => ?_⟩
  have inK : K.In s.heap := env.mod.kin.keeps fun b o e => (env.bs b o e).1
  have nl : s.heap.NoLimit := env.mod.nolimit.keeps fun b o e => (env.bs b o e).1
  have kinds : ∀ y ∈ ps.zip us, (defScope st).names.lookup y.1 = some .local ∨ ((defScope st).names.lookup y.1 = some .cell ∧ ((cellsFrom (s.heap.objs.size + 1) (defScope st).names []).lookup y.1).isSome = true) := fun ⟨n, v⟩ hy =>
    (S.par n (List.of_mem_zip hy).1).imp id fun q => ⟨q, PySem.W.cellsFrom_some _ _ _ (.inl q)⟩
  have L := len _ _ _ _ hs
  refine codeAny_call_function rm.depth (inK _ _ lk) rfl S.co S.gen rfl (PySem.W.codeRec_of inK hcode) (bd _ _ _ _ (wpAny_newFunctionEnv_cells S.kind kinds fun env1 he s1 x => ?_))
  subst he
  refine ⟨nl.keeps x.toInCall.keep, codeAny_func ?_⟩
  obtain ⟨t, ht, hq⟩ := body cdv rfl A up s H vs Q E gd (rm.deeper _) hs
  have I := inv_start (cd := cdv) (qual := qual) (f := f) (CX := CX) (E := E) S rm.hd env L rel x
  refine wpAny_mono (ht.run [] s1 (L2.start N vs) H _ I hq) (fun fl s2 h2 => ?_) fun e s2 h2 => h2
  cases fl with
  | next =>
    obtain ⟨σ2, H2, J, q⟩ := h2
    exact ⟨V.non, H2, J.os, J.bare, J.base, J.hok, rfl, q⟩
  | ret u =>
    obtain ⟨v, σ2, H2, J, rv, q⟩ := h2
    exact ⟨v, H2, J.os, J.bare, J.base, J.hok, rv, q⟩
  | brk =>
    obtain ⟨_, _, _, q⟩ := h2
    exact q.elim
  | cont =>
    obtain ⟨_, _, _, q⟩ := h2
    exact q.elim
theorem FunX.ok {x qual : Str} {st : Stmt} {f : Addr} {fd : FuncData} {N ps : List Str} {k : Nat} {sp : Sp} (F : FunX K x qual st f fd) (S : FnScope N ps (defScope st)) (len : ∀ vs H Q E, sp vs H Q E → vs.length = ps.length)
    (body : ∀ (cdv : Value) (A : Around) (up : List Env) (s : Shared) (H : Hp) (vs : List V) (Q : VK) (E : XK), A.guards = some [] → Room k (A.deeper (envOfC qual (defScope st) s.heap.objs.size f cdv)) → sp vs H Q E →
      ∃ t, PSs (cxOf CX P w K mg base N qual (defScope st) f cdv A up s H E) (defBody st) t ∧ t { nx := fun _ H' => Q .non H', rt := Q } (L2.start N vs) H) : FnG P w K mg base CX (k + 1) f fd ps sp :=
  F.okC S len fun cdv _ A up s H vs Q E gd rm hs => body cdv A up s H vs Q E gd rm hs
theorem FunX.ok0C {x qual : Str} {st : Stmt} {f : Addr} {fd : FuncData} {N ps : List Str} {k : Nat} {sp : Sp} (F : FunX K x qual st f fd) (S : FnScope N ps (defScope st)) (len : ∀ vs H Q E, sp vs H Q E → vs.length = ps.length)
    (body : ∀ (cdv : Value), fd.code = cdv → ∀ (A : Around) (up : List Env) (s : Shared) (H : Hp) (vs : List V) (Q : VK) (E : XK), A.guards = some [] → Room k (A.deeper (envOfC qual (defScope st) s.heap.objs.size f cdv)) → sp vs H Q E →
      ∃ t, PSs (cxOf CX0 P w K mg base N qual (defScope st) f cdv A up s H E).nox (defBody st) t ∧ t { nx := fun _ H' => Q .non H', rt := Q } (L2.start N vs) H) : FnG P w K mg base CX0 (k + 1) f fd ps sp :=
  F.okC S len fun cdv ec A up s H vs Q E gd rm hs => by
    obtain ⟨t, h, q⟩ := body cdv ec A up s H vs Q E gd rm hs
    exact ⟨t, h.nox, q⟩
end
section
variable {X : Cx} {CX : CXT} {k n : Nat} {f C : Addr} {fd : FuncData} {ps ks : List Str} {sp : Sp} {dvs : List V} {ds : List Value} {E : XK} {x m : Str} {p pos apos : Pos} {e o : Expr} {es : List Expr} {kws : List Keyword} {t tk : TA}
theorem CR.back {pins : List (Addr × Obj)} {σ : L2.St} {H : Hp} {s : Shared} {Q : VK} {r : Result} {s' : Shared} (I : Inv X pins σ H s) (hx : Passes CX X E) (h : CR CX X.stack X.prog X.w H s Q E r s') : (match r with | .ok (.ret u) => EP X pins σ Q u s' | .ok _ => False | .error e => X.xe e s') := by
  cases r with
  | error e => exact hx pins σ H s e s' I h
  | ok fl =>
    cases fl with
    | ret u => exact I.after h
    | next => exact h
    | brk => exact h
    | cont => exact h
theorem runG {pins : List (Addr × Obj)} {σ : L2.St} {H : Hp} {s : Shared} {Q : VK} {us : List Value} {vs : List V} (F : FnG X.prog X.w X.K X.mg X.base CX k f fd ps sp) (gd : X.A.guards = some []) (hr : Room k X.A) (hb : Binds X.K fd ps ds) (hd : Vals dvs ds)
    (hx : Passes CX X E) (I : Inv X pins σ H s) (r : Vals vs us) (h : sp (vs ++ dvs) H Q E) : wpAny (model X.prog X.w) X.A (PySem.call (.ref f) us) (EP X pins σ Q) X.xe s := by
  have r2 := r.append hd
  refine wpAny_call (codeAny_mono (F.run X.A X.stack s H ⟨us, []⟩ (us ++ ds) (vs ++ dvs) Q E gd hr I.env0 (hb s us I.kIn (by rw [← r2.length]; exact F.len _ _ _ _ h)) r2 h) fun r s2 q => ?_)
  have := CR.back I hx q
  cases r with
  | error e => exact this
  | ok fl => cases fl <;> exact this
theorem pe_callX (F : FnG X.prog X.w X.K X.mg X.base CX k f fd ps sp) (gd : X.A.guards = some []) (hr : Room k X.A) (hg : Gl X x) (hm : X.mg x = some (.ref f)) (hk : PySem.W.keepIn X.K (.ref f) = true) (hb : Binds X.K fd ps ds) (hd : Vals dvs ds) (hx : Passes CX X E)
    (ha : PA X (e :: es) t) (hdb : (x == ("__debug__" : Str)) = false := by decide) (he : starEach (e :: es) X.env = (false, eval e X.env) :: starEach es X.env := by rfl) (hpl : (backTo pos (starEach es X.env)).any (·.1) = false := by rfl) : PE X (.Call (.Name x p) (e :: es) [] pos) (tCall sp dvs E t) :=
  ⟨fun pins s σ H Q I h => wpAny_Call_Name_kw (ld_glob I hg hm (PySem.W.callWith_K (h₀ := X.base) I.ok.mod.kin hk (thn (ha.run pos pins s σ H _ I h) fun us s1 ⟨vs, H1, I1, r, q⟩ => ⟨I1.kIn, runG F gd hr hb hd hx I1 r q⟩) he hpl) hdb)⟩
/-- C(e, ..) -/
theorem pe_new (M : Mk X.K C f) (F : FnG X.prog X.w X.K X.mg X.base CX k f fd ps sp) (gd : X.A.guards = some []) (hr : Room (k + 1) X.A) (hg : Gl X x) (hm : X.mg x = some (.ref C)) (hb : Binds X.K fd ps ds) (hd : Vals dvs ds) (hx : Passes CX X E) (ha : PA X (e :: es) t)
    (hdb : (x == ("__debug__" : Str)) = false := by decide) (he : starEach (e :: es) X.env = (false, eval e X.env) :: starEach es X.env := by rfl) (hpl : (backTo pos (starEach es X.env)).any (·.1) = false := by rfl) : PE X (.Call (.Name x p) (e :: es) [] pos) (tMake C sp dvs E t) := by
  refine ⟨fun pins s σ H Q I h => wpAny_Call_Name_kw (ld_glob I hg hm (PySem.W.callWith_K (h₀ := X.base) I.ok.mod.kin M.kp (thn (ha.run pos pins s σ H _ I h) fun us s1 ⟨vs, H1, I1, r, q⟩ => ⟨I1.kIn, ?_⟩) he hpl) hdb)⟩
  have q0 := q (s1.heap.objs.size + 1) s1.heap.objs.size (I1.hok.fresh (Nat.le_succ _)) (I1.hok.fresh (Nat.le_refl _)) (Nat.ne_of_lt (Nat.lt_succ_self _))
  have J := Inv.made (C := C) I1
  have r2 : Vals (V.ref (s1.heap.objs.size + 1) :: (vs ++ dvs)) (Value.ref (s1.heap.objs.size + 1) :: (us ++ ds)) := .cons rfl (r.append hd)
  have hl : (Value.ref (s1.heap.objs.size + 1) :: us ++ ds).length = ps.length := r2.length.symm.trans (F.len _ _ _ _ q0)
  have gd2 : (X.A.under (.builtin "type.__call__" ⟨Value.ref C :: us, []⟩)).guards = some [] := by
    have z : (X.A.under (.builtin "type.__call__" ⟨Value.ref C :: us, []⟩)).guards = pushGuards (Code.builtin "type.__call__" ⟨Value.ref C :: us, []⟩).guards X.A.guards := rfl
    rw [z, gd]
    rfl
  refine wpAny_call (make_map (f := f) I1.kIn M.makes M.init (beq_iff_eq.mp M.fn) (codeAny_mono (F.run _ X.stack _ _ ⟨Value.ref (s1.heap.objs.size + 1) :: us, []⟩ _ _ _ E gd2 (hr.make C us []) (J.env0.make C us []) (hb _ (Value.ref (s1.heap.objs.size + 1) :: us) J.kIn hl) r2 q0) fun r s2 q2 => ?_))
  cases r with
  | error e => exact hx pins σ _ _ e s2 J q2
  | ok fl =>
    cases fl with
    | ret u =>
      obtain ⟨v, H2, J2, rv, ev, q3⟩ := J.after q2
      subst ev
      exact ⟨rv, V.ref _, H2, J2, rfl, q3⟩
    | next => exact q2.elim
    | brk => exact q2.elim
    | cont => exact q2.elim
end
end NL
set_option Elab.async false
set_option linter.all false
set_option maxRecDepth 100000
set_option maxHeartbeats 4000000
namespace NL
open PySem PySem.Spec L2
open PyProof.Rows hiding St
/-- room, and nothing is being shown -/
structure Rm (k : Nat) (A : Around) : Prop where
  room : Room k A
  gd : A.guards = some []
theorem Rm.mono {j k : Nat} {A : Around} (r : Rm k A) (h : j ≤ k) : Rm j A := ⟨r.room.mono h, r.gd⟩
theorem Rm.units {k : Nat} {A : Around} (r : Rm k A) : A.units + 64 < cLine := r.room.units
/-- what a def does: from its arguments and the objects that may be written, what is wanted of the answer -/
abbrev Wp := List SV → MM → (SV → MM → Prop) → Prop
def gh (S H : Hp) (M : MM) : Gh := ⟨S, H, fun a => M a ≠ none⟩
theorem Hst.enter {K : PySem.W.Frag} {G : Gh} {S H : Hp} {M : MM} (h : Hst K G S H M) : Hst K (gh S H M) S H M :=
  ⟨h.sub, h.own, Sub.rfl' S, fun _ _ q _ => q, fun _ q => .inl q, fun _ q => .inr q⟩
/-- behind a call -/
theorem Hst.leave {K : PySem.W.Frag} {G : Gh} {S H S' H' : Hp} {M M' : MM} (h : Hst K G S H M) (h' : Hst K (gh S H M) S' H' M') : Hst K G S' H' M' := by
  have mm : ∀ a, M a ≠ none → G.H0 a = none ∨ G.F0 a := h.g4
  have bk : ∀ a, H a = none → G.H0 a = none ∨ G.F0 a := fun a n => h.back n
  refine ⟨h'.sub, h'.own, h.g1.tr h'.g1, fun a o q f => ?_, fun a q => ?_, fun a q => ?_⟩
  · refine h'.g2 a o (h.g2 a o q f) fun z => ?_
    rcases mm a z with w | w
    · rw [w] at q; cases q
    · exact f w
  · have b1 : ∀ {a}, G.H0 a = none ∨ G.F0 a → G.S0 a ≠ none ∨ G.H0 a = none ∨ G.F0 a ∨ ∃ xs, G.H0 a = some (.tup xs) := fun z => by
      rcases z with z | z
      · exact .inr (.inl z)
      · exact .inr (.inr (.inl z))
    rcases h'.g3 a q with z | z | z | ⟨xs, z⟩
    · exact h.g3 a z
    · exact b1 (bk a z)
    · exact b1 (mm a z)
    · by_cases f : G.F0 a
      · exact .inr (.inr (.inl f))
      · cases e : G.H0 a with
        | none => exact .inr (.inl rfl)
        | some o =>
          have w := h.g2 a o e f
          have z' : H a = some (.tup xs) := z
          rw [z'] at w; cases w
          exact .inr (.inr (.inr ⟨xs, rfl⟩))
  · rcases h'.g4 a q with z | z
    · exact bk a z
    · exact mm a z
def spN (K : PySem.W.Frag) (n : Nat) (W : Wp) : Sp := fun vs H Q _ => ∃ (S : Hp) (ds : List SV) (M : MM) (R : SV → MM → Prop), RelA K S ds vs ∧ ds.length = n ∧ Hst K (gh S H M) S H M ∧ W ds M R ∧
  ∀ d M' v S' H', Hst K (gh S H M) S' H' M' → Rel K S' d v → R d M' → Q v H'
/-- the def's first state -/
def rho0 (N : List Str) (ds : List SV) : List SV := ds ++ List.replicate (N.length - ds.length) .u
section
variable {P : Program} {w : World} {K : PySem.W.Frag} {mg : Str → Option Value} {base : Heap}
/-- the end of a def -/
def pEnd (R : SV → MM → Prop) : Post := { nx := fun _ M => ∃ M', MLe M' M ∧ R (.d .none) M', rt := R }
/-- the same, its code object told -/
theorem fn_okC {x qual : Str} {st : Stmt} {f : Addr} {fd : FuncData} {N ps : List Str} {k : Nat} {W : Wp} (F : FunX K x qual st f fd) (sc : FnScope N ps (defScope st))
    (hb : ∀ (cdv : Value), fd.code = cdv → ∀ (A : Around) (outer : List Env) (s : Shared) (H : Hp) (E : XK) (G : Gh) (ds : List SV) (M : MM) (R : SV → MM → Prop), Rm k (A.deeper (envOfC qual (defScope st) s.heap.objs.size f cdv)) → ds.length = ps.length → W ds M R →
      jB (cxOf CX0 P w K mg base N qual (defScope st) f cdv A outer s H E).nox G (defBody st) (rho0 N ds) M (pEnd R)) :
    FnG P w K mg base CX0 (k + 1) f fd ps (spN K ps.length W) := by
  refine F.ok0C sc (fun vs H Q E h => ?_) (fun cdv ec A outer s H vs Q E gd hr h => ?_)
  · obtain ⟨S, ds, M, R, r, hl, _⟩ := h
    rw [r.len, hl]
  · obtain ⟨S, ds, M, R, r, hl, hs, hw, q⟩ := h
    refine ⟨_, pbS, hb cdv ec A outer s H E (gh S H M) ds M R ⟨hr, gd⟩ hl hw S H _ ⟨hs, ?_⟩ _ ⟨fun S1 H1 σ1 ρ1 M1 st1 h1 => ?_, fun S1 H1 M1 d v h1 r1 q1 => ?_, fun _ _ _ _ _ _ z => z.elim, fun _ _ _ _ _ _ z => z.elim⟩⟩
    · unfold rho0 L2.start
      refine (r.slots).app ?_
      rw [r.len]
      exact Slots.us _ _ (List.length_replicate ..)
    · obtain ⟨M', hle, h1⟩ := h1
      exact q (.d .none) M' .non S1 H1 (st1.hst.less hle) rfl h1
    · exact q d M1 v S1 H1 h1 r1 q1
/-- THE RULE for a def that lets no error out -/
theorem fn_ok {x qual : Str} {st : Stmt} {f : Addr} {fd : FuncData} {N ps : List Str} {k : Nat} {W : Wp} (F : FunX K x qual st f fd) (sc : FnScope N ps (defScope st))
    (hb : ∀ (cdv : Value) (A : Around) (outer : List Env) (s : Shared) (H : Hp) (E : XK) (G : Gh) (ds : List SV) (M : MM) (R : SV → MM → Prop), Rm k (A.deeper (envOfC qual (defScope st) s.heap.objs.size f cdv)) → ds.length = ps.length → W ds M R →
      jB (cxOf CX0 P w K mg base N qual (defScope st) f cdv A outer s H E).nox G (defBody st) (rho0 N ds) M (pEnd R)) :
    FnG P w K mg base CX0 (k + 1) f fd ps (spN K ps.length W) :=
  fn_okC F sc fun cdv _ => hb cdv
end
section
variable {X : Cx} {G : Gh} {ρ : List SV} {M M1 M2 : MM} {z : SV} {ds : List SV} {e : Expr} {es : List Expr} {pos p : Pos}
/-- f(e, ..); dd: the defaults that fill up -/
theorem e_call {k n : Nat} {f : Addr} {fd : FuncData} {ps : List Str} {W : Wp} {x : Str} {dvs : List V} {dus : List Value} {dd : List D} (F : FnG X.prog X.w X.K X.mg X.base CX0 k f fd ps (spN X.K n W)) (hr : Rm k X.A) (hm : X.mg x = some (.ref f)) (hk : PySem.W.keepIn X.K (.ref f) = true)
    (hb : Binds X.K fd ps dus) (hd : Vals dvs dus) (hdd : ∀ S, RpA X.K S dd dvs) (ha : jA X G (e :: es) ρ M ds M1) (hW : ∀ R : SV → MM → Prop, R z M2 → W (ds ++ dd.map SV.d) M1 R) (hl : (ds ++ dd.map SV.d).length = n) (hg : Gl X x := by rfl) (hdb : (x == ("__debug__" : Str)) = false := by decide)
    (he : starEach (e :: es) X.env = (false, eval e X.env) :: starEach es X.env := by rfl) (hpl : (backTo pos (starEach es X.env)).any (·.1) = false := by rfl) : jE X G (.Call (.Name x p) (e :: es) [] pos) ρ M z M2 := fun S H σ st Q q =>
  PE.go (pe_callX F hr.gd hr.room hg hm hk hb hd pass0 paS hdb he hpl) (ha S H σ st _ fun vs S1 H1 e1 st1 r1 =>
    ⟨S1, ds ++ dd.map SV.d, M1, fun d M' => d = z ∧ M' = M2, r1.app (RpA.ra (hdd S1)), hl, st1.hst.enter, hW _ ⟨rfl, rfl⟩, fun d M' v S' H' h' r' q' => by
      obtain ⟨rfl, rfl⟩ := q'
      exact q v S' H' (e1.tr h'.g1) ⟨st1.hst.leave h', st1.sl.mono h'.g1⟩ r'⟩)
theorem e_call1 {k n : Nat} {f : Addr} {fd : FuncData} {ps : List Str} {W : Wp} {x : Str} (F : FnG X.prog X.w X.K X.mg X.base CX0 k f fd ps (spN X.K n W)) (hr : Rm k X.A) (hm : X.mg x = some (.ref f)) (hk : PySem.W.keepIn X.K (.ref f) = true)
    (hb : Binds X.K fd ps []) (ha : jA X G (e :: es) ρ M ds M1) (hW : ∀ R : SV → MM → Prop, R z M2 → W ds M1 R) (hl : ds.length = n := by rfl) (hg : Gl X x := by rfl) (hdb : (x == ("__debug__" : Str)) = false := by decide)
    (he : starEach (e :: es) X.env = (false, eval e X.env) :: starEach es X.env := by rfl) (hpl : (backTo pos (starEach es X.env)).any (·.1) = false := by rfl) : jE X G (.Call (.Name x p) (e :: es) [] pos) ρ M z M2 :=
  e_call (dvs := []) (dd := []) F hr hm hk hb .nil (fun _ => rfl) ha (by simpa using hW) (by simpa using hl) hg hdb he hpl
end
structure semG' (X : Cx) (tg : Expr) (v : V) (σ : L2.St) (H : Hp) (Q : L2.St → Hp → Prop) : Prop where
  run : ∀ pins s u, Inv X pins σ H s → RelV v u → wpAny (model X.prog X.w) X.A (assign tg X.env u) (fun _ s' => ∃ σ' H', Inv X pins σ' H' s' ∧ Q σ' H') X.xe s
def semG (X : Cx) (tg : Expr) : TG := fun v σ H Q => semG' X tg v σ H Q
theorem pgS {X : Cx} {tg : Expr} : PG X tg (semG X tg) := ⟨fun pins s _ _ _ u _ I r h => h.run pins s u I r⟩
theorem PG.go {X : Cx} {tg : Expr} {t : TG} (p : PG X tg t) {v σ H Q} (h : t v σ H Q) : semG X tg v σ H Q := ⟨fun pins s u I r => p.run pins s σ H v u Q I r h⟩
/-- d goes to tg: own are the slots that are set -/
def jG (X : Cx) (tg : Expr) (d : SV) (own : List Nat) (f : List SV → List SV) : Prop := ∀ S H σ ρ M G v, Sta X.K G S H σ ρ M → Rel X.K S d v → ∀ Q : L2.St → Hp → Prop,
  (∀ σ', Sta X.K G S H σ' (f ρ) M → (∀ vs : List Nat, (∀ j ∈ own, j ∈ vs) → wipe σ' vs = wipe σ vs) → Q σ' H) → semG X tg v σ H Q
theorem wipe_set {σ : L2.St} {i : Nat} {x : Option V} : ∀ {vs : List Nat}, i ∈ vs → wipe (σ.set i x) vs = wipe σ vs
  | v :: vs, h => by
    unfold wipe
    by_cases hv : i = v
    · subst hv
      have : ∀ (vs : List Nat) (τ : L2.St), (wipe (τ.set i x) vs).set i none = (wipe τ vs).set i none := by
        intro vs
        induction vs with
        | nil => intro τ; unfold wipe; rw [List.set_set]
        | cons u us ih =>
          intro τ
          unfold wipe
          by_cases hu : u = i
          · subst hu; rw [List.set_set, List.set_set]; exact ih τ
          · rw [List.set_comm _ _ (hu), ih τ, List.set_comm _ _ (Ne.symm hu)]
      exact this vs σ
    · rw [wipe_set (vs := vs) (by rcases List.mem_cons.mp h with z | z; exact absurd z hv; exact z)]
theorem wipe_wipe (σ : L2.St) : ∀ (ws vs : List Nat), (∀ j ∈ ws, j ∈ vs) → wipe (wipe σ ws) vs = wipe σ vs
  | [], _, _ => rfl
  | w :: ws, vs, h => by
    show wipe ((wipe σ ws).set w none) vs = _
    rw [wipe_set (h w (List.mem_cons_self ..)), wipe_wipe σ ws vs fun j hj => h j (List.mem_cons_of_mem _ hj)]
section
variable {X : Cx} {pos : Pos}
theorem g_name {i : Nat} {n : Str} {d : SV} (hN : X.N.Nodup) (hi : X.N[i]? = some n := by rfl) (hx : Loc X.env.scope n := by first | exact Or.inl rfl | exact Or.inr rfl) (hf : X.fn n = true ∨ X.env.scope.names.lookup n = some .local := by first | exact .inl rfl | exact .inr rfl) :
    jG X (.Name n pos) d [i] (fun ρ => ρ.set i d) := fun S H σ ρ M G v st r Q q =>
  PG.go (pg_name hN hi hx hf) (q _ ⟨st.hst, st.sl.set (RelS.of r) i⟩ fun vs hv => wipe_set (hv i (List.mem_singleton.mpr rfl)))
theorem g_tup2 {a b : Expr} {k : Nat} {d1 d2 : D} {o1 o2 : List Nat} {f1 f2 : List SV → List SV} (hc : X.calm = true) (h1 : jG X a (.d d1) o1 f1) (h2 : jG X b (.d d2) o2 f2)
    (hn : (assignEach [a, b] X.env).length = 2 := by rfl) (hst : (assignEach [a, b] X.env).findIdx? (·.1) = none := by rfl) (hs1 : (assignEach [a, b] X.env).map (·.2) = assign a X.env :: (assignEach [b] X.env).map (·.2) := by rfl)
    (hs2 : (assignEach [b] X.env).map (·.2) = assign b X.env :: (assignEach [] X.env).map (·.2) := by rfl) :
    jG X (.Tuple [a, b] k pos) (.d (.tuple [d1, d2])) (o1 ++ o2) (fun ρ => f2 (f1 ρ)) := fun S H σ ρ M G v st r Q q => by
  obtain ⟨t, xs, rfl, ht, hxs⟩ := r
  have hlen := hxs.len
  obtain ⟨v1, r1, rfl, e1, v2, r2, rfl, e2, rfl⟩ := hxs
  refine PG.go (pg_tup hc (pgs_cons pgS (pgs_cons pgS pgs_nil hs2) hs1) hn hst) ⟨t, _, rfl, SqT.of (st.hst.sub _ _ ht), rfl, v1, _, rfl, ?_⟩
  refine h1 S H σ ρ M G v1 st e1 _ fun σ1 st1 w1 => ⟨v2, [], rfl, ?_⟩
  refine h2 S H σ1 (f1 ρ) M G v2 st1 e2 _ fun σ2 st2 w2 => ⟨rfl, q σ2 st2 fun vs hv => ?_⟩
  rw [w2 vs fun j hj => hv j (List.mem_append_right _ hj), w1 vs fun j hj => hv j (List.mem_append_left _ hj)]
end
structure Walks (K : PySem.W.Frag) (J : It) (S : Hp) (xs : List SV) (need : MM → Prop) : Prop where
  go : ∀ G i S1 H1 M1 σ1 ρ1, Sub S S1 → Sta K G S1 H1 σ1 ρ1 M1 → need M1 → i < xs.length → J.go i H1
  yld : ∀ G i S1 H1 M1 σ1 ρ1 x H', Sub S S1 → Sta K G S1 H1 σ1 ρ1 M1 → need M1 → i < xs.length → J.yld i H1 x H' → Sub H1 H' ∧ ∃ S2 d, xs[i]? = some d ∧ Sub S1 S2 ∧ (∀ a, S2 a ≠ none → S1 a ≠ none ∨ H1 a = none) ∧ Sta K G S2 H' σ1 ρ1 M1 ∧ Rel K S2 d x
  stop : ∀ G i S1 H1 M1 σ1 ρ1, Sub S S1 → Sta K G S1 H1 σ1 ρ1 M1 → need M1 → i = xs.length → J.stop i H1
def jI (X : Cx) (G : Gh) (tg it : Expr) (ρ : List SV) (M : MM) (xs : List SV) (need : MM → Prop) (M' : MM) : Prop := ∀ S H σ, Sta X.K G S H σ ρ M → ∀ R : It → Hp → Prop,
  (∀ J S' H', Sub S S' → Sta X.K G S' H' σ ρ M' → Walks X.K J S' xs need → R J H') → semI X tg it σ H R
def any1 : MM → Prop := fun _ => True
section
variable {X : Cx} {G : Gh} {tg e : Expr} {ρ : List SV} {M M1 : MM} {pos p : Pos}
theorem walks_list {K : PySem.W.Frag} {S : Hp} {a : Addr} {xs : List D} {vs : List V} (h : S a = some (.lst vs)) (r : RpA K S xs vs) : Walks K (Itl K a) S (xs.map SV.d) any1 where
  go := fun G i S1 H1 M1 σ1 ρ1 e st _ hi => by
    rw [List.length_map] at hi
    have hv : i < vs.length := by rw [r.len]; exact hi
    exact ⟨vs, vs[i], SqL.of (e.tr st.hst.sub a _ h), List.getElem?_eq_getElem hv⟩
  yld := fun G i S1 H1 M1 σ1 ρ1 x H' e st _ hi y => by
    rw [List.length_map] at hi
    obtain ⟨rfl, y⟩ := y
    obtain ⟨v, hv, rv⟩ := r.at (List.getElem?_eq_getElem hi)
    have ex := y vs (SqL.of (e.tr st.hst.sub a _ h))
    rw [hv] at ex
    cases ex
    exact ⟨Sub.rfl' _, S1, _, (show _ = some (SV.d xs[i]) by rw [List.getElem?_map, List.getElem?_eq_getElem hi]; rfl), Sub.rfl' _, fun _ q => .inl q, st, (show Rp K S1 xs[i] x from Rp.mono e _ _ rv)⟩
  stop := fun G i S1 H1 M1 σ1 ρ1 e st _ hi => ⟨vs, SqL.of (e.tr st.hst.sub a _ h), by rw [r.len, hi, List.length_map]; exact Nat.le_refl _⟩
theorem walks_tup {K : PySem.W.Frag} {S : Hp} {a : Addr} {xs : List D} {vs : List V} (h : S a = some (.tup vs)) (r : RpA K S xs vs) : Walks K (Itt K a) S (xs.map SV.d) any1 where
  go := fun G i S1 H1 M1 σ1 ρ1 e st _ hi => by
    rw [List.length_map] at hi
    have hv : i < vs.length := by rw [r.len]; exact hi
    exact ⟨vs, vs[i], SqT.of ((e.tr st.hst.sub) _ _ h), List.getElem?_eq_getElem hv⟩
  yld := fun G i S1 H1 M1 σ1 ρ1 x H' e st _ hi y => by
    rw [List.length_map] at hi
    obtain ⟨rfl, y⟩ := y
    obtain ⟨v, hv, rv⟩ := r.at (List.getElem?_eq_getElem hi)
    have ex := y vs (SqT.of ((e.tr st.hst.sub) _ _ h))
    rw [hv] at ex
    cases ex
    exact ⟨Sub.rfl' _, S1, _, (show _ = some (SV.d xs[i]) by rw [List.getElem?_map, List.getElem?_eq_getElem hi]; rfl), Sub.rfl' _, fun _ q => .inl q, st, (show Rp K S1 xs[i] x from Rp.mono e _ _ rv)⟩
  stop := fun G i S1 H1 M1 σ1 ρ1 e st _ hi => ⟨vs, SqT.of ((e.tr st.hst.sub) _ _ h), by rw [r.len, hi, List.length_map]; exact Nat.le_refl _⟩
theorem i_list {xs : List D} (h : jE X G e ρ M (.d (.list xs)) M1) : jI X G tg e ρ M (xs.map SV.d) any1 M1 := fun S H σ st R q =>
  PI.go (pi_list peS) (h S H σ st _ fun v S1 H1 e1 st1 r1 => by
    obtain ⟨a, vs, rfl, hs, hr⟩ := r1
    exact ⟨a, rfl, ⟨vs, SqL.of (st1.hst.sub a _ hs)⟩, q _ S1 H1 e1 st1 (walks_list hs hr)⟩)
theorem i_tup {xs : List D} (h : jE X G e ρ M (.d (.tuple xs)) M1) : jI X G tg e ρ M (xs.map SV.d) any1 M1 := fun S H σ st R q =>
  PI.go (pi_tup peS) (h S H σ st _ fun v S1 H1 e1 st1 r1 => by
    obtain ⟨a, vs, rfl, hs, hr⟩ := r1
    exact ⟨a, rfl, ⟨vs, SqT.of (st1.hst.sub _ _ hs)⟩, q _ S1 H1 e1 st1 (walks_tup hs hr)⟩)
/-- over a list of one's own that stays as it is -/
theorem i_own {a : Addr} {xs : List SV} (h : jE X G e ρ M (.o a) M1) (hM : M1 a = some (.lst xs)) : jI X G tg e ρ M xs (fun M' => M' a = some (.lst xs)) M1 := fun S H σ st R q =>
  PI.go (pi_list peS) (h S H σ st _ fun v S1 H1 e1 st1 r1 => by
    obtain rfl : v = .ref a := r1
    obtain ⟨_, o, ho, vs, rfl, _⟩ := st1.hst.own a _ hM
    refine ⟨a, rfl, ⟨vs, SqL.of ho⟩, q _ S1 H1 e1 st1 ⟨fun G i S2 H2 M2 σ2 ρ2 e2 st2 n2 hi => ?_, fun G i S2 H2 M2 σ2 ρ2 x H' e2 st2 n2 hi y => ?_, fun G i S2 H2 M2 σ2 ρ2 e2 st2 n2 hi => ?_⟩⟩
    · obtain ⟨_, o, ho, vs, rfl, r⟩ := st2.hst.own a _ n2
      have hv : i < vs.length := by rw [r.len]; exact hi
      exact ⟨vs, vs[i], SqL.of ho, List.getElem?_eq_getElem hv⟩
    · obtain ⟨_, o, ho, vs, rfl, r⟩ := st2.hst.own a _ n2
      obtain ⟨rfl, y⟩ := y
      have hv : i < vs.length := by rw [r.len]; exact hi
      have ex := y vs (SqL.of ho)
      refine ⟨Sub.rfl' _, S2, xs[i], List.getElem?_eq_getElem hi, Sub.rfl' _, fun _ q => .inl q, st2, ?_⟩
      have key : ∀ {xs : List SV} {vs : List V} {i : Nat} {d : SV} {v : V}, RelA X.K S2 xs vs → xs[i]? = some d → vs[i]? = some v → Rel X.K S2 d v := by
        intro xs
        induction xs with
        | nil => intro vs i d v _ h; simp at h
        | cons x xs ih =>
          intro vs i d v h h1 h2
          obtain ⟨u, r, rfl, a1, a2⟩ := h
          cases i with
          | zero => simp at h1 h2; subst h1 h2; exact a1
          | succ i => exact ih a2 (by simpa using h1) (by simpa using h2)
      exact key r (List.getElem?_eq_getElem hi) ex
    · obtain ⟨_, o, ho, vs, rfl, r⟩ := st2.hst.own a _ n2
      exact ⟨vs, SqL.of ho, by rw [r.len, hi]; exact Nat.le_refl _⟩)
def rgD (lo : Int) (n : Nat) : List SV := (List.range n).map fun i => SV.d (.int (lo + (i : Nat)))
theorem walks_range {K : PySem.W.Frag} {S : Hp} {lo : Int} {n : Nat} : Walks K (Itr lo n) S (rgD lo n) any1 where
  go := fun G i S1 H1 M1 σ1 ρ1 e st _ hi => by
    have : (rgD lo n).length = n := by simp [rgD]
    show i < n
    omega
  yld := fun G i S1 H1 M1 σ1 ρ1 x H' e st _ hi y => by
    obtain ⟨rfl, rfl⟩ := y
    have hi' : i < n := by simpa [rgD] using hi
    exact ⟨Sub.rfl' _, S1, .d (.int (lo + (i : Nat))), by simp [rgD, hi'], Sub.rfl' _, fun _ q => .inl q, st, rfl⟩
  stop := fun G i S1 H1 M1 σ1 ρ1 e st _ hi => by
    have : (rgD lo n).length = n := by simp [rgD]
    show n ≤ i
    omega
theorem i_range1 {a : Expr} {j : Int} (ha : jA X G [a] ρ M [.d (.int j)] M1) (h1 : -(2 ^ 62) ≤ j) (h2 : j < 2 ^ 62) (hm : X.mg "range" = none) (hg : Gl X "range" := by rfl) (hs : starEach [a] X.env = [(false, eval a X.env)] := by rfl) :
    jI X G tg (.Call (.Name "range" p) [a] [] pos) ρ M (rgD 0 j.toNat) any1 M1 := fun S H σ st R q =>
  PI.go (pi_range1 hg hm paS hs) (ha S H σ st _ fun vs S1 H1 e1 st1 r1 => by
    obtain ⟨v, r, rfl, hv, rfl⟩ := r1
    obtain rfl : v = .int j := hv
    exact ⟨j, rfl, h1, h2, q _ S1 H1 e1 st1 walks_range⟩)
theorem i_range2 {a b : Expr} {i j : Int} (ha : jA X G [a, b] ρ M [.d (.int i), .d (.int j)] M1) (h1 : -(2 ^ 62) ≤ i ∧ i < 2 ^ 62 ∧ -(2 ^ 62) ≤ j ∧ j < 2 ^ 62) (hm : X.mg "range" = none) (hg : Gl X "range" := by rfl)
    (hs : starEach [a, b] X.env = [(false, eval a X.env), (false, eval b X.env)] := by rfl) (hs2 : starEach [b] X.env = [(false, eval b X.env)] := by rfl) :
    jI X G tg (.Call (.Name "range" p) [a, b] [] pos) ρ M (rgD i (j - i).toNat) any1 M1 := fun S H σ st R q =>
  PI.go (pi_range2 hg hm paS hs hs2) (ha S H σ st _ fun vs S1 H1 e1 st1 r1 => by
    obtain ⟨v, r, rfl, hv, v2, r2, rfl, hv2, rfl⟩ := r1
    obtain rfl : v = .int i := hv
    obtain rfl : v2 = .int j := hv2
    exact ⟨i, j, rfl, h1, q _ S1 H1 e1 st1 walks_range⟩)
theorem Sta.enter {K : PySem.W.Frag} {S H : Hp} {σ : L2.St} (h : Sta K G S H σ ρ M) : Sta K (gh S H M) S H σ ρ M := ⟨h.hst.enter, h.sl⟩
theorem Sta.leave {K : PySem.W.Frag} {S H S' H' : Hp} {σ' : L2.St} {ρ' : List SV} {M' : MM} (h : Hst K G S H M) (h' : Sta K (gh S H M) S' H' σ' ρ' M') : Sta K G S' H' σ' ρ' M' := ⟨h.leave h'.hst, h'.sl⟩
/-- the wishes of a part, from a state within -/
theorem Fits.inner {K : PySem.W.Frag} {P' : Post} {D' : Ends} {S H : Hp} (h : Hst K G S H M) (nx : ∀ S1 H1 σ ρ M1, Sub S S1 → Sta K G S1 H1 σ ρ M1 → P'.nx ρ M1 → D'.nx σ H1) (rt : ∀ S1 H1 M1 d v, Hst K G S1 H1 M1 → Rel K S1 d v → P'.rt d M1 → D'.rt v H1)
    (bk : ∀ S1 H1 σ ρ M1, Sub S S1 → Sta K G S1 H1 σ ρ M1 → P'.bk ρ M1 → D'.bk σ H1) (ct : ∀ S1 H1 σ ρ M1, Sub S S1 → Sta K G S1 H1 σ ρ M1 → P'.ct ρ M1 → D'.ct σ H1) : Fits K (gh S H M) P' D' :=
  ⟨fun S1 H1 σ ρ M1 s q => nx S1 H1 σ ρ M1 s.hst.g1 (s.leave h) q, fun S1 H1 M1 d v s r q => rt S1 H1 M1 d v (h.leave s) r q, fun S1 H1 σ ρ M1 s q => bk S1 H1 σ ρ M1 s.hst.g1 (s.leave h) q, fun S1 H1 σ ρ M1 s q => ct S1 H1 σ ρ M1 s.hst.g1 (s.leave h) q⟩
theorem s_for {it : Expr} {body : List Stmt} {P : Post} {xs : List SV} {need : MM → Prop} (I : Nat → List SV → MM → Prop) (hi : jI X G tg it ρ M xs need M1) (h0 : I 0 ρ M1) (hneed : ∀ i ρ' M', I i ρ' M' → need M')
    (step : ∀ G i d ρ' M', xs[i]? = some d → I i ρ' M' → ∃ own f, jG X tg d own f ∧ jB X G body (f ρ') M' { P with nx := I (i + 1), ct := I (i + 1), bk := P.nx }) (done : ∀ ρ' M', I xs.length ρ' M' → P.nx ρ' M')
    (hp : PassesOwn (model X.prog X.w) X.A X.env X.xe) (hc : X.calm = true := by rfl) (hs : ∀ x, foldedSetIterable it X.env x = pure x := by intro _; rfl) : jS X G (.For tg it body [] pos) ρ M P := fun S H σ st D ft =>
  PS.go (ps_for hp hc piS pgS pbS hs) (hi S H σ st _ fun J S1 H1 e1 st1 w => by
    refine ⟨fun i m σ' H' => m = xs.length - i ∧ i ≤ xs.length ∧ ∃ S' ρ' M', Sub S1 S' ∧ Sta X.K G S' H' σ' ρ' M' ∧ I i ρ' M', ⟨xs.length, by simp, Nat.zero_le _, S1, ρ, M1, Sub.rfl' _, st1, h0⟩, ?_⟩
    rintro i m σ' H' ⟨rfl, hle, S', ρ', M', es, st', hI⟩
    have hn := hneed i ρ' M' hI
    by_cases hlt : i < xs.length
    · refine .inr ⟨w.go G i S' H' M' σ' ρ' es st' hn hlt, fun σ2 H2 => ∃ S2 ρ2 M2, Sub S1 S2 ∧ Sta X.K G S2 H2 σ2 ρ2 M2 ∧ I (i + 1) ρ2 M2, fun σ2 H2 h2 => ⟨xs.length - (i + 1), by omega, rfl, hlt, h2⟩, fun x H2 y => ?_⟩
      obtain ⟨_, S2, d, hd, e2, _, st2, r2⟩ := w.yld G i S' H' M' σ' ρ' x H2 es st' hn hlt y
      obtain ⟨own, f, hg, hb⟩ := step (gh S2 H2 M') i d ρ' M' hd hI
      refine hg S2 H2 σ' ρ' M' G x st2 r2 _ fun σ3 st3 _ => ?_
      have e3 : Sub S1 S2 := es.tr e2
      exact hb S2 H2 σ3 st3.enter _ (Fits.inner st3.hst (fun S4 H4 σ4 ρ4 M4 e4 s4 q => ⟨S4, ρ4, M4, e3.tr e4, s4, q⟩) ft.rt (fun S4 H4 σ4 ρ4 M4 e4 s4 q => ft.nx S4 H4 σ4 ρ4 M4 s4 q) (fun S4 H4 σ4 ρ4 M4 e4 s4 q => ⟨S4, ρ4, M4, e3.tr e4, s4, q⟩))
    · have e : i = xs.length := by omega
      subst e
      exact .inl ⟨w.stop G _ S' H' M' σ' ρ' es st' hn rfl, ft.nx S' H' σ' ρ' M' st' (done ρ' M' hI)⟩)
theorem s_while {c : Expr} {body : List Stmt} {P : Post} (I : Nat → List SV → MM → Prop) (m : Nat) (h0 : I m ρ M)
    (step : ∀ m ρ' M', I m ρ' M' → ∃ b M2, jT X G c ρ' M' b M2 ∧ (b = true → jB X G body ρ' M2 { P with nx := fun ρ2 M3 => ∃ m', m' < m ∧ I m' ρ2 M3, ct := fun ρ2 M3 => ∃ m', m' < m ∧ I m' ρ2 M3, bk := P.nx }) ∧ (b = false → P.nx ρ' M2))
    (hp : PassesOwn (model X.prog X.w) X.A X.env X.xe) : jS X G (.While c body [] pos) ρ M P := fun S H σ st D ft =>
  PS.go (ps_while hp ptS pbS) (by
    refine ⟨fun m σ' H' => ∃ S' ρ' M', Sta X.K G S' H' σ' ρ' M' ∧ I m ρ' M', ⟨m, S, ρ, M, st, h0⟩, ?_⟩
    rintro m σ' H' ⟨S', ρ', M', st', hI⟩
    obtain ⟨b, M2, hc, ht, hf⟩ := step m ρ' M' hI
    refine hc S' H' σ' st' _ fun S2 H2 e2 st2 => ?_
    cases b with
    | true =>
      refine iteT ⟨fun σ3 H3 => ∃ S3 ρ3 M3, Sta X.K G S3 H3 σ3 ρ3 M3 ∧ ∃ m', m' < m ∧ I m' ρ3 M3, fun σ3 H3 ⟨S3, ρ3, M3, s3, m', l, i3⟩ => ⟨m', l, S3, ρ3, M3, s3, i3⟩, ?_⟩
      exact ht rfl S2 H2 σ' st2 _ ⟨fun S3 H3 σ3 ρ3 M3 s3 q => ⟨S3, ρ3, M3, s3, q⟩, ft.rt, fun S3 H3 σ3 ρ3 M3 s3 q => ft.nx S3 H3 σ3 ρ3 M3 s3 q, fun S3 H3 σ3 ρ3 M3 s3 q => ⟨S3, ρ3, M3, s3, q⟩⟩
    | false => exact iteF (ft.nx S2 H2 σ' ρ' M2 st2 (hf rfl)))
end
def wipeR (ρ : List SV) : List Nat → List SV
  | [] => ρ
  | v :: vs => (wipeR ρ vs).set v .u
theorem slots_wipe {K : PySem.W.Frag} {S : Hp} {ρ : List SV} {σ : L2.St} (h : Slots K S ρ σ) : ∀ vs, Slots K S (wipeR ρ vs) (wipe σ vs)
  | [] => h
  | v :: vs => (slots_wipe h vs).set (s := .u) (v := none) trivial v
/-- a clause's tests: all of them -/
structure semTs' (X : Cx) (ifs : List Expr) (σ : L2.St) (H : Hp) (Q : Bool → Hp → Prop) : Prop where
  run : ∀ pins s, Inv X pins σ H s →
  wpAny (model X.prog X.w) X.A (forIn ifs true fun c r => if r = true then do let ok ← isTrue c X.env (eval c X.env); pure (ForInStep.yield ok) else pure (ForInStep.yield r)) (TP X pins σ Q) X.xe s
def semTs (X : Cx) (ifs : List Expr) : TT := fun σ H Q => semTs' X ifs σ H Q
def jTs (X : Cx) (G : Gh) (ifs : List Expr) (ρ : List SV) (M : MM) (b : Bool) (M' : MM) : Prop := ∀ S H σ, Sta X.K G S H σ ρ M → ∀ Q : Bool → Hp → Prop, (∀ S' H', Sub S S' → Sta X.K G S' H' σ ρ M' → Q b H') → semTs X ifs σ H Q
theorem ts_nil {X : Cx} {G : Gh} {ρ : List SV} {M : MM} : jTs X G [] ρ M true M := fun S H σ st Q q => ⟨fun pins s I => pts_nil.run pins s σ H Q I (q S H (Sub.rfl' S) st)⟩
theorem ts_one {X : Cx} {G : Gh} {ρ : List SV} {M M1 : MM} {c : Expr} {b : Bool} (h : jT X G c ρ M b M1) : jTs X G [c] ρ M b M1 := fun S H σ st Q q => ⟨fun pins s I => (pts_one ptS).run pins s σ H Q I (h S H σ st Q q)⟩
abbrev blk (X : Cx) (scope : Scope) (s : Shared) (H : Hp) (C : Addr) (cl : List (Str × Addr)) (fp : List Addr) : Cx := X.blk s H scope (compEnvC scope cl C X.env) fp
/-- outputs so far -/
def outs (o : Nat → Option SV) (n : Nat) : List SV := (List.range n).filterMap o
theorem outs_len (o : Nat → Option SV) (n : Nat) : (outs o n).length ≤ n := by
  unfold outs
  have := List.length_filterMap_le o (List.range n)
  rwa [List.length_range] at this
theorem outs_succ (o : Nat → Option SV) (n : Nat) : outs o (n + 1) = outs o n ++ (o n).toList := by
  unfold outs
  rw [List.range_succ, List.filterMap_append]
  cases h : o n <;> simp [h]
section
variable {X : Cx} {G : Gh} {ρ : List SV} {M M1 : MM}
theorem lcT {elt tg it : Expr} {ifs : List Expr} {scope : Scope} {own : List (Str × Nat)} {xs : List SV} {need : MM → Prop} (Ms : Nat → MM) (o : Nat → Option SV) (hi : jI X G tg it ρ M xs need (Ms 0)) (ok : BlkOk X.N X.env.scope scope own) (hN : X.N.Nodup)
    (hneed : ∀ i, i ≤ xs.length → need (Ms i)) (hlen : xs.length ≤ 1000000)
    (step : ∀ i d, xs[i]? = some d → ∃ (b : Bool) (ow : List Nat) (f : List SV → List SV) (M2 : MM), (∀ j ∈ ow, j ∈ own.map (·.2)) ∧ (∀ s H C cl fp, jG (blk X scope s H C cl fp) tg d ow f) ∧
      (∀ s H C cl fp G, jTs (blk X scope s H C cl fp) G ifs (f (wipeR ρ (own.map (·.2)))) (Ms i) b M2) ∧
      (b = true → ∃ y, o i = some y ∧ ∀ s H C cl fp G, jE (blk X scope s H C cl fp) G elt (f (wipeR ρ (own.map (·.2)))) M2 y (Ms (i + 1))) ∧ (b = false → o i = none ∧ M2 = Ms (i + 1)))
    {S H : Hp} {σ : L2.St} (st : Sta X.K G S H σ ρ M) {Q : VK} (q : ∀ p S' H', Sub S S' → Ms xs.length p = none → Sta X.K G S' H' σ ρ (mset (Ms xs.length) p (.lst (outs o xs.length))) → Q (.ref p) H') :
    tLc (semI X tg it) (fun v σ H Q => ∀ s H0 C cl fp, semG (blk X scope s H0 C cl fp) tg v σ H Q) (fun σ H Q => ∀ s H0 C cl fp, semTs (blk X scope s H0 C cl fp) ifs σ H Q) (fun σ H Q => ∀ s H0 C cl fp, semE (blk X scope s H0 C cl fp) elt σ H Q) (own.map (·.2)) σ H Q := by
  obtain ⟨vs, hvs⟩ : ∃ vs, vs = own.map (·.2) := ⟨_, rfl⟩
  rw [← hvs] at step ⊢
  refine hi S H σ st _ fun J S1 H1 e1 st1 w Dl nD => ?_
  have stW : Sta X.K G S1 H1 (wipe σ vs) (wipeR ρ vs) (Ms 0) := ⟨st1.hst, slots_wipe st1.sl vs⟩
  obtain ⟨nS, nM⟩ := st1.hst.free nD
  have gD := st1.hst.back nD
  refine ⟨fun i m H' => m = xs.length - i ∧ i ≤ xs.length ∧ ∃ S' ws, Sub S1 S' ∧ S' Dl = none ∧ Ms i Dl = none ∧ Sta X.K G S' H' (wipe σ vs) (wipeR ρ vs) (Ms i) ∧ H' Dl = some (.lst ws) ∧ RelA X.K S' (outs o i) ws,
    ⟨xs.length, by simp, Nat.zero_le _, S1, [], Sub.rfl' _, nS, nM, ⟨stW.hst.grow (Evl.Ex.new nD), stW.sl⟩, upd_same, rfl⟩, ?_⟩
  rintro i m H' ⟨rfl, hle, S', ws, es, nS', nM', st', hD, hw⟩
  have hn := hneed i hle
  by_cases hlt : i < xs.length
  · refine .inr ⟨w.go G i S' H' (Ms i) _ _ es st' hn hlt, fun H2 => ∃ S' ws, Sub S1 S' ∧ S' Dl = none ∧ Ms (i + 1) Dl = none ∧ Sta X.K G S' H2 (wipe σ vs) (wipeR ρ vs) (Ms (i + 1)) ∧ H2 Dl = some (.lst ws) ∧ RelA X.K S' (outs o (i + 1)) ws,
      fun H2 h2 => ⟨xs.length - (i + 1), by omega, rfl, hlt, h2⟩, fun x H2 y => ?_⟩
    obtain ⟨eH, S2, d, hd, e2, fr2, st2, r2⟩ := w.yld G i S' H' (Ms i) _ _ x H2 es st' hn hlt y
    have hD2 : H2 Dl = some (.lst ws) := eH _ _ hD
    have nS2 : S2 Dl = none := by
      cases q2 : S2 Dl with
      | none => rfl
      | some u => exact absurd (fr2 Dl (by rw [q2]; exact fun z => nomatch z)) (by rw [nS', hD]; simp)
    obtain ⟨b, ow, f, M2, how, hg, ht, hy, hno⟩ := step i d hd
    intro s H0 C cl fp
    refine hg s H0 C cl fp S2 H2 (wipe σ vs) _ (Ms i) G x st2 r2 _ fun σ3 st3 w3 => ⟨by rw [w3 vs how, wipe_wipe σ vs vs fun _ h => h], ?_⟩
    intro s H0 C cl fp
    -- the inner part, from here on by itself: the new list is not its own
    have foreign : ∀ {S4 H4 M4}, Hst X.K (gh S2 H2 (Ms i)) S4 H4 M4 → S4 Dl = none ∧ M4 Dl = none ∧ H4 Dl = some (.lst ws) := fun {S4 H4 M4} h4 => by
      refine ⟨?_, ?_, h4.g2 Dl _ hD2 fun z => z nM'⟩
      · cases q2 : S4 Dl with
        | none => rfl
        | some u =>
          rcases h4.g3 Dl (by rw [q2]; exact fun z => nomatch z) with z | z | z | ⟨xs, z⟩
          · exact absurd nS2 z
          · have z' : H2 Dl = none := z
            rw [hD2] at z'; cases z'
          · exact absurd nM' z
          · have z' : H2 Dl = some (.tup xs) := z
            rw [hD2] at z'; cases z'
      · cases q2 : M4 Dl with
        | none => rfl
        | some u =>
          rcases h4.g4 Dl (by rw [q2]; exact fun z => nomatch z) with z | z
          · have z' : H2 Dl = none := z
            rw [hD2] at z'; cases z'
          · exact absurd nM' z
    refine ht s H0 C cl fp (gh S2 H2 (Ms i)) S2 H2 σ3 st3.enter _ fun S4 H4 e4 st4 => ?_
    cases b with
    | true =>
      refine iteT ?_
      obtain ⟨yv, ho, hel⟩ := hy rfl
      intro s H0 C cl fp
      refine hel s H0 C cl fp (gh S2 H2 (Ms i)) S4 H4 σ3 st4 _ fun v S5 H5 e5 st5 r5 => ?_
      obtain ⟨a1, a2, a3⟩ := foreign st5.hst
      have e25 : Sub S2 S5 := e4.tr e5
      refine ⟨ws, a3, ?_, S5, ws ++ [v], (es.tr e2).tr e25, a1, a2, ?_, upd_same, ?_⟩
      · rw [hw.len]
        have := outs_len o i
        exact sz_lt (by omega)
      · have h5 : Hst X.K G S5 H5 (Ms (i + 1)) := st2.hst.leave st5.hst
        refine ⟨?_, Slots.mono (e2.tr e25) st'.sl⟩
        -- the new list is written
        refine ⟨fun a u z => ?_, fun a m z => ?_, h5.g1, fun a u z f => ?_, h5.g3, h5.g4⟩
        · have na : a ≠ Dl := fun e => by rw [e, a1] at z; cases z
          rw [upd_ne na]; exact h5.sub a u z
        · have na : a ≠ Dl := fun e => by rw [e, a2] at z; cases z
          obtain ⟨k1, u, k2, k3⟩ := h5.own a m z
          exact ⟨k1, u, by rw [upd_ne na]; exact k2, k3⟩
        · have na : a ≠ Dl := fun e => by
            rcases gD with g | g
            · rw [e, g] at z; cases z
            · exact f (e ▸ g)
          rw [upd_ne na]; exact h5.g2 a u z f
      · rw [outs_succ, ho]
        exact (hw.mono (e2.tr e25)).app ⟨v, [], rfl, r5, rfl⟩
    | false =>
      refine iteF ?_
      obtain ⟨ho, rfl⟩ := hno rfl
      obtain ⟨a1, a2, a3⟩ := foreign st4.hst
      refine ⟨S4, ws, (es.tr e2).tr e4, a1, a2, ⟨st2.hst.leave st4.hst, Slots.mono (e2.tr e4) st'.sl⟩, a3, ?_⟩
      rw [outs_succ, ho]
      simp only [Option.toList, List.append_nil]
      exact hw.mono (e2.tr e4)
  · have e : i = xs.length := by omega
    subst e
    refine .inl ⟨w.stop G _ S' H' _ _ _ es st' hn rfl, q Dl S' H' (e1.tr es) nM' ⟨?_, st1.sl.mono es⟩⟩
    have h := st'.hst
    refine ⟨h.sub, fun a m z => ?_, h.g1, h.g2, h.g3, fun a z => ?_⟩
    · by_cases ha : a = Dl
      · subst ha
        rw [mset_same] at z; cases z
        exact ⟨nS', _, hD, ws, rfl, hw⟩
      · rw [mset_ne ha] at z; exact h.own a m z
    · by_cases ha : a = Dl
      · subst ha; exact gD
      · rw [mset_ne ha] at z; exact h.g4 a z
theorem l_lc {elt tg it : Expr} {ifs : List Expr} {scope : Scope} {own : List (Str × Nat)} {pos : Pos} {xs : List SV} {need : MM → Prop} (Ms : Nat → MM) (o : Nat → Option SV) (hi : jI X G tg it ρ M xs need (Ms 0)) (ok : BlkOk X.N X.env.scope scope own) (hN : X.N.Nodup)
    (hneed : ∀ i, i ≤ xs.length → need (Ms i)) (hlen : xs.length ≤ 1000000)
    (step : ∀ i d, xs[i]? = some d → ∃ (b : Bool) (ow : List Nat) (f : List SV → List SV) (M2 : MM), (∀ j ∈ ow, j ∈ own.map (·.2)) ∧ (∀ s H C cl fp, jG (blk X scope s H C cl fp) tg d ow f) ∧
      (∀ s H C cl fp G, jTs (blk X scope s H C cl fp) G ifs (f (wipeR ρ (own.map (·.2)))) (Ms i) b M2) ∧
      (b = true → ∃ y, o i = some y ∧ ∀ s H C cl fp G, jE (blk X scope s H C cl fp) G elt (f (wipeR ρ (own.map (·.2)))) M2 y (Ms (i + 1))) ∧ (b = false → o i = none ∧ M2 = Ms (i + 1)))
    (hc : X.calm = true := by rfl) (hs : ∀ x, foldedSetIterable it X.env x = pure x := by intro _; rfl) : jL X G (.ListComp elt [⟨tg, it, ifs, 0⟩] scope pos) ρ M (outs o xs.length) (Ms xs.length) := fun S H σ st Q q =>
  PE.go (pe_lc (g := fun v σ H Q => ∀ s H0 C cl fp, semG (blk X scope s H0 C cl fp) tg v σ H Q) (tt := fun σ H Q => ∀ s H0 C cl fp, semTs (blk X scope s H0 C cl fp) ifs σ H Q) (te := fun σ H Q => ∀ s H0 C cl fp, semE (blk X scope s H0 C cl fp) elt σ H Q) hc hN piS ok (fun s H0 C cl fp => ⟨fun pins s2 σ2 H2 v u Q2 I r h => (h s H0 C cl fp).run pins s2 u I r⟩) (fun s H0 C cl fp => ⟨fun pins s2 σ2 H2 Q2 I h => (h s H0 C cl fp).run pins s2 I⟩) (fun s H0 C cl fp => ⟨fun pins s2 σ2 H2 Q2 I h => (h s H0 C cl fp).run pins s2 I⟩) hs) (lcT Ms o hi ok hN hneed hlen step st q)
theorem s_setLd {elt tg it : Expr} {ifs : List Expr} {scope : Scope} {own : List (Str × Nat)} {pos spos py : Pos} {y : Str} {P : Post} {xs : List SV} {ys : List D} {need : MM → Prop} (i : Nat) (Ms : Nat → MM) (o : Nat → Option SV) (hi : jI X G tg it ρ M xs need (Ms 0)) (ok : BlkOk X.N X.env.scope scope own) (hN : X.N.Nodup)
    (hneed : ∀ i, i ≤ xs.length → need (Ms i)) (hlen : xs.length ≤ 1000000)
    (step : ∀ i d, xs[i]? = some d → ∃ (b : Bool) (ow : List Nat) (f : List SV → List SV) (M2 : MM), (∀ j ∈ ow, j ∈ own.map (·.2)) ∧ (∀ s H C cl fp, jG (blk X scope s H C cl fp) tg d ow f) ∧
      (∀ s H C cl fp G, jTs (blk X scope s H C cl fp) G ifs (f (wipeR ρ (own.map (·.2)))) (Ms i) b M2) ∧
      (b = true → ∃ y, o i = some y ∧ ∀ s H C cl fp G, jE (blk X scope s H C cl fp) G elt (f (wipeR ρ (own.map (·.2)))) M2 y (Ms (i + 1))) ∧ (b = false → o i = none ∧ M2 = Ms (i + 1)))
    (hy' : outs o xs.length = ys.map SV.d) (k : P.nx (ρ.set i (.d (.list ys))) (Ms xs.length)) (hy : X.N[i]? = some y := by rfl) (hyl : X.env.scope.names.lookup y = some .local := by rfl)
    (hsw : swapsWith (.ListComp elt [⟨tg, it, ifs, 0⟩] scope pos) (some (.Name y py)) spos.line X.env = pure true := by exact sw_true rfl rfl rfl rfl)
    (hc : X.calm = true := by rfl) (hs : ∀ x, foldedSetIterable it X.env x = pure x := by intro _; rfl) : jS X G (.Assign [.Name y py] (.ListComp elt [⟨tg, it, ifs, 0⟩] scope pos) spos) ρ M P := fun S H σ st D ft =>
  PS.go (ps_setLc (g := fun v σ H Q => ∀ s H0 C cl fp, semG (blk X scope s H0 C cl fp) tg v σ H Q) (tt := fun σ H Q => ∀ s H0 C cl fp, semTs (blk X scope s H0 C cl fp) ifs σ H Q) (te := fun σ H Q => ∀ s H0 C cl fp, semE (blk X scope s H0 C cl fp) elt σ H Q) hc hN hy hyl hsw piS ok (fun s H0 C cl fp => ⟨fun pins s2 σ2 H2 v u Q2 I r h => (h s H0 C cl fp).run pins s2 u I r⟩) (fun s H0 C cl fp => ⟨fun pins s2 σ2 H2 Q2 I h => (h s H0 C cl fp).run pins s2 I⟩) (fun s H0 C cl fp => ⟨fun pins s2 σ2 H2 Q2 I h => (h s H0 C cl fp).run pins s2 I⟩) hs) (lcT Ms o hi ok hN hneed hlen step st fun p S1 H1 e1 np s1 => by
    rw [hy'] at s1
    obtain ⟨S2, e2, s2, r2⟩ := frz_list np s1
    exact ft.nx S2 H1 _ _ _ ⟨s2.hst, s2.sl.set (s := .d (.list ys)) (v := some (.ref p)) r2 i⟩ k)
end
end NL
set_option Elab.async false
set_option linter.all false
set_option maxRecDepth 100000
set_option maxHeartbeats 4000000
namespace NL
open PySem PySem.Spec L2
open PyProof.Rows hiding St
section
variable (X : Cx) (G : Gh)
def J2 (f : Value → Value → Sem Value) (M : MM) (x y z : SV) (M' : MM) : Prop := ∃ r, OpR X f r ∧ j2 X G r M x y z M'
def J2L (f : Value → Value → Sem Value) (M : MM) (x y : SV) (ds : List SV) (M' : MM) : Prop := ∃ r, OpR X f r ∧ j2L X G r M x y ds M'
def J1 (f : Value → Sem Value) (M : MM) (x z : SV) (M' : MM) : Prop := ∃ r, UnR X f r ∧ j1 X G r M x z M'
def JC (f : Value) (M : MM) (xs : List SV) (z : SV) (M' : MM) : Prop := ∃ r, CallR X f r ∧ jC X G r M xs z M'
def JCL (f : Value) (M : MM) (xs ds : List SV) (M' : MM) : Prop := ∃ r, CallR X f r ∧ jCL X G r M xs ds M'
def JX (M : MM) (x y z : SV) (M' : MM) : Prop := ∃ r, IxR X r ∧ j2 X G r M x y z M'
end
section
variable {X : Cx} {G : Gh} {ρ : List SV} {M M1 M2 M3 : MM} {x y z : SV} {ds zs : List SV} {a b e : Expr} {es : List Expr} {pos p : Pos} {k : Bool} {n : Str}
theorem bin {op : Operator} (ha : jE X G a ρ M x M1) (hb : jE X G b ρ M1 y M2) (h : J2 X G (binaryOp op) M2 x y z M3) : jE X G (.BinOp a op b pos) ρ M z M3 := let ⟨_, o, h⟩ := h; e_bin o ha hb h
theorem binL {op : Operator} (ha : jE X G a ρ M x M1) (hb : jE X G b ρ M1 y M2) (h : J2L X G (binaryOp op) M2 x y ds M3) : jL X G (.BinOp a op b pos) ρ M ds M3 := let ⟨_, o, h⟩ := h; e_binL o ha hb h
theorem cmp {op : CmpOp} (ha : jE X G a ρ M x M1) (hb : jE X G b ρ M1 y M2) (h : J2 X G (compareOp op) M2 x y z M3) (hm : behindInMarks op b = false := by first | exact nomark _ | rfl) : jE X G (.Compare a [op] [b] pos) ρ M z M3 := let ⟨_, o, h⟩ := h; e_cmp o ha hb h hm
theorem tcmp {op : CmpOp} (ha : jE X G a ρ M x M1) (hb : jE X G b ρ M1 y M2) (h : J2 X G (compareOp op) M2 x y (.d (.bool k)) M3) (hm : behindInMarks op b = false := by first | exact nomark _ | rfl) : jT X G (.Compare a [op] [b] pos) ρ M k M3 := let ⟨_, o, h⟩ := h; t_cmp o ha hb h hm
theorem un {op : UnaryOp} (ha : jE X G a ρ M x M1) (h : J1 X G (unaryOp op) M1 x z M2) : jE X G (.UnaryOp op a pos) ρ M z M2 := let ⟨_, o, h⟩ := h; e_un o ha h
theorem ix (ha : jE X G a ρ M x M1) (hb : jE X G b ρ M1 y M2) (h : JX X G M2 x y z M3) (hs : PlainIx b := by exact fun _ _ => rfl) : jE X G (.Subscript a b pos) ρ M z M3 := let ⟨_, o, h⟩ := h; e_ix o ha hb h hs
theorem callB {id : String} (ha : jA X G (e :: es) ρ M ds M1) (h : JC X G (.builtin id) M1 ds z M2) (hm : X.mg n = none) (hv : bootBuiltins n = some (.builtin id) := by decide +kernel) (hg : Gl X n := by rfl)
    (hn : n ≠ "__name__" := by decide) (hdb : (n == ("__debug__" : Str)) = false := by decide) (he : starEach (e :: es) X.env = (false, eval e X.env) :: starEach es X.env := by rfl) (hpl : (backTo pos (starEach es X.env)).any (·.1) = false := by rfl) :
    jE X G (.Call (.Name n p) (e :: es) [] pos) ρ M z M2 := let ⟨_, o, h⟩ := h; e_callB o ha h hg hm hv hn hdb he hpl
theorem callBL {id : String} (ha : jA X G (e :: es) ρ M ds M1) (h : JCL X G (.builtin id) M1 ds zs M2) (hm : X.mg n = none) (hv : bootBuiltins n = some (.builtin id) := by decide +kernel) (hg : Gl X n := by rfl)
    (hn : n ≠ "__name__" := by decide) (hdb : (n == ("__debug__" : Str)) = false := by decide) (he : starEach (e :: es) X.env = (false, eval e X.env) :: starEach es X.env := by rfl) (hpl : (backTo pos (starEach es X.env)).any (·.1) = false := by rfl) :
    jL X G (.Call (.Name n p) (e :: es) [] pos) ρ M zs M2 := let ⟨_, o, h⟩ := h; e_callBL o ha h hg hm hv hn hdb he hpl
theorem callT {T : String} (ha : jA X G (e :: es) ρ M ds M1) (h : JC X G (.type T) M1 ds z M2) (hm : X.mg n = none) (hv : bootBuiltins n = some (.type T) := by decide +kernel) (hg : Gl X n := by rfl)
    (hn : n ≠ "__name__" := by decide) (hdb : (n == ("__debug__" : Str)) = false := by decide) (he : starEach (e :: es) X.env = (false, eval e X.env) :: starEach es X.env := by rfl) (hpl : (backTo pos (starEach es X.env)).any (·.1) = false := by rfl) :
    jE X G (.Call (.Name n p) (e :: es) [] pos) ρ M z M2 := let ⟨_, o, h⟩ := h; e_callT o ha h hg hm hv hn hdb he hpl
end
section
variable {X : Cx} {G : Gh} {M : MM} {i j : Int}
theorem j_I0 {g : Int → Int → V} {d : D} (h : ∀ K S, Rp K S d (g i j)) : j2 X G (rI0 g) M (.d (.int i)) (.d (.int j)) (.d d) M := fun S H σ ρ u v st ru rv Q q => by
  obtain rfl : u = .int i := ru
  obtain rfl : v = .int j := rv
  exact ⟨i, j, rfl, rfl, q _ S H (Sub.rfl' S) st (h _ _)⟩
theorem j_I {C : Int → Int → Prop} {g : Int → Int → V} {d : D} (hc : C i j) (h : ∀ K S, Rp K S d (g i j)) : j2 X G (rI C g) M (.d (.int i)) (.d (.int j)) (.d d) M := fun S H σ ρ u v st ru rv Q q => by
  obtain rfl : u = .int i := ru
  obtain rfl : v = .int j := rv
  exact ⟨i, j, rfl, rfl, hc, q _ S H (Sub.rfl' S) st (h _ _)⟩
theorem add_i : J2 X G (binaryOp .Add) M (.d (.int i)) (.d (.int j)) (.d (.int (i + j))) M := ⟨_, op_add, j_I0 fun _ _ => rfl⟩
theorem sub_i : J2 X G (binaryOp .Sub) M (.d (.int i)) (.d (.int j)) (.d (.int (i - j))) M := ⟨_, op_sub, j_I0 fun _ _ => rfl⟩
theorem mul_i (h : CMul i j) : J2 X G (binaryOp .Mult) M (.d (.int i)) (.d (.int j)) (.d (.int (i * j))) M := ⟨_, op_mul, j_I h fun _ _ => rfl⟩
theorem div_i (h : CDiv i j) : J2 X G (binaryOp .FloorDiv) M (.d (.int i)) (.d (.int j)) (.d (.int (i / j))) M := ⟨_, op_fdiv, j_I h fun _ _ => rfl⟩
theorem mod_i (h : 0 < j) : J2 X G (binaryOp .Mod) M (.d (.int i)) (.d (.int j)) (.d (.int (i % j))) M := ⟨_, op_mod, j_I h fun _ _ => rfl⟩
theorem pow_i (h : CPow i j) : J2 X G (binaryOp .Pow) M (.d (.int i)) (.d (.int j)) (.d (.int (i ^ j.toNat))) M := ⟨_, op_pow, j_I h fun _ _ => rfl⟩
theorem neg_i : J1 X G (unaryOp .USub) M (.d (.int i)) (.d (.int (-i))) M := ⟨_, un_neg, fun S H σ ρ u st ru Q q => by
  obtain rfl : u = .int i := ru
  exact ⟨i, rfl, q _ S H (Sub.rfl' S) st rfl⟩⟩
theorem lt_i : J2 X G (compareOp .Lt) M (.d (.int i)) (.d (.int j)) (.d (.bool (decide (i < j)))) M := ⟨_, op_lt, j_I0 fun _ _ => rfl⟩
theorem le_i : J2 X G (compareOp .LtE) M (.d (.int i)) (.d (.int j)) (.d (.bool (decide (i ≤ j)))) M := ⟨_, op_le, j_I0 fun _ _ => rfl⟩
theorem gt_i : J2 X G (compareOp .Gt) M (.d (.int i)) (.d (.int j)) (.d (.bool (decide (j < i)))) M := ⟨_, op_gt, j_I0 fun _ _ => rfl⟩
theorem ge_i : J2 X G (compareOp .GtE) M (.d (.int i)) (.d (.int j)) (.d (.bool (decide (j ≤ i)))) M := ⟨_, op_ge, j_I0 fun _ _ => rfl⟩
theorem eq_i : J2 X G (compareOp .Eq) M (.d (.int i)) (.d (.int j)) (.d (.bool (decide (i = j)))) M := ⟨_, op_eq, fun S H σ ρ u v st ru rv Q q => by
  obtain rfl : u = .int i := ru
  obtain rfl : v = .int j := rv
  refine ⟨rfl, ?_⟩
  have : decide (V.int i = V.int j) = decide (i = j) := by
    by_cases h : i = j
    · subst h; simp
    · rw [decide_eq_false h, decide_eq_false fun z => h (V.int.inj z)]
  rw [this]
  exact q _ S H (Sub.rfl' S) st rfl⟩
theorem ne_i : J2 X G (compareOp .NotEq) M (.d (.int i)) (.d (.int j)) (.d (.bool (!decide (i = j)))) M := ⟨_, op_ne, fun S H σ ρ u v st ru rv Q q => by
  obtain rfl : u = .int i := ru
  obtain rfl : v = .int j := rv
  refine ⟨rfl, ?_⟩
  have : decide (V.int i = V.int j) = decide (i = j) := by
    by_cases h : i = j
    · subst h; simp
    · rw [decide_eq_false h, decide_eq_false fun z => h (V.int.inj z)]
  rw [this]
  exact q _ S H (Sub.rfl' S) st rfl⟩
/-- data whose == is known: no dict, not too deep -/
def fine (d : D) : Bool := nodct d && SeqAt.shaped d
theorem eq_d {c d : D} (hu : X.A.units + 64 < cLine) (hc : fine c = true) (hd : fine d = true) : J2 X G (compareOp .Eq) M (.d c) (.d d) (.d (.bool (PyData.eqv c d))) M := ⟨_, op_eqD hu, fun S H σ ρ u v st ru rv Q q => by
  simp only [fine, Bool.and_eq_true] at hc hd
  exact ⟨c, d, Rp.dp hc.1 (Rp.mono st.hst.sub _ _ ru), Rp.dp hd.1 (Rp.mono st.hst.sub _ _ rv), hc.2, hd.2, q _ S H (Sub.rfl' S) st rfl⟩⟩
/-- a list of one's own, read as data -/
theorem own_rp {K : PySem.W.Frag} {S H : Hp} {σ : L2.St} {ρ : List SV} {M : MM} {a : Addr} {xs : List D} (st : Sta K G S H σ ρ M) (h : M a = some (.lst (xs.map SV.d))) : Rp K H (.list xs) (.ref a) := by
  obtain ⟨_, o, ho, vs, rfl, r⟩ := st.hst.own a _ h
  exact ⟨a, vs, rfl, ho, RpA.mono st.hst.sub _ _ r.ds⟩
theorem ne_o {a : Addr} {c : List D} {d : D} (h : M a = some (.lst (c.map SV.d))) (hu : X.A.units + 64 < cLine) (hc : fine (.list c) = true) (hd : fine d = true) : J2 X G (compareOp .NotEq) M (.o a) (.d d) (.d (.bool (!PyData.eqv (.list c) d))) M := ⟨_, op_neD hu, fun S H σ ρ u v st ru rv Q q => by
  simp only [fine, Bool.and_eq_true] at hc hd
  obtain rfl : u = .ref a := ru
  exact ⟨_, d, Rp.dp hc.1 (own_rp st h), Rp.dp hd.1 (Rp.mono st.hst.sub _ _ rv), hc.2, hd.2, q _ S H (Sub.rfl' S) st rfl⟩⟩
theorem in_d {d : D} {ds : List D} (hu : X.A.units + 65 < cLine) (hd : fine d = true) (hs : fine (.list ds) = true) : J2 X G (compareOp .In) M (.d d) (.d (.list ds)) (.d (.bool (ds.any fun z => PyData.eqv z d))) M := ⟨_, op_inD hu, fun S H σ ρ u v st ru rv Q q => by
  simp only [fine, Bool.and_eq_true] at hs hd
  exact ⟨d, ds, Rp.dp hd.1 (Rp.mono st.hst.sub _ _ ru), Rp.dp hs.1 (Rp.mono st.hst.sub _ _ rv), hd.2, hs.2, q _ S H (Sub.rfl' S) st rfl⟩⟩
theorem nin_o {a : Addr} {d : D} {ds : List D} (h : M a = some (.lst (ds.map SV.d))) (hu : X.A.units + 65 < cLine) (hd : fine d = true) (hs : fine (.list ds) = true) : J2 X G (compareOp .NotIn) M (.d d) (.o a) (.d (.bool (!ds.any fun z => PyData.eqv z d))) M := ⟨_, op_notInD hu, fun S H σ ρ u v st ru rv Q q => by
  simp only [fine, Bool.and_eq_true] at hs hd
  obtain rfl : v = .ref a := rv
  exact ⟨d, ds, Rp.dp hd.1 (Rp.mono st.hst.sub _ _ ru), Rp.dp hs.1 (own_rp st h), hd.2, hs.2, q _ S H (Sub.rfl' S) st rfl⟩⟩
theorem is_non {d : D} : J2 X G (compareOp .Is) M (.d d) (.d .none) (.d (.bool (match d with | .none => true | _ => false))) M := ⟨_, op_isN, fun S H σ ρ u v st ru rv Q q => by
  obtain rfl : v = .non := rv
  refine ⟨rfl, q _ S H (Sub.rfl' S) st ?_⟩
  cases d with
  | none => obtain rfl : u = .non := ru; rfl
  | bool b => obtain rfl : u = .bl b := ru; rfl
  | int b => obtain rfl : u = .int b := ru; rfl
  | str b => obtain rfl : u = .str b := ru; rfl
  | list b => obtain ⟨a, xs, rfl, _⟩ := ru; rfl
  | tuple b => obtain ⟨a, xs, rfl, _⟩ := ru; rfl
  | dict b => cases b with
    | nil => obtain ⟨a, rfl, _⟩ := ru; rfl
    | cons => exact ru.elim⟩
theorem cat_t {xs ys : List D} (hz : xs.length + ys.length ≤ 1000000) : J2 X G (binaryOp .Add) M (.d (.tuple xs)) (.d (.tuple ys)) (.d (.tuple (xs ++ ys))) M := ⟨_, op_catA, fun S H σ ρ u v st ru rv Q q => by
  obtain ⟨a, vs, rfl, h1, r1⟩ := ru
  obtain ⟨b, ws, rfl, h2, r2⟩ := rv
  refine ⟨a, b, vs, ws, rfl, rfl, SqT.of (st.hst.sub _ _ h1), SqT.of (st.hst.sub _ _ h2), by rw [r1.len, r2.len]; exact sz_le hz, fun e => ?_, fun _ e => ?_, fun _ _ p np => ?_⟩
  · refine q _ S H (Sub.rfl' S) st ⟨b, ws, rfl, h2, ?_⟩
    have := r1.app r2
    rw [e] at this
    exact this
  · refine q _ S H (Sub.rfl' S) st ⟨a, vs, rfl, h1, ?_⟩
    have := r1.app r2
    rw [e, List.append_nil] at this
    exact this
  · obtain ⟨nS, _⟩ := st.hst.free np
    have e2 : Sub S (upd S p (.tup (vs ++ ws))) := Evl.Ex.new nS
    exact q _ _ _ e2 ⟨st.hst.newS np, st.sl.mono e2⟩ ⟨p, _, rfl, upd_same, RpA.mono e2 _ _ (r1.app r2)⟩⟩
/-- a list that can be read: no one's or one's own -/
def LsV (M : MM) : SV → List SV → Prop
  | .d (.list ds), xs => xs = ds.map SV.d
  | .o a, xs => M a = some (.lst xs)
  | _, _ => False
theorem lsv_at {K : PySem.W.Frag} {S H : Hp} {σ : L2.St} {ρ : List SV} {M : MM} {s : SV} {xs : List SV} {u : V} (st : Sta K G S H σ ρ M) (h : LsV M s xs) (r : Rel K S s u) : ∃ a vs, u = .ref a ∧ H a = some (.lst vs) ∧ RelA K S xs vs := by
  cases s with
  | d x =>
    cases x with
    | list ds =>
      have e : xs = ds.map SV.d := h
      subst e
      obtain ⟨a, vs, rfl, h1, r1⟩ := r
      exact ⟨a, vs, rfl, st.hst.sub a _ h1, RpA.ra r1⟩
    | _ => exact (show False from h).elim
  | o a =>
    obtain rfl : u = .ref a := r
    obtain ⟨_, o, ho, vs, rfl, r1⟩ := st.hst.own a _ h
    exact ⟨a, vs, rfl, ho, r1⟩
  | _ => exact (show False from h).elim
theorem ls_d {ds : List D} : LsV M (.d (.list ds)) (ds.map SV.d) := rfl
theorem ls_o {a : Addr} {xs : List SV} (h : M a = some (.lst xs)) : LsV M (.o a) xs := h
theorem cat_l {s t : SV} {xs ys : List SV} (h1 : LsV M s xs) (h2 : LsV M t ys) (hz : xs.length + ys.length ≤ 1000000) : J2L X G (binaryOp .Add) M s t (xs ++ ys) M := ⟨_, op_cat, fun S H σ ρ u v st ru rv Q q => by
  obtain ⟨a, vs, rfl, e1, r1⟩ := lsv_at st h1 ru
  obtain ⟨b, ws, rfl, e2, r2⟩ := lsv_at st h2 rv
  exact ⟨a, b, vs, ws, rfl, rfl, e1, e2, by rw [r1.len, r2.len]; exact sz_le hz, fun p np => q p S _ (Sub.rfl' S) (st.hst.free np).2 ⟨st.hst.newM np ⟨_, rfl, r1.app r2⟩, st.sl⟩⟩⟩
theorem RelA.at : ∀ {K : PySem.W.Frag} {S : Hp} {xs : List SV} {vs : List V} {i : Nat} {d : SV}, RelA K S xs vs → xs[i]? = some d → ∃ v, vs[i]? = some v ∧ Rel K S d v
  | _, _, [], _, _, _, _, e => by simp at e
  | _, _, _ :: _, _, 0, _, ⟨v, r, h1, h2, _⟩, e => by simp at e; subst e; subst h1; exact ⟨v, rfl, h2⟩
  | _, _, _ :: _, _, i + 1, d, ⟨v, r, h1, _, h3⟩, e => by
    subst h1
    obtain ⟨w, a, b⟩ := RelA.at (i := i) h3 (by simpa using e)
    exact ⟨w, by simpa using a, b⟩
theorem ix_t {xs : List D} {i : Int} {d : D} (h : atI xs i = some d) : JX X G M (.d (.tuple xs)) (.d (.int i)) (.d d) M := ⟨_, ix_tup, fun S H σ ρ u v st ru rv Q q => by
  obtain ⟨a, vs, rfl, h1, r1⟩ := ru
  obtain rfl : v = .int i := rv
  unfold atI at h
  obtain ⟨j, hj, hd⟩ := Option.bind_eq_some_iff.mp h
  obtain ⟨w, hw, rw'⟩ := r1.at hd
  exact ⟨a, vs, i, w, rfl, rfl, SqT.of (st.hst.sub _ _ h1), by unfold atI; rw [r1.len, hj]; exact hw, q _ S H (Sub.rfl' S) st rw'⟩⟩
theorem ix_l {s : SV} {xs : List SV} {i : Int} {d : SV} (h1 : LsV M s xs) (h : atI xs i = some d) : JX X G M s (.d (.int i)) d M := ⟨_, ix_list, fun S H σ ρ u v st ru rv Q q => by
  obtain ⟨a, vs, rfl, e1, r1⟩ := lsv_at st h1 ru
  obtain rfl : v = .int i := rv
  unfold atI at h
  obtain ⟨j, hj, hd⟩ := Option.bind_eq_some_iff.mp h
  obtain ⟨w, hw, rw'⟩ := r1.at hd
  exact ⟨a, vs, i, w, rfl, rfl, SqL.of e1, by unfold atI; rw [r1.len, hj]; exact hw, q _ S H (Sub.rfl' S) st rw'⟩⟩
def jO (X : Cx) (G : Gh) (e : Option Expr) (ρ : List SV) (M : MM) (o : Option Int) : Prop := ∃ t, PO X e t ∧ ∀ S H σ, Sta X.K G S H σ ρ M → ∀ Q : Option Int → Hp → Prop, (∀ S' H', Sub S S' → Sta X.K G S' H' σ ρ M → Q o H') → t σ H Q
theorem o_none {ρ : List SV} : jO X G none ρ M none := ⟨_, po_none, fun S H σ st Q q => q S H (Sub.rfl' S) st⟩
theorem o_some {ρ : List SV} {e : Expr} (h : jE X G e ρ M (.d (.int i)) M) : jO X G (some e) ρ M (some i) := ⟨_, po_some peS, fun S H σ st Q q => h S H σ st _ fun v S1 H1 e1 st1 r1 => ⟨i, r1, q S1 H1 e1 st1⟩⟩
def cutS (xs : List SV) (lo hi : Option Int) : List SV := (xs.drop (HT.sIx xs.length 0 lo)).take (HT.sIx xs.length xs.length hi - HT.sIx xs.length 0 lo)
theorem RelA.take : ∀ {K : PySem.W.Frag} {S : Hp} {ds : List SV} {vs : List V} (n : Nat), RelA K S ds vs → RelA K S (ds.take n) (vs.take n)
  | _, _, [], _, n, h => by subst h; cases n <;> exact rfl
  | _, _, _ :: _, _, 0, ⟨v, r, h1, _, _⟩ => by subst h1; exact rfl
  | _, _, _ :: _, _, n + 1, ⟨v, r, h1, h2, h3⟩ => by subst h1; exact ⟨v, _, rfl, h2, RelA.take n h3⟩
theorem RelA.drop : ∀ {K : PySem.W.Frag} {S : Hp} {ds : List SV} {vs : List V} (n : Nat), RelA K S ds vs → RelA K S (ds.drop n) (vs.drop n)
  | _, _, [], _, n, h => by subst h; cases n <;> exact rfl
  | _, _, _ :: _, _, 0, h => h
  | _, _, _ :: _, _, n + 1, ⟨v, r, h1, _, h3⟩ => by subst h1; exact RelA.drop n h3
theorem l_slice {ρ : List SV} {M1 : MM} {e : Expr} {lo hi : Option Expr} {p2 pos : Pos} {s : SV} {xs : List SV} {l h : Option Int} (he : jE X G e ρ M s M1) (hl : jO X G lo ρ M1 l) (hh : jO X G hi ρ M1 h) (h1 : LsV M1 s xs) :
    jL X G (.Subscript e (.Slice lo hi none p2) pos) ρ M (cutS xs l h) M1 := by
  obtain ⟨t1, p1, k1⟩ := hl
  obtain ⟨t2, p2, k2⟩ := hh
  refine fun S H σ st Q q => PE.go (pe_slice sl_list peS p1 p2) (he S H σ st _ fun u S1 H1 e1 st1 r1 => k1 S1 H1 σ st1 _ fun S2 H2 e2 st2 => k2 S2 H2 σ st2 _ fun S3 H3 e3 st3 => ?_)
  obtain ⟨a, vs, rfl, h4, r4⟩ := lsv_at st3 h1 (r1.mono (e2.tr e3))
  refine ⟨a, vs, rfl, SqL.of h4, fun p np => q p S3 _ ((e1.tr e2).tr e3) (st3.hst.free np).2 ⟨st3.hst.newM np ⟨_, rfl, ?_⟩, st3.sl⟩⟩
  unfold cutV cutS
  rw [r4.len]
  exact (r4.drop _).take _
end
end NL
set_option Elab.async false
set_option linter.all false
set_option maxRecDepth 100000
set_option maxHeartbeats 4000000
namespace NL
open PySem PySem.Spec L2
open PyProof.Rows hiding St
def ItE (K : PySem.W.Frag) (t : Addr) : It :=
  ⟨fun i H => ∃ (ys : List V) (y : V), SqT K H t ys ∧ ys[i]? = some y,
   fun i H v H' => ∃ T y, v = .ref T ∧ H T = none ∧ H' = upd H T (.tup [.int (i : Nat), y]) ∧ ∀ ys, SqT K H t ys → ys[i]? = some y,
   fun i H => ∃ ys : List V, SqT K H t ys ∧ ys.length ≤ i⟩
theorem turn_enumT {P : Program} {w : World} {K : PySem.W.Frag} {elts : List Expr} {kk : Nat} {tpos : Pos} (t en iu : Addr) (hne : t ≠ iu) (hte : t ≠ en) :
    Turn P w K (.Tuple elts kk tpos) (ItE K t) [en, iu] en (fun i h => (∃ old, IsEnum h en iu ((i : Nat) : Int) old) ∧ h.IsTupleIter iu t i ∧ en ≠ iu) where
  mem := List.mem_cons_self ..
  obj := fun i h q b hb => by
    obtain ⟨⟨old, h1⟩, ⟨o, h2, _, h3⟩, _⟩ := q
    rcases List.mem_cons.mp hb with rfl | hb
    · exact ⟨_, h1, fun v z => nomatch z⟩
    · obtain rfl := List.mem_singleton.mp hb
      exact ⟨o, h2, fun v z => by rw [h3] at z; cases z⟩
  keep := fun i h h' q k => by
    obtain ⟨⟨old, h1⟩, h2, h3⟩ := q
    exact ⟨⟨old, k en (List.mem_cons_self ..) _ h1⟩, h2.at fun o z => k iu (List.mem_cons_of_mem _ (List.mem_singleton.mpr rfl)) o z, h3⟩
  item := by
    intro X hP hw hK hc i pins s σ H E I hf q hg
    subst hP hw hK
    obtain ⟨⟨old, h1⟩, h2, h3⟩ := q
    obtain ⟨ys, y, hq, hy⟩ := hg
    obtain ⟨its, rv, ht, _⟩ := I.tuple hq
    obtain ⟨u, hu, ru⟩ := rv.get hy
    have l1 : en < s.heap.objs.size := Heap.lt_size h1
    have l2 : iu < s.heap.objs.size := by obtain ⟨_, z, _⟩ := h2; exact Heap.lt_size z
    have ht' : s.heap.IsTuple t its.toArray := ht
    have hi : i < its.toArray.size := by
      have := (List.getElem?_eq_some_iff.mp hu).1
      simpa using this
    have hh := I.ok.hd hc
    refine wpAny_pyNext_enum_itemD (Draws.tuple (A := X.A.in1) hh iu t hne its.toArray) h1 (St := fun i h => h.IsTupleIter iu t i ∧ h.IsTuple t its.toArray) ⟨h2, ht'⟩ hi h3 (fun z => by
      rcases List.mem_cons.mp z with z | z
      · exact h3 z
      · exact hte (List.mem_singleton.mp z).symm) fun x h' tk hx ho hst hT hsz hk => ?_
    have ex : x = u := by
      have hx' : its.toArray[i]? = some x := hx
      have : its[i]? = some x := by simpa using hx'
      rw [hu] at this
      exact (Option.some.inj this).symm
    subst ex
    refine ⟨_, rfl, wpAny_letOwnedTupleGo_enum (s := { s with heap := h', toks := tk + 1 }) ho fun h'' he' sb => ?_⟩
    have hT2 : h''.get? s.heap.objs.size = some { cls := .type "tuple", data := .seq #[.int i tk, x] } := (sb.2 _ (Nat.ne_of_gt l1)).trans hT
    have new : ObjOk X.prog X.w (upd H s.heap.objs.size (.tup [.int (i : Nat), y])) h'' s.heap.objs.size (.tup [.int (i : Nat), y]) :=
      ⟨by show 2 ≤ sizeLine; decide, [.int i tk, x], .cons ⟨_, rfl⟩ (.cons ru .nil), ⟨_, hT2, rfl, _, rfl⟩⟩
    have I1 := I.turnedNew (t' := tk + 1) (ch := [en, iu]) (fun b ob hb z => (sb.2 b fun e => hb (by rw [e]; exact List.mem_cons_self ..)).trans (hk b ob (fun e => hb (by rw [e]; exact List.mem_cons_self ..)) (fun e => hb (by rw [e]; exact List.mem_cons_of_mem _ (List.mem_singleton.mpr rfl))) z)) hf (Nat.le_refl _) new
    refine ⟨.ref s.heap.objs.size, _, I1, rfl, ⟨_, y, rfl, I.hok.fresh (Nat.le_refl _), rfl, fun l hl => by rw [I.tuple_inj hl hq]; exact hy⟩, ⟨⟨x, ?_⟩, hst.1.at fun o z => (sb.2 iu (Ne.symm h3)).trans z, h3⟩, fun b hb => ?_⟩
    · have e1 : ((i + 1 : Nat) : Int) = (i : Int) + 1 := by omega
      rw [e1]; exact he'
    · have hlt : b < s.heap.objs.size := by
        rcases List.mem_cons.mp hb with rfl | hb'
        · exact l1
        · rw [List.mem_singleton.mp hb']; exact l2
      rw [upd_ne (Nat.ne_of_lt hlt)]
      exact (hf b hb).1
  done := by
    intro X hP hw hK hc i pins s σ H E I hf q hg
    subst hP hw hK
    obtain ⟨⟨old, h1⟩, h2, h3⟩ := q
    obtain ⟨ys, hq, hy⟩ := hg
    obtain ⟨its, rv, ht, _⟩ := I.tuple hq
    have hh := I.ok.hd hc
    obtain ⟨f0, f1, f2, f3, f4, f5⟩ := hf iu (List.mem_cons_of_mem _ (List.mem_singleton.mpr rfl))
    have ht' : s.heap.IsTuple t its.toArray := ht
    have hl := rv.length
    have l2 : iu < s.heap.objs.size := by obtain ⟨_, z, _⟩ := h2; exact Heap.lt_size z
    -- the iterator's end by its own rule
    unfold pyNext
    refine wpAny_bind (wpAny_attempt (wpAny_callSpecial?_slot (name := Str.ofString "__next__") ⟨_, h1, rfl⟩ PySem.F.slot_enumerate_next (wpAny_call_entry PySem.F.slot_enumerate_next ⟨_, h1, rfl⟩ PySem.F.entry_enumerate_next ?_ (PySem.F.args_enumerate_next_1 _))))
    show wpAny _ _ (field (.ref en) 2 >>= _) _ _ _
    refine wpAny_bind (wpAny_field h1 rfl (x := .ref iu) rfl ?_)
    refine wpAny_bind (wpAny_nextOf_tuple_end hh h2 ht' (Array.getElem?_eq_none (by simp; omega)) fun h' x eb hx' => ?_)
    obtain ⟨o, ho, hcl⟩ := hx'
    refine wpAny_bind (wpAny_isInstance (T := "StopIteration") (b := true) ⟨o, ho, hcl⟩ isSubtype_stop ?_)
    exact wpAny_pure ⟨rfl, I.turned (t' := s.toks) (fun b o hb z => eb b o hb z) f0 f1 f3 f4 f5⟩
  self := fun A i s Q E q h => wpAny_pyIter_enum q.1.choose_spec h
set_option maxHeartbeats 8000000 in
theorem new_enum1 {v : Value} {o : Obj} {Hh : Heap → Prop} (B : Begins v o Hh) :
    Meets (Builtin.«enumerate.__new__» ⟨[.type "enumerate", v], []⟩) (fun _ R s => Hh s.heap ∧ R (.ok (.ret (.ref (s.heap.push o).objs.size))) { s with heap := (s.heap.push o).push { cls := .type "enumerate", data := .fields #[.none, .bool false, .ref s.heap.objs.size, rawInt 0, .none, .none] } }) :=
  .of_wp fun prog w A R s h => by
    obtain ⟨hp, g, d, tk, os⟩ := s
    obtain ⟨h1, h⟩ := h
    have hsub := sub_enumerate
    have go : ∀ {A' : Around} {E : Value → Shared → Prop} {Q : Value → Shared → Prop}, Q (.ref hp.objs.size) ⟨hp.push o, g, d, tk, os⟩ → wpAny (model prog w) A' (pyIter v) Q E ⟨hp, g, d, tk, os⟩ := fun q => B.iter prog w _ _ ⟨hp, g, d, tk, os⟩ _ h1 q
    wp_walk using go
    refine wpAny_stack_any fun st => wpAny_pure ?_
    split
    · rename_i c _ _ _ _ _
      cases (c == Value.type "enumerate") <;> (wp_walk using go; exact ⟨_, rfl, h⟩)
    · wp_walk using go
      exact ⟨_, rfl, h⟩
theorem call_enum1 {prog : Program} {w : World} {A : Around} {E : Value → Shared → Prop} {s : Shared} {v : Value} {o : Obj} {Hh : Heap → Prop} {Q : Value → Shared → Prop} (B : Begins v o Hh) (h1 : Hh s.heap)
    (h : ∀ h', IsEnum h' (s.heap.objs.size + 1) s.heap.objs.size 0 .none → h'.get? s.heap.objs.size = some o → h'.objs.size = s.heap.objs.size + 2 → (∀ b u, s.heap.get? b = some u → h'.get? b = some u) → Q (.ref (s.heap.objs.size + 1)) { s with heap := h' }) :
    wpAny (model prog w) A (call (.type "enumerate") [v]) Q E s := by
  refine callType_new PySem.F.called_enumerate (by decide) (PySem.F.typeCall_enumerate_1 _) (PySem.F.newCall_enumerate_1 _) (fun obj => PySem.F.args_object_init_2 obj _) PySem.F.entry_enumerate_new (new_enum1 B) ⟨h1, ?_⟩
  have hz : (s.heap.push o).objs.size = s.heap.objs.size + 1 := Heap.size_push ..
  show _ ∧ _
  rw [hz]
  have he : IsEnum ((s.heap.push o).push { cls := .type "enumerate", data := .fields #[.none, .bool false, .ref s.heap.objs.size, rawInt 0, .none, .none] }) (s.heap.objs.size + 1) s.heap.objs.size 0 .none := by
    have := Heap.get?_push_size (s.heap.push o) (o := { cls := .type "enumerate", data := .fields #[.none, .bool false, .ref s.heap.objs.size, rawInt 0, .none, .none] }) rfl
    rw [hz] at this
    exact this
  exact ⟨⟨_, he, rfl⟩, h _ he (Heap.get?_push_of_some _ (Heap.get?_push_size _ B.free)) (by rw [Heap.size_push, hz]) fun b u x => Heap.get?_push_of_some _ (Heap.get?_push_of_some _ x)⟩
def iEnT (K : PySem.W.Frag) (ta : TA) : TI := fun σ H R => ta σ H fun vs H1 => ∃ a ys, vs = [.ref a] ∧ SqT K H1 a ys ∧ R (ItE K a) H1
theorem pi_enT {X : Cx} {e : Expr} {ta : TA} {p pos tpos : Pos} {elts : List Expr} {kk : Nat} (hg : Gl X "enumerate") (hm : X.mg "enumerate" = none) (ha : PA X [e] ta) (hs : starEach [e] X.env = [(false, eval e X.env)] := by rfl) :
    PI X (.Tuple elts kk tpos) (.Call (.Name "enumerate" p) [e] [] pos) (iEnT X.K ta) := by
  refine ⟨fun pins s σ H R I h => ?_⟩
  refine Call_ (ld_blt I hg hm boot_enumerate (PyProof.Rows.callWith_type1 (thn (ha.run pos pins s σ H _ I h) fun us s1 ⟨vs, H1, I1, r1, q1⟩ => ?_) hs rfl))
  obtain ⟨a, ys, ex, hq, q⟩ := q1
  subst ex
  cases r1 with
  | cons r rr =>
    cases rr
    cases r
    obtain ⟨its, rv, ht, _⟩ := I1.tuple hq
    have ht' : s1.heap.IsTuple a its.toArray := ht
    have la : a < s1.heap.objs.size := by obtain ⟨_, z, _⟩ := ht'; exact Heap.lt_size z
    refine call_enum1 (begins_tuple a its.toArray) ht' fun h' he hit hsz hk => wpAny_pyIter_enum he ?_
    have I2 : Inv X pins σ H1 { s1 with heap := h' } := I1.kept (t' := s1.toks) hk
    refine ⟨s1.heap.objs.size + 1, [s1.heap.objs.size + 1, s1.heap.objs.size], _, _, H1, rfl, I2, turn_enumT a (s1.heap.objs.size + 1) s1.heap.objs.size (Nat.ne_of_lt la) (Nat.ne_of_lt (Nat.lt_succ_of_lt la)), ⟨⟨.none, he⟩, ⟨_, hit, rfl, rfl⟩, Nat.succ_ne_self _⟩, fun b hb => ?_, q⟩
    have hle : s1.heap.objs.size ≤ b := by
      rcases List.mem_cons.mp hb with z | z
      · rw [z]; exact Nat.le_succ _
      · rw [List.mem_singleton.mp z]; exact Nat.le_refl _
    exact I1.fpOk hle (I1.hok.fresh hle)
end NL
set_option Elab.async false
set_option linter.all false
set_option maxRecDepth 100000
set_option maxHeartbeats 4000000
namespace NL
open PySem PySem.Spec L2
open PyProof.Rows hiding St
def enD (xs : List D) : List SV := (List.range xs.length).map fun i => SV.d (.tuple [.int (i : Nat), xs.getD i .none])
theorem enD_len (xs : List D) : (enD xs).length = xs.length := by simp [enD]
theorem enD_at {xs : List D} {i : Nat} (h : i < xs.length) : (enD xs)[i]? = some (.d (.tuple [.int (i : Nat), xs[i]])) := by
  simp [enD, h, List.getD_eq_getElem?_getD]
/-- a new pair comes at a turn -/
theorem new_pair {K : PySem.W.Frag} {G : Gh} {S1 H1 : Hp} {M1 : MM} {σ1 : L2.St} {ρ1 : List SV} {T : Addr} {x y : V} {c d : D} (st : Sta K G S1 H1 σ1 ρ1 M1) (n : H1 T = none) (rx : Rp K S1 c x) (ry : Rp K S1 d y) :
    Sub H1 (upd H1 T (.tup [x, y])) ∧ ∃ S2, Sub S1 S2 ∧ (∀ a, S2 a ≠ none → S1 a ≠ none ∨ H1 a = none) ∧ Sta K G S2 (upd H1 T (.tup [x, y])) σ1 ρ1 M1 ∧ Rel K S2 (.d (.tuple [c, d])) (.ref T) := by
  have e : Sub S1 (upd S1 T (.tup [x, y])) := Evl.Ex.new (st.hst.free n).1
  refine ⟨Evl.Ex.new n, _, e, fun a q => ?_, ⟨st.hst.newS n, st.sl.mono e⟩, T, _, rfl, upd_same, x, _, rfl, Rp.mono e _ _ rx, y, [], rfl, Rp.mono e _ _ ry, rfl⟩
  by_cases ha : a = T
  · subst ha; exact .inr n
  · rw [upd_ne ha] at q; exact .inl q
section
variable {X : Cx} {G : Gh} {e e2 : Expr} {es : List Expr} {ρ : List SV} {M M1 : MM} {pos p tpos : Pos} {elts : List Expr} {kk : Nat}
theorem i_enumT {xs : List D} (ha : jA X G [e] ρ M [.d (.tuple xs)] M1) (hm : X.mg "enumerate" = none) (hg : Gl X "enumerate" := by rfl) (hs : starEach [e] X.env = [(false, eval e X.env)] := by rfl) :
    jI X G (.Tuple elts kk tpos) (.Call (.Name "enumerate" p) [e] [] pos) ρ M (enD xs) any1 M1 := fun S H σ st R q =>
  PI.go (pi_enT hg hm paS hs) (ha S H σ st _ fun vs S1 H1 e1 st1 r1 => by
    obtain ⟨v, r, rfl, ⟨a, ys, rfl, h1, hr⟩, rfl⟩ := r1
    refine ⟨a, ys, rfl, SqT.of (st1.hst.sub _ _ h1), q _ S1 H1 e1 st1 ⟨fun G i S2 H2 M2 σ2 ρ2 e2 st2 _ hi => ?_, fun G i S2 H2 M2 σ2 ρ2 x H' e2 st2 _ hi y => ?_, fun G i S2 H2 M2 σ2 ρ2 e2 st2 _ hi => ?_⟩⟩
    · rw [enD_len] at hi
      have hv : i < ys.length := by rw [hr.len]; exact hi
      exact ⟨ys, ys[i], SqT.of ((e2.tr st2.hst.sub) _ _ h1), List.getElem?_eq_getElem hv⟩
    · rw [enD_len] at hi
      obtain ⟨T, w, rfl, nT, rfl, f⟩ := y
      obtain ⟨u, hu, ru⟩ := hr.at (List.getElem?_eq_getElem hi)
      have ew := f ys (SqT.of ((e2.tr st2.hst.sub) _ _ h1))
      rw [hu] at ew
      cases ew
      obtain ⟨b1, S3, b2, b3, b4, b5⟩ := new_pair (c := .int (i : Nat)) st2 nT rfl (Rp.mono e2 _ _ ru)
      exact ⟨b1, S3, _, enD_at hi, b2, b3, b4, b5⟩
    · rw [enD_len] at hi
      exact ⟨ys, SqT.of ((e2.tr st2.hst.sub) _ _ h1), by rw [hr.len, hi]; exact Nat.le_refl _⟩)
theorem i_enumL {xs : List D} (ha : jA X G [e] ρ M [.d (.list xs)] M1) (hm : X.mg "enumerate" = none) (hg : Gl X "enumerate" := by rfl) (hs : starEach [e] X.env = [(false, eval e X.env)] := by rfl) :
    jI X G (.Tuple elts kk tpos) (.Call (.Name "enumerate" p) [e] [] pos) ρ M (enD xs) any1 M1 := fun S H σ st R q =>
  PI.go (pi_enum hg hm paS hs) (ha S H σ st _ fun vs S1 H1 e1 st1 r1 => by
    obtain ⟨v, r, rfl, ⟨a, ys, rfl, h1, hr⟩, rfl⟩ := r1
    refine ⟨a, ys, rfl, SqL.of (st1.hst.sub a _ h1), q _ S1 H1 e1 st1 ⟨fun G i S2 H2 M2 σ2 ρ2 e2 st2 _ hi => ?_, fun G i S2 H2 M2 σ2 ρ2 x H' e2 st2 _ hi y => ?_, fun G i S2 H2 M2 σ2 ρ2 e2 st2 _ hi => ?_⟩⟩
    · rw [enD_len] at hi
      have hv : i < ys.length := by rw [hr.len]; exact hi
      exact ⟨ys, ys[i], SqL.of ((e2.tr st2.hst.sub) a _ h1), List.getElem?_eq_getElem hv⟩
    · rw [enD_len] at hi
      obtain ⟨T, w, rfl, nT, rfl, f⟩ := y
      obtain ⟨u, hu, ru⟩ := hr.at (List.getElem?_eq_getElem hi)
      have ew := f ys (SqL.of ((e2.tr st2.hst.sub) a _ h1))
      rw [hu] at ew
      cases ew
      obtain ⟨b1, S3, b2, b3, b4, b5⟩ := new_pair (c := .int (i : Nat)) st2 nT rfl (Rp.mono e2 _ _ ru)
      exact ⟨b1, S3, _, enD_at hi, b2, b3, b4, b5⟩
    · rw [enD_len] at hi
      exact ⟨ys, SqL.of ((e2.tr st2.hst.sub) a _ h1), by rw [hr.len, hi]; exact Nat.le_refl _⟩)
end
section
variable {X : Cx} {G : Gh} {M : MM} {i j : Int}
theorem c_int : JC X G (.type "int") M [.d (.int i)] (.d (.int i)) M := ⟨_, call_int1, fun S H σ ρ us st r Q q => by
  obtain ⟨v, r, rfl, rv, rfl⟩ := r
  obtain rfl : v = .int i := rv
  exact .inl ⟨i, rfl, q _ S H (Sub.rfl' S) st rfl⟩⟩
theorem c_abs : JC X G (.builtin "abs") M [.d (.int i)] (.d (.int (if i < 0 then -i else i))) M := ⟨_, call_abs, fun S H σ ρ us st r Q q => by
  obtain ⟨v, r, rfl, rv, rfl⟩ := r
  obtain rfl : v = .int i := rv
  exact ⟨i, rfl, q _ S H (Sub.rfl' S) st rfl⟩⟩
theorem c_lenT {xs : List D} : JC X G (.builtin "len") M [.d (.tuple xs)] (.d (.int (xs.length : Nat))) M := ⟨_, call_len_seq, fun S H σ ρ us st r Q q => by
  obtain ⟨v, r, rfl, ⟨a, vs, rfl, h1, hr⟩, rfl⟩ := r
  exact ⟨a, vs, rfl, .inr (SqT.of (st.hst.sub _ _ h1)), by rw [hr.len]; exact q _ S H (Sub.rfl' S) st rfl⟩⟩
theorem c_len {s : SV} {xs : List SV} (h : LsV M s xs) : JC X G (.builtin "len") M [s] (.d (.int (xs.length : Nat))) M := ⟨_, call_len_seq, fun S H σ ρ us st r Q q => by
  obtain ⟨v, r, rfl, rv, rfl⟩ := r
  obtain ⟨a, vs, rfl, e1, r1⟩ := lsv_at st h rv
  exact ⟨a, vs, rfl, .inl (SqL.of e1), by rw [r1.len]; exact q _ S H (Sub.rfl' S) st rfl⟩⟩
/-- tuple(xs): of data -/
theorem c_tupleL {s : SV} {xs : List D} (h : LsV M s (xs.map SV.d)) : JC X G (.type "tuple") M [s] (.d (.tuple xs)) M := ⟨_, call_tuple_of, fun S H σ ρ us st r Q q => by
  obtain ⟨v, r, rfl, rv, rfl⟩ := r
  cases s with
  | d y =>
    cases y with
    | list ds =>
      have e : xs.map SV.d = ds.map SV.d := h
      obtain ⟨a, vs, rfl, h1, r1⟩ := rv
      refine ⟨a, vs, rfl, .inl ⟨SqL.of (st.hst.sub a _ h1), fun l hl => ?_⟩⟩
      have e2 : Sub S (upd S l (.tup vs)) := Evl.Ex.new (st.hst.free hl).1
      refine q _ _ _ e2 ⟨st.hst.newS hl, st.sl.mono e2⟩ ⟨l, vs, rfl, upd_same, RpA.mono e2 _ _ ?_⟩
      have r2 := RpA.ra r1
      rw [← e] at r2
      exact r2.ds
    | _ => exact (show False from h).elim
  | o a =>
    obtain rfl : v = .ref a := rv
    obtain ⟨_, o, ho, vs, rfl, r1⟩ := st.hst.own a _ h
    refine ⟨a, vs, rfl, .inl ⟨SqL.of ho, fun l hl => ?_⟩⟩
    have e2 : Sub S (upd S l (.tup vs)) := Evl.Ex.new (st.hst.free hl).1
    exact q _ _ _ e2 ⟨st.hst.newS hl, st.sl.mono e2⟩ ⟨l, vs, rfl, upd_same, RpA.mono e2 _ _ r1.ds⟩
  | _ => exact (show False from h).elim⟩
theorem c_tupleT {xs : List D} : JC X G (.type "tuple") M [.d (.tuple xs)] (.d (.tuple xs)) M := ⟨_, call_tuple_of, fun S H σ ρ us st r Q q => by
  obtain ⟨v, r, rfl, ⟨a, vs, rfl, h1, hr⟩, rfl⟩ := r
  exact ⟨a, vs, rfl, .inr ⟨SqT.of (st.hst.sub _ _ h1), q _ S H (Sub.rfl' S) st ⟨a, vs, rfl, h1, hr⟩⟩⟩⟩
/-- sums -/
theorem lsv_ints {K : PySem.W.Frag} {S H : Hp} {σ : L2.St} {ρ : List SV} {s : SV} {ns : List Int} {u : V} (st : Sta K G S H σ ρ M) (h : LsV M s (ns.map fun n => SV.d (.int n))) (r : Rel K S s u) : ∃ a, u = .ref a ∧ H a = some (.lst (ns.map V.int)) := by
  obtain ⟨a, vs, rfl, e1, r1⟩ := lsv_at st h r
  have e : (ns.map fun n => SV.d (.int n)) = (ns.map PyData.int).map SV.d := by simp
  rw [e] at r1
  rw [r1.ds.ints_inv] at e1
  exact ⟨a, rfl, e1⟩
theorem c_sumL {s : SV} {ns : List Int} (hc : X.calm = true) (h : LsV M s (ns.map fun n => SV.d (.int n))) : JC X G (.builtin "sum") M [s] (.d (.int ns.sum)) M := ⟨_, cr_sum hc, fun S H σ ρ us st r Q q => by
  obtain ⟨v, r, rfl, rv, rfl⟩ := r
  obtain ⟨a, rfl, e1⟩ := lsv_ints st h rv
  exact ⟨a, ns, rfl, SqL.of e1, q _ S H (Sub.rfl' S) st rfl⟩⟩
def rSumT (K : PySem.W.Frag) : List V → Hp → VK → Prop := fun vs H Q => ∃ (a : Addr) (ns : List Int), vs = [V.ref a] ∧ SqT K H a (ns.map V.int) ∧ Q (.int ns.sum) H
theorem cr_sumT (hc : X.calm = true) : CallR X (.builtin "sum") (rSumT X.K) := by
  intro pins s σ H vs us Q I r h
  obtain ⟨a, ns, rfl, hs, q⟩ := h
  rw [Vals.ref1 r]
  obtain ⟨its, rv, ht, _⟩ := I.tuple hs
  have hi := rv.ints
  have hl : s.heap.IsTuple a its.toArray := ht
  obtain ⟨xs, hx⟩ := hi.allInts.items
  have hn : numsOf its.toArray.toList = ns := by rw [show its.toArray.toList = its from rfl, hi.numsOf]
  rw [hx] at hl hn
  rw [nums_intItems] at hn
  refine PySem.W.ktm_sumG (I.ok.hd hc) hl fun h' tk t' hk => ?_
  refine ⟨.int ns.sum, H, I.kept (t' := tk) hk, ⟨t', ?_⟩, q⟩
  rw [preSum_eq, List.take_of_length_le (by simp), hn]
theorem c_sumT {xs : List D} {ns : List Int} (hc : X.calm = true) (h : xs = ns.map PyData.int) : JC X G (.builtin "sum") M [.d (.tuple xs)] (.d (.int ns.sum)) M := ⟨_, cr_sumT hc, fun S H σ ρ us st r Q q => by
  obtain ⟨v, r, rfl, ⟨a, vs, rfl, h1, hr⟩, rfl⟩ := r
  subst h
  rw [hr.ints_inv] at h1
  exact ⟨a, ns, rfl, SqT.of (st.hst.sub _ _ h1), q _ S H (Sub.rfl' S) st rfl⟩⟩
/-- all, any of truth values -/
theorem lsv_bools {K : PySem.W.Frag} {S H : Hp} {σ : L2.St} {ρ : List SV} {s : SV} {bs : List Bool} {u : V} (st : Sta K G S H σ ρ M) (h : LsV M s (bs.map fun n => SV.d (.bool n))) (r : Rel K S s u) : ∃ a, u = .ref a ∧ H a = some (.lst (bs.map V.bl)) := by
  obtain ⟨a, vs, rfl, e1, r1⟩ := lsv_at st h r
  have e : (bs.map fun n => SV.d (.bool n)) = (bs.map PyData.bool).map SV.d := by simp
  rw [e] at r1
  rw [r1.ds.bools_inv] at e1
  exact ⟨a, rfl, e1⟩
theorem c_all {s : SV} {bs : List Bool} (hc : X.calm = true) (h : LsV M s (bs.map fun n => SV.d (.bool n))) : JC X G (.builtin "all") M [s] (.d (.bool (bs.all id))) M := ⟨_, cr_all hc, fun S H σ ρ us st r Q q => by
  obtain ⟨v, r, rfl, rv, rfl⟩ := r
  obtain ⟨a, rfl, e1⟩ := lsv_bools st h rv
  exact ⟨a, bs, rfl, SqL.of e1, q _ S H (Sub.rfl' S) st rfl⟩⟩
/-- any of data, by truth -/
def rAnyD (K : PySem.W.Frag) : List V → Hp → VK → Prop := fun vs H Q => ∃ (a : Addr) (xs : List D) (ys : List V), vs = [V.ref a] ∧ (SqT K H a ys ∨ SqL K H a ys) ∧ DpAll K H ys xs ∧ PyData.plainAll xs = true ∧ (∀ x ∈ xs, x.fits63) ∧ Q (.bl (xs.any PyData.truthy)) H
theorem cr_anyD (hc : X.calm = true) : CallR X (.builtin "any") (rAnyD X.K) := by
  intro pins s σ H vs us Q I r h
  obtain ⟨a, xs, ys, rfl, hs, hd, hp, hf, q⟩ := h
  rw [Vals.ref1 r]
  rcases hs with hs | hs
  · obtain ⟨its, rv, ht, _⟩ := I.tuple hs
    obtain ⟨as, hr⟩ := Dp.readsAll I xs ys its hd rv
    exact PySem.W.any_tuple_data (vs := its.toArray) (I.ok.hd hc) ht hr hp hf fun h' tk hk => ⟨.bl _, H, I.kept (t' := tk) hk, rfl, q⟩
  · obtain ⟨its, rv, hl, _⟩ := I.list hs
    obtain ⟨as, hr⟩ := Dp.readsAll I xs ys its hd rv
    exact PySem.W.any_list_data (vs := its.toArray) (I.ok.hd hc) hl.isList hr hp hf fun h' tk hk => ⟨.bl _, H, I.kept (t' := tk) hk, rfl, q⟩
theorem plain_ints : ∀ ns : List Int, PyData.plainAll (ns.map PyData.int) = true
  | [] => by simp [PyData.plainAll]
  | n :: ns => by simp [PyData.plainAll, PyData.plain, plain_ints ns]
theorem nodct_ints : ∀ ns : List Int, nodctA (ns.map PyData.int) = true
  | [] => rfl
  | n :: ns => by simp [nodctA, nodct, nodct_ints ns]
theorem any_truthy (ns : List Int) : (ns.map PyData.int).any PyData.truthy = ns.any (· != 0) := by
  induction ns with
  | nil => rfl
  | cons n ns ih => simp only [List.map_cons, List.any_cons, ih, PyData.truthy]
theorem c_anyT {xs : List D} {ns : List Int} (hc : X.calm = true) (h : xs = ns.map PyData.int) : JC X G (.builtin "any") M [.d (.tuple xs)] (.d (.bool (ns.any (· != 0)))) M := ⟨_, cr_anyD hc, fun S H σ ρ us st r Q q => by
  obtain ⟨v, r, rfl, ⟨a, vs, rfl, h1, hr⟩, rfl⟩ := r
  subst h
  refine ⟨a, ns.map PyData.int, vs, rfl, .inl (SqT.of (st.hst.sub _ _ h1)), RpA.dp (nodct_ints ns) (RpA.mono st.hst.sub _ _ hr), plain_ints ns, fun x hx => ?_, ?_⟩
  · obtain ⟨n, _, rfl⟩ := List.mem_map.mp hx
    trivial
  · rw [any_truthy]
    exact q _ S H (Sub.rfl' S) st rfl⟩
end
end NL
set_option Elab.async false
set_option linter.all false
set_option maxRecDepth 100000
set_option maxHeartbeats 4000000
namespace NL
open PySem PySem.Spec L2
open PyProof.Rows hiding St
section
variable {X : Cx} {G : Gh} {ρ : List SV} {M M1 M2 M3 : MM} {o e : Expr} {es : List Expr} {apos cpos : Pos} {a : Addr} {xs : List SV} {d z : SV}
theorem own_ty {K : PySem.W.Frag} {S H : Hp} {σ : L2.St} {M : MM} {a : Addr} {xs : List SV} (st : Sta K G S H σ ρ M) (h : M a = some (.lst xs)) : tyV K "list" (.ref a) H := by
  obtain ⟨_, u, ho, vs, rfl, _⟩ := st.hst.own a _ h
  exact .inl ⟨rfl, vs, SqL.of ho⟩
theorem e_append (ho : jE X G o ρ M (.o a) M1) (h1 : M1 a = some (.lst xs)) (ha : jE X G e ρ M1 d M2) {ys : List SV} (h2 : M2 a = some (.lst ys)) (hl : ys.length ≤ 1000000)
    (hbase : attributeBase o "append" X.env (eval o X.env) = eval o X.env := by rfl)
    (hfew : ((backTo cpos (starEach [e] X.env)).all (fun x => !x.1) && (backToKw cpos (keywordEach [] X.env)).all (fun x => x.1.isSome) && decide ([e].length + ([] : List Keyword).length + (if ([] : List Keyword).isEmpty then 0 else 1) < 30)) = true := by rfl)
    (hline : (apos.endLine == cpos.line) = true := by rfl) (hs : starEach [e] X.env = (false, eval e X.env) :: starEach [] X.env := by rfl) (hpl : (backTo cpos (starEach [] X.env)).any (·.1) = false := by rfl) :
    jE X G (.Call (.Attribute o "append" apos) [e] [] cpos) ρ M (.d .none) (mset M2 a (.lst (ys ++ [d]))) := fun S H σ st Q q =>
  PE.go (pe_bm PySem.F.plainAttrs_list PySem.F.slot_list_append PySem.F.type_list_append mt_append peS (pa_cons peS pa_nil hs) hbase hfew hline hs hpl) (ho S H σ st _ fun u S1 H1 e1 st1 r1 => by
    obtain rfl : u = .ref a := r1
    refine ⟨own_ty st1 h1, ha S1 H1 σ st1 _ fun v S2 H2 e2 st2 r2 => ?_⟩
    obtain ⟨_, w, hw, vs, rfl, rv⟩ := st2.hst.own a _ h2
    refine ⟨a, vs, v, rfl, rfl, hw, by rw [rv.len]; exact sz_lt hl, q _ S2 _ (e1.tr e2) ⟨st2.hst.put h2 ⟨_, rfl, rv.app ⟨v, [], rfl, r2, rfl⟩⟩, st2.sl⟩ rfl⟩)
theorem RelA.dropLast {K : PySem.W.Frag} {S : Hp} : ∀ {xs : List SV} {vs : List V}, RelA K S xs vs → RelA K S xs.dropLast vs.dropLast
  | [], _, h => by subst h; exact rfl
  | [_], _, ⟨v, r, h1, _, h3⟩ => by
    have h3' : r = [] := h3
    subst h1; subst h3'; exact rfl
  | _ :: y :: xs, _, ⟨v, r, h1, h2, h3⟩ => by
    obtain ⟨w, t, e1, h4, h5⟩ := h3
    subst h1; subst e1
    exact ⟨v, _, rfl, h2, RelA.dropLast (xs := y :: xs) ⟨w, t, rfl, h4, h5⟩⟩
theorem RelA.eraseIdx {K : PySem.W.Frag} {S : Hp} : ∀ {xs : List SV} {vs : List V} (k : Nat), RelA K S xs vs → RelA K S (xs.eraseIdx k) (vs.eraseIdx k)
  | [], _, k, h => by subst h; exact rfl
  | _ :: _, _, 0, ⟨v, r, h1, _, h3⟩ => by subst h1; exact h3
  | _ :: _, _, k + 1, ⟨v, r, h1, h2, h3⟩ => by subst h1; exact ⟨v, _, rfl, h2, RelA.eraseIdx k h3⟩
theorem RelA.set {K : PySem.W.Frag} {S : Hp} {d : SV} {w : V} (h : Rel K S d w) : ∀ {xs : List SV} {vs : List V} (k : Nat), RelA K S xs vs → RelA K S (xs.set k d) (vs.set k w)
  | [], _, k, h => by subst h; exact rfl
  | _ :: _, _, 0, ⟨v, r, h1, _, h3⟩ => by subst h1; exact ⟨w, r, rfl, h, h3⟩
  | _ :: _, _, k + 1, ⟨v, r, h1, h2, h3⟩ => by subst h1; exact ⟨v, _, rfl, h2, RelA.set h k h3⟩
theorem e_pop0 (ho : jE X G o ρ M (.o a) M1) (h1 : M1 a = some (.lst xs)) (hd : xs[xs.length - 1]? = some d)
    (hbase : attributeBase o "pop" X.env (eval o X.env) = eval o X.env := by rfl) (hline : (apos.endLine == cpos.line) = true := by rfl) :
    jE X G (.Call (.Attribute o "pop" apos) [] [] cpos) ρ M d (mset M1 a (.lst xs.dropLast)) := fun S H σ st Q q =>
  PE.go (pe_bm0 PySem.F.plainAttrs_list PySem.F.slot_list_pop PySem.F.type_list_pop mt_pop peS hbase hline) (ho S H σ st _ fun u S1 H1 e1 st1 r1 => by
    obtain rfl : u = .ref a := r1
    refine ⟨own_ty st1 h1, ?_⟩
    obtain ⟨_, w, hw, vs, rfl, rv⟩ := st1.hst.own a _ h1
    obtain ⟨v, hv, r2⟩ := rv.at hd
    exact ⟨a, vs, v, rfl, rfl, hw, by rw [rv.len]; exact hv, q _ S1 _ e1 ⟨st1.hst.put h1 ⟨_, rfl, rv.dropLast⟩, st1.sl⟩ r2⟩)
theorem e_popAt (ho : jE X G o ρ M (.o a) M1) (h1 : M1 a = some (.lst xs)) {i : Int} {k : Nat} (ha : jE X G e ρ M1 (.d (.int i)) M2) {ys : List SV} (h2 : M2 a = some (.lst ys)) (hi : i = (k : Nat)) (hk : ys.length ≤ 1000000) (hd : ys[k]? = some d)
    (hbase : attributeBase o "pop" X.env (eval o X.env) = eval o X.env := by rfl)
    (hfew : ((backTo cpos (starEach [e] X.env)).all (fun x => !x.1) && (backToKw cpos (keywordEach [] X.env)).all (fun x => x.1.isSome) && decide ([e].length + ([] : List Keyword).length + (if ([] : List Keyword).isEmpty then 0 else 1) < 30)) = true := by rfl)
    (hline : (apos.endLine == cpos.line) = true := by rfl) (hs : starEach [e] X.env = (false, eval e X.env) :: starEach [] X.env := by rfl) (hpl : (backTo cpos (starEach [] X.env)).any (·.1) = false := by rfl) :
    jE X G (.Call (.Attribute o "pop" apos) [e] [] cpos) ρ M d (mset M2 a (.lst (ys.eraseIdx k))) := fun S H σ st Q q =>
  PE.go (pe_bm PySem.F.plainAttrs_list PySem.F.slot_list_pop PySem.F.type_list_pop mt_popAt peS (pa_cons peS pa_nil hs) hbase hfew hline hs hpl) (ho S H σ st _ fun u S1 H1 e1 st1 r1 => by
    obtain rfl : u = .ref a := r1
    refine ⟨own_ty st1 h1, ha S1 H1 σ st1 _ fun v S2 H2 e2 st2 r2 => ?_⟩
    obtain rfl : v = .int i := r2
    obtain ⟨_, w, hw, vs, rfl, rv⟩ := st2.hst.own a _ h2
    obtain ⟨y, hy, r3⟩ := rv.at hd
    have hlt := (List.getElem?_eq_some_iff.mp hd).1
    have hl := rv.len
    refine ⟨a, vs, i, k, y, rfl, rfl, hw, by omega, by omega, ?_, hy, q _ S2 _ (e1.tr e2) ⟨st2.hst.put h2 ⟨_, rfl, rv.eraseIdx k⟩, st2.sl⟩ r3⟩
    subst hi
    rw [seqIndex_of (by omega) (by omega)]
    rfl)
/-- xs[::-1] -/
theorem l_rev {k : Nat} {p1 p2 p3 pos : Pos} {s : SV} (he : jE X G e ρ M s M1) (h : LsV M1 s xs) : jL X G (.Subscript e (.Slice none none (some (.UnaryOp .USub (.Constant (.int 1) k p1) p2)) p3) pos) ρ M xs.reverse M1 := fun S H σ st Q q =>
  PE.go (pe_revL peS) (he S H σ st _ fun u S1 H1 e1 st1 r1 => by
    obtain ⟨a, vs, rfl, ha, rv⟩ := lsv_at st1 h r1
    refine ⟨a, vs, rfl, SqL.of ha, fun p np => q p S1 _ e1 (st1.hst.free np).2 ⟨st1.hst.newM np ⟨_, rfl, ?_⟩, st1.sl⟩⟩
    have rev : ∀ {xs : List SV} {vs : List V}, RelA X.K S1 xs vs → RelA X.K S1 xs.reverse vs.reverse := by
      intro xs
      induction xs with
      | nil => intro vs h; subst h; exact rfl
      | cons x xs ih =>
        intro vs h
        obtain ⟨v, r, rfl, h2, h3⟩ := h
        rw [List.reverse_cons, List.reverse_cons]
        exact (ih h3).app ⟨v, [], rfl, h2, rfl⟩
    exact rev rv)
/-- o[i] = e, a list of one's own -/
theorem s_setIx {i : Expr} {k : Int} {j : Nat} {P : Post} {p' pos : Pos} (he : jE X G e ρ M d M1) (ho : jE X G o ρ M1 (.o a) M2) (hi : jE X G i ρ M2 (.d (.int k)) M3) (h : M3 a = some (.lst xs)) (hj : ixN xs.length k = some j) (kk : P.nx ρ (mset M3 a (.lst (xs.set j d))))
    (ha : ∀ v, assign (.Subscript o i p') X.env v = (do
      let ov ← holding [v] (eval o X.env)
      let iv ← holding [v, ov] (eval i X.env)
      standAt p'
      holding [v, ov, iv] (setItem ov iv v)
      release [v, ov, iv] []) := by intro _; rfl)
    (hs : swapsWithSole [.Subscript o i p'] e pos.line X.env = pure false := by rfl) (hw : swappedStores [.Subscript o i p'] e X.env = pure none := by rfl) (h1 : (assignEach [.Subscript o i p'] X.env).map (·.2) = [assign (.Subscript o i p') X.env] := by rfl) :
    jS X G (.Assign [.Subscript o i p'] e pos) ρ M P := fun S H σ st D ft =>
  PS.go (ps_asg peS (pg_sub peS peS set_list ha) hs hw h1) (he S H σ st _ fun v S1 H1 e1 st1 r1 => ho S1 H1 σ st1 _ fun u S2 H2 e2 st2 r2 => hi S2 H2 σ st2 _ fun w S3 H3 e3 st3 r3 => by
    obtain rfl : u = .ref a := r2
    obtain rfl : w = .int k := r3
    obtain ⟨_, x, hx, vs, rfl, rv⟩ := st3.hst.own a _ h
    exact ⟨a, vs, k, j, rfl, rfl, hx, by rw [rv.len]; exact hj, ft.nx S3 _ _ _ _ ⟨st3.hst.put (m' := .lst (xs.set j d)) h ⟨_, rfl, rv.set (r1.mono (e2.tr e3)) j⟩, st3.sl⟩ kk⟩)
theorem tru_l {s : SV} {xs : List SV} (h : LsV M s xs) : jTru X G M s (!xs.isEmpty) := fun S H σ ρ u st r => by
  obtain ⟨a, vs, rfl, h1, hr⟩ := lsv_at st h r
  refine .inl ⟨vs, SqL.of h1, ?_⟩
  have := hr.len
  cases xs <;> cases vs <;> simp_all
end
end NL
set_option Elab.async false
set_option linter.all false
set_option maxRecDepth 100000
set_option maxHeartbeats 4000000
namespace NL
open PySem PySem.Spec L2
open PyProof.Rows hiding St
/-- a def of the text, where it stands behind the top -/
structure Def (K : PySem.W.Frag) (mg : Str → Option Value) (x : Str) (st : Stmt) (ps : List Str) where
  f : Addr
  fd : FuncData
  F : FunX K x x st f fd
  b : Binds K fd ps []
  g : mg x = some (.ref f)
section
variable {X : Cx} {G : Gh} {ρ : List SV} {M M1 M2 : MM} {z : SV} {ds : List SV} {e : Expr} {es : List Expr} {pos p : Pos}
/-- a def that is called: what its promise makes of the arguments -/
theorem call {k n : Nat} {W : Wp} {x : Str} {st : Stmt} {ps : List Str} (T : Def X.K X.mg x st ps) (F : FnG X.prog X.w X.K X.mg X.base CX0 k T.f T.fd ps (spN X.K n W)) (hr : Rm k X.A) (ha : jA X G (e :: es) ρ M ds M1) (hW : ∀ R : SV → MM → Prop, R z M2 → W ds M1 R) (hl : ds.length = n := by rfl)
    (hg : Gl X x := by rfl) (hdb : (x == ("__debug__" : Str)) = false := by decide) (he : starEach (e :: es) X.env = (false, eval e X.env) :: starEach es X.env := by rfl) (hpl : (backTo pos (starEach es X.env)).any (·.1) = false := by rfl) : jE X G (.Call (.Name x p) (e :: es) [] pos) ρ M z M2 :=
  e_call1 F hr T.g T.F.kp T.b ha hW hl hg hdb he hpl
end
structure Deal where
  cells : List Int
  blend : Int
def isv (ns : List Int) : List SV := ns.map fun n => .d (.int n)
def dput (M : MM) (a b : Addr) (dl : Deal) : MM := mset (mset M b (.lst (isv dl.cells))) a (.lst [.o b, .d (.int dl.blend)])
theorem dput_a {M : MM} {a b : Addr} {dl : Deal} : dput M a b dl a = some (.lst [.o b, .d (.int dl.blend)]) := mset_same
theorem dput_b {M : MM} {a b : Addr} {dl : Deal} (h : b ≠ a) : dput M a b dl b = some (.lst (isv dl.cells)) := by
  unfold dput; rw [mset_ne h, mset_same]
theorem dput_set_b {M : MM} {a b : Addr} {dl : Deal} {cs : List Int} (h : b ≠ a) : mset (dput M a b dl) b (.lst (isv cs)) = dput M a b ⟨cs, dl.blend⟩ := by
  unfold dput; rw [mset_comm (Ne.symm h), mset_mset]
theorem dput_set_a {M : MM} {a b : Addr} {dl : Deal} {n : Int} : mset (dput M a b dl) a (.lst [.o b, .d (.int n)]) = dput M a b ⟨dl.cells, n⟩ := by
  unfold dput; rw [mset_mset]
theorem dput_ne {M : MM} {a b c : Addr} {dl : Deal} (h1 : c ≠ a) (h2 : c ≠ b) : dput M a b dl c = M c := by
  unfold dput; rw [mset_ne h1, mset_ne h2]
theorem dput_mset {M : MM} {a b c : Addr} {dl : Deal} {m : MO} (h1 : c ≠ a) (h2 : c ≠ b) : mset (dput M a b dl) c m = dput (mset M c m) a b dl := by
  unfold dput; rw [mset_comm (Ne.symm h1), mset_comm (Ne.symm h2)]
theorem ne_new {M : MM} {a p : Addr} {m : MO} (h : M a = some m) (n : M p = none) : p ≠ a := fun z => by
  rw [z, h] at n; cases n
structure Deal.Ok (dl : Deal) : Prop where
  pos : ∀ c ∈ dl.cells, 0 ≤ c
  lo : 0 ≤ dl.blend
  hi : dl.blend < 2147483647
  len : dl.cells.length ≤ 48
def trimZ (cs : List Int) : List Int := (cs.reverse.dropWhile (· == 0)).reverse
def anyR (dl : Deal) (n : Int) : Int × Deal :=
  match (trimZ dl.cells).getLast? with
  | some r => (r % n, ⟨(trimZ dl.cells).dropLast ++ [r / n], dl.blend⟩)
  | none => ((((dl.blend * 40693 + 71) % 2147483647) / 64) % n, ⟨[], (dl.blend * 40693 + 71) % 2147483647⟩)
theorem trimZ_app (cs : List Int) (c : Int) : trimZ (cs ++ [c]) = if c = 0 then trimZ cs else cs ++ [c] := by
  unfold trimZ
  rw [List.reverse_append, List.reverse_singleton, List.singleton_append, List.dropWhile_cons]
  by_cases h : c = 0
  · subst h; simp
  · simp [h]
theorem trimZ_len (cs : List Int) : (trimZ cs).length ≤ cs.length := by
  unfold trimZ
  rw [List.length_reverse]
  have := (List.dropWhile_sublist (· == 0) (l := cs.reverse)).length_le
  rwa [List.length_reverse] at this
theorem trimZ_sub {cs : List Int} {c : Int} (h : c ∈ trimZ cs) : c ∈ cs := by
  unfold trimZ at h
  have := (List.dropWhile_sublist (· == 0) (l := cs.reverse)).subset (List.mem_reverse.mp h)
  exact List.mem_reverse.mp this
theorem trimZ_snoc {cs : List Int} {r : Int} (h : (trimZ cs).getLast? = some r) : trimZ cs = (trimZ cs).dropLast ++ [r] := by
  have hn : trimZ cs ≠ [] := fun e => by rw [e] at h; cases h
  rw [List.getLast?_eq_getLast hn] at h
  rw [← Option.some.inj h]
  exact (List.dropLast_concat_getLast hn).symm
theorem anyR_ok {dl : Deal} {n : Int} (h : dl.Ok) (hn : 0 < n) : 0 ≤ (anyR dl n).1 ∧ (anyR dl n).1 < n ∧ (anyR dl n).2.Ok := by
  unfold anyR
  cases e : (trimZ dl.cells).getLast? with
  | some r =>
    have hm : r ∈ trimZ dl.cells := List.mem_of_getLast? e
    have hr : 0 ≤ r := h.pos r (trimZ_sub hm)
    have hl : (trimZ dl.cells).length ≤ 48 := Nat.le_trans (trimZ_len _) h.len
    have hs := trimZ_snoc e
    refine ⟨Int.emod_nonneg _ (by omega), Int.emod_lt_of_pos _ hn, ⟨fun c hc => ?_, h.lo, h.hi, ?_⟩⟩
    · rcases List.mem_append.mp hc with hc | hc
      · exact h.pos c (trimZ_sub ((List.dropLast_sublist _).subset hc))
      · rw [List.mem_singleton.mp hc]
        exact Int.ediv_nonneg hr (by omega)
    · have l2 := congrArg List.length hs
      rw [List.length_append, List.length_singleton] at l2
      rw [List.length_append, List.length_singleton]
      omega
  | none =>
    have h1 : 0 ≤ (dl.blend * 40693 + 71) % 2147483647 := Int.emod_nonneg _ (by decide)
    have h2 : (dl.blend * 40693 + 71) % 2147483647 < 2147483647 := Int.emod_lt_of_pos _ (by decide)
    exact ⟨Int.emod_nonneg _ (by omega), Int.emod_lt_of_pos _ hn, ⟨fun c hc => (by simp at hc), h1, h2, by simp⟩⟩
/-- a draw below n -/
def W_any : Wp := fun ds M R => ∃ (a b : Addr) (M0 : MM) (dl : Deal) (n : Int), ds = [.o a, .d (.int n)] ∧ b ≠ a ∧ M = dput M0 a b dl ∧ dl.Ok ∧ 0 < n ∧ n < 1073741824 ∧ R (.d (.int (anyR dl n).1)) (dput M0 a b (anyR dl n).2)
end NL
set_option Elab.async false
set_option linter.all false
set_option maxRecDepth 100000
set_option maxHeartbeats 4000000
namespace NL
open PySem PySem.Spec L2
open PyProof.Rows hiding St
structure okD (k : Nat) (d : D) : Prop where
  nd : nodct d = true
  lay : d.canLay0 = true
  dep : d.depth ≤ k
theorem okD.mono {k j : Nat} {d : D} (h : okD k d) (l : k ≤ j) : okD j d := ⟨h.nd, h.lay, Nat.le_trans h.dep l⟩
theorem ok_int {k : Nat} {i : Int} : okD k (.int i) := ⟨rfl, by simp [PyData.canLay0], by simp [PyData.depth]⟩
theorem ok_none {k : Nat} : okD k .none := ⟨rfl, by simp [PyData.canLay0], by simp [PyData.depth]⟩
theorem ok_all {k : Nat} : ∀ {ds : List D}, (∀ d ∈ ds, okD k d) → nodctA ds = true ∧ PyData.canLayAll0 ds = true ∧ PyData.depthAll ds ≤ k
  | [], _ => ⟨rfl, by simp [PyData.canLayAll0], by simp [PyData.depthAll]⟩
  | d :: ds, h => by
    obtain ⟨a, b, c⟩ := ok_all fun x hx => h x (List.mem_cons_of_mem _ hx)
    have hd := h d (List.mem_cons_self ..)
    refine ⟨by simp [nodctA, hd.nd, a], by simp [PyData.canLayAll0, hd.lay, b], ?_⟩
    simp only [PyData.depthAll]
    have := hd.dep
    omega
theorem ok_list {k : Nat} {ds : List D} (h : ∀ d ∈ ds, okD k d) : okD (k + 1) (.list ds) := by
  obtain ⟨a, b, c⟩ := ok_all h
  exact ⟨by simpa [nodct] using a, by simpa [PyData.canLay0] using b, by simp only [PyData.depth]; omega⟩
theorem ok_tup {k : Nat} {ds : List D} (h : ∀ d ∈ ds, okD k d) : okD (k + 1) (.tuple ds) := by
  obtain ⟨a, b, c⟩ := ok_all h
  exact ⟨by simpa [nodct] using a, by simpa [PyData.canLay0] using b, by simp only [PyData.depth]; omega⟩
theorem okD.fine {k : Nat} {d : D} (h : okD k d) (hk : k ≤ 60 := by decide) : fine d = true := by
  have := h.dep
  simp only [NL.fine, h.nd, Bool.true_and]
  show (d.canLay0 && decide (d.depth ≤ 64)) = true
  rw [h.lay, Bool.true_and, decide_eq_true_eq]
  omega
def tI (ns : List Int) : D := .tuple (ns.map .int)
def lI (ns : List Int) : D := .list (ns.map .int)
def lT (xs : List (List Int)) : D := .list (xs.map tI)
theorem isv_eq (ns : List Int) : isv ns = (ns.map PyData.int).map SV.d := by simp [isv]
def tsv (xs : List (List Int)) : List SV := xs.map fun t => .d (tI t)
theorem tsv_eq (xs : List (List Int)) : tsv xs = (xs.map tI).map SV.d := by simp [tsv]
theorem ok_tI (ns : List Int) : okD 1 (tI ns) := ok_tup fun d hd => by
  obtain ⟨n, _, rfl⟩ := List.mem_map.mp hd
  exact ok_int
theorem ok_lI (ns : List Int) : okD 1 (lI ns) := ok_list fun d hd => by
  obtain ⟨n, _, rfl⟩ := List.mem_map.mp hd
  exact ok_int
theorem ok_lT (xs : List (List Int)) : okD 2 (lT xs) := ok_list fun d hd => by
  obtain ⟨n, _, rfl⟩ := List.mem_map.mp hd
  exact ok_tI n
theorem eqvA_ints : ∀ ns ms : List Int, PyData.eqvAll (ns.map .int) (ms.map .int) = decide (ns = ms)
  | [], [] => by simp [PyData.eqvAll]
  | [], _ :: _ => by simp [PyData.eqvAll]
  | _ :: _, [] => by simp [PyData.eqvAll]
  | n :: ns, m :: ms => by
    simp only [List.map_cons, PyData.eqvAll, PyData.eqv, eqvA_ints ns ms]
    by_cases h : n = m
    · subst h; simp
    · simp [h]
theorem eqv_tI (ns ms : List Int) : PyData.eqv (tI ns) (tI ms) = decide (ns = ms) := by simp only [tI, PyData.eqv, eqvA_ints]
theorem eqvA_tI : ∀ xs ys : List (List Int), PyData.eqvAll (xs.map tI) (ys.map tI) = decide (xs = ys)
  | [], [] => by simp [PyData.eqvAll]
  | [], _ :: _ => by simp [PyData.eqvAll]
  | _ :: _, [] => by simp [PyData.eqvAll]
  | n :: ns, m :: ms => by
    simp only [List.map_cons, PyData.eqvAll, eqv_tI, eqvA_tI ns ms]
    by_cases h : n = m
    · subst h; simp
    · simp [h]
theorem eqv_lT (xs ys : List (List Int)) : PyData.eqv (lT xs) (lT ys) = decide (xs = ys) := by simp only [lT, PyData.eqv, eqvA_tI]
theorem eqv_nil (ds : List D) : PyData.eqv (.list ds) (.list []) = ds.isEmpty := by cases ds <;> simp [PyData.eqv, PyData.eqvAll]
theorem any_tI (xs : List (List Int)) (t : List Int) : ((xs.map tI).any fun z => PyData.eqv z (tI t)) = decide (t ∈ xs) := by
  induction xs with
  | nil => simp
  | cons x xs ih =>
    rw [List.map_cons, List.any_cons, ih, eqv_tI]
    by_cases h : x = t
    · subst h; simp
    · have h' : ¬ t = x := fun e => h e.symm
      simp [h, h']
theorem atI_0 {α : Type} {x : α} {xs : List α} : atI (x :: xs) 0 = some x := atI_nat (xs := x :: xs) (j := 0) rfl
theorem atI_1 {α : Type} {x y : α} {xs : List α} : atI (x :: y :: xs) 1 = some y := atI_nat (xs := x :: y :: xs) (j := 1) rfl
theorem atI_2 {α : Type} {x y z : α} {xs : List α} : atI (x :: y :: z :: xs) 2 = some z := atI_nat (xs := x :: y :: z :: xs) (j := 2) rfl
theorem e_nil {X : Cx} {G : Gh} {ρ : List SV} {M : MM} {pos : Pos} : jE X G (.List [] pos) ρ M (.d (.list [])) M := e_ofL (xs := []) (e_lst a_nil)
end NL
namespace NL
open PySem PySem.Spec L2
open PyProof.Rows hiding St
/-- the name in slot i -/
theorem v (i : Nat) {X : Cx} {G : Gh} {ρ : List SV} {M : MM} {d : SV} {n : Str} {pos : Pos} (hN : X.N[i]? = some n := by rfl) (hr : ρ[i]? = some d := by rfl) (hv : Vis X.env.scope n := by first | exact Or.inl rfl | exact Or.inr (Or.inl rfl) | exact Or.inr (Or.inr rfl)) (hd : d ≠ .u := by exact fun q => nomatch q)
    (h1 : (n == ("__debug__" : Str)) = false := by decide) (h2 : (n == ("__classdict__" : Str)) = false := by decide) : jE X G (.Name n pos) ρ M d M := e_var hN hv hr hd h1 h2
end NL
namespace NL
open PySem PySem.Spec L2
open PyProof.Rows hiding St
theorem ok_nil {k : Nat} : okD (k + 1) (.list []) := ok_list (k := k) fun x h => absurd h (List.not_mem_nil)
/-- a list of one's own, of data, against [] -/
theorem ne_nil {X : Cx} {G : Gh} {M : MM} {a : Addr} {c : List D} (h : M a = some (.lst (c.map SV.d))) (hu : X.A.units + 64 < cLine) (hc : okD 50 (.list c)) : J2 X G (compareOp .NotEq) M (.o a) (.d (.list [])) (.d (.bool (!c.isEmpty))) M := by
  have q := ne_o (G := G) h hu hc.fine (d := .list []) (ok_nil (k := 0)).fine
  rw [eqv_nil] at q
  exact q
theorem last_at {α : Type} {xs : List α} {x : α} (h : xs.getLast? = some x) : atI xs (-1) = some x := by
  have hn : xs ≠ [] := fun e => by rw [e] at h; cases h
  rw [List.getLast?_eq_getLast hn] at h
  have e : xs = xs.dropLast ++ [x] := by rw [← Option.some.inj h]; exact (List.dropLast_concat_getLast hn).symm
  rw [e]
  exact atI_last _ _
end NL
namespace NL
theorem snoc {α : Type} (l : List α) : l = [] ∨ ∃ r x, l = r ++ [x] := by
  by_cases h : l = []
  · exact .inl h
  · exact .inr ⟨l.dropLast, l.getLast h, (List.dropLast_concat_getLast h).symm⟩
end NL
namespace NL
open PySem PySem.Spec L2
open PyProof.Rows hiding St
section
variable {X : Cx} {G : Gh} {ρ : List SV} {M M1 M2 : MM} {P : Post} {e c : Expr} {d : SV} {ds : List SV} {pos p' : Pos} {n : Str}
theorem st (i : Nat) (he : jE X G e ρ M d M1) (k : P.nx (ρ.set i d) M1) (hN : X.N.Nodup) (hi : X.N[i]? = some n := by rfl) (hx : Loc X.env.scope n := by first | exact Or.inl rfl | exact Or.inr rfl)
    (hs : swapsWith e (some (.Name n p')) pos.line X.env = pure false := by rfl) (hf : X.fn n = true ∨ X.env.scope.names.lookup n = some .local := by first | exact .inl rfl | exact .inr rfl) : jS X G (.Assign [.Name n p'] e pos) ρ M P := s_set he k hN hi hx hs hf
theorem stL (i : Nat) (he : jL X G e ρ M ds M1) (k : ∀ p, M1 p = none → P.nx (ρ.set i (.o p)) (mset M1 p (.lst ds))) (hN : X.N.Nodup) (hi : X.N[i]? = some n := by rfl) (hx : Loc X.env.scope n := by first | exact Or.inl rfl | exact Or.inr rfl)
    (hs : swapsWith e (some (.Name n p')) pos.line X.env = pure false := by rfl) (hf : X.fn n = true ∨ X.env.scope.names.lookup n = some .local := by first | exact .inl rfl | exact .inr rfl) : jS X G (.Assign [.Name n p'] e pos) ρ M P := s_setL he k hN hi hx hs hf
theorem ret (he : jE X G e ρ M d M1) (k : P.rt d M1) : jS X G (.Return (some e) pos) ρ M P := s_ret he ⟨_, MLe.rfl' _, k⟩
theorem gn (i : Nat) (hN : X.N.Nodup) (hi : X.N[i]? = some n := by rfl) (hx : Loc X.env.scope n := by first | exact Or.inl rfl | exact Or.inr rfl) (hf : X.fn n = true ∨ X.env.scope.names.lookup n = some .local := by first | exact .inl rfl | exact .inr rfl) :
    jG X (.Name n pos) d [i] (fun ρ => ρ.set i d) := g_name hN hi hx hf
end
end NL
set_option Elab.async false
set_option linter.all false
set_option maxRecDepth 100000
set_option maxHeartbeats 4000000
namespace NL
open PySem PySem.Spec L2
open PyProof.Rows hiding St
/-- e gives some d that Φ allows -/
def nE (X : Cx) (G : Gh) (e : Expr) (ρ : List SV) (M : MM) (Φ : SV → MM → Prop) : Prop := ∀ S H σ, Sta X.K G S H σ ρ M → ∀ Q : VK,
  (∀ d M' v S' H', Φ d M' → Sub S S' → Sta X.K G S' H' σ ρ M' → Rel X.K S' d v → Q v H') → semE X e σ H Q
section
variable {X : Cx} {G : Gh} {ρ : List SV} {M M1 M2 M3 : MM} {z d : SV} {ds : List SV} {e a b : Expr} {es : List Expr} {pos p p' : Pos} {Φ Ψ : SV → MM → Prop} {P : Post}
theorem n_of (h : jE X G e ρ M d M1) (k : Φ d M1) : nE X G e ρ M Φ := fun S H σ st Q q => h S H σ st Q fun v S' H' e1 st1 r1 => q d M1 v S' H' k e1 st1 r1
theorem n_ofL (h : jL X G e ρ M ds M1) (k : ∀ q, M1 q = none → Φ (.o q) (mset M1 q (.lst ds))) : nE X G e ρ M Φ := fun S H σ st Q q => h S H σ st Q fun r S' H' e1 n st1 => q (.o r) _ _ S' H' (k r n) e1 st1 rfl
theorem nE.imp (h : nE X G e ρ M Φ) (k : ∀ d M', Φ d M' → Ψ d M') : nE X G e ρ M Ψ := fun S H σ st Q q => h S H σ st Q fun d M' v S' H' f => q d M' v S' H' (k d M' f)
theorem n_call {k n : Nat} {W : Wp} {x : Str} {st : Stmt} {ps : List Str} (T : Def X.K X.mg x st ps) (F : FnG X.prog X.w X.K X.mg X.base CX0 k T.f T.fd ps (spN X.K n W)) (hr : Rm k X.A) (ha : jA X G (e :: es) ρ M ds M1) (hW : W ds M1 Φ) (hl : ds.length = n := by rfl)
    (hg : Gl X x := by rfl) (hdb : (x == ("__debug__" : Str)) = false := by decide) (he : starEach (e :: es) X.env = (false, eval e X.env) :: starEach es X.env := by rfl) (hpl : (backTo pos (starEach es X.env)).any (·.1) = false := by rfl) : nE X G (.Call (.Name x p) (e :: es) [] pos) ρ M Φ := fun S H σ st Q q =>
  PE.go (pe_callX F hr.gd hr.room hg T.g T.F.kp T.b .nil pass0 paS hdb he hpl) (ha S H σ st _ fun vs S1 H1 e1 st1 r1 =>
    ⟨S1, ds, M1, Φ, by rw [List.append_nil]; exact r1, hl, st1.hst.enter, hW, fun d M' v S' H' h' r' q' => q d M' v S' H' q' (e1.tr h'.g1) ⟨st1.hst.leave h', st1.sl.mono h'.g1⟩ r'⟩)
theorem s_setN {n : Str} (i : Nat) (he : nE X G e ρ M Φ) (k : ∀ d M', Φ d M' → P.nx (ρ.set i d) M') (hN : X.N.Nodup) (hi : X.N[i]? = some n := by rfl) (hx : Loc X.env.scope n := by first | exact Or.inl rfl | exact Or.inr rfl)
    (hs : swapsWith e (some (.Name n p')) pos.line X.env = pure false := by rfl) (hf : X.fn n = true ∨ X.env.scope.names.lookup n = some .local := by first | exact .inl rfl | exact .inr rfl) : jS X G (.Assign [.Name n p'] e pos) ρ M P := fun S H σ s D f =>
  PS.go (ps_set hN hi hx peS hs hf) (he S H σ s _ fun d M' v S1 H1 g e1 s1 r1 => f.nx S1 H1 _ _ M' ⟨s1.hst, s1.sl.set (RelS.of r1) i⟩ (k d M' g))
theorem s_retN (he : nE X G e ρ M Φ) (k : ∀ d M', Φ d M' → ∃ M'', MLe M'' M' ∧ P.rt d M'') : jS X G (.Return (some e) pos) ρ M P := fun S H σ s D f =>
  PS.go (ps_ret peS) (he S H σ s _ fun d M' v S1 H1 g e1 s1 r1 => by
    obtain ⟨M'', hl, k⟩ := k d M' g
    exact f.rt S1 H1 M'' d v (s1.hst.less hl) r1 k)
theorem s_asgN {tg : Expr} (he : nE X G e ρ M Φ) (k : ∀ d M', Φ d M' → ∃ (own : List Nat) (f : List SV → List SV), jG X tg d own f ∧ P.nx (f ρ) M')
    (hs : swapsWithSole [tg] e pos.line X.env = pure false := by rfl) (hw : swappedStores [tg] e X.env = pure none := by rfl) (h1 : (assignEach [tg] X.env).map (·.2) = [assign tg X.env] := by rfl) : jS X G (.Assign [tg] e pos) ρ M P := fun S H σ s D ft =>
  PS.go (ps_asg peS pgS hs hw h1) (he S H σ s _ fun d M' v S1 H1 g e1 s1 r1 => by
    obtain ⟨own, f, hg, k⟩ := k d M' g
    exact hg S1 H1 σ ρ M' G v s1 r1 _ fun σ' s2 _ => ft.nx S1 H1 _ _ M' s2 k)
/-- e[i] of a tuple -/
theorem n_ixT {i : Int} (ha : nE X G a ρ M Φ) (hb : ∀ M1, jE X G b ρ M1 (.d (.int i)) M1) (k : ∀ d M1, Φ d M1 → ∃ xs y, d = .d (.tuple xs) ∧ atI xs i = some y ∧ Ψ (.d y) M1) (hs : PlainIx b := by exact fun _ _ => rfl) : nE X G (.Subscript a b pos) ρ M Ψ := fun S H σ st Q q =>
  PE.go (pe_ix ix_tup peS peS hs) (ha S H σ st _ fun d M1 u S1 H1 f e1 st1 r1 => hb M1 S1 H1 σ st1 _ fun v S2 H2 e2 st2 r2 => by
    obtain ⟨xs, y, rfl, hy, g⟩ := k d M1 f
    obtain ⟨t, vs, rfl, ht, hv⟩ := Rel.mono (s := .d (.tuple xs)) e2 r1
    obtain rfl : v = .int i := r2
    unfold atI at hy
    obtain ⟨j, hj, hd⟩ := Option.bind_eq_some_iff.mp hy
    obtain ⟨w, hw, rw'⟩ := hv.at hd
    exact ⟨t, vs, i, w, rfl, rfl, SqT.of (st2.hst.sub _ _ ht), by unfold atI; rw [hv.len, hj]; exact hw, q (.d y) M1 _ S2 H2 g (e1.tr e2) st2 rw'⟩)
/-- e[lo:hi] of a list -/
theorem n_sliceL {lo hi : Option Expr} {p2 : Pos} {l h : Option Int} (he : nE X G e ρ M Φ) (t1 t2 : TO) (p1 : PO X lo t1) (p2' : PO X hi t2)
    (k1 : ∀ M1 S H σ, Sta X.K G S H σ ρ M1 → ∀ Q : Option Int → Hp → Prop, (∀ S' H', Sub S S' → Sta X.K G S' H' σ ρ M1 → Q l H') → t1 σ H Q) (k2 : ∀ M1 S H σ, Sta X.K G S H σ ρ M1 → ∀ Q : Option Int → Hp → Prop, (∀ S' H', Sub S S' → Sta X.K G S' H' σ ρ M1 → Q h H') → t2 σ H Q)
    (k : ∀ d M1, Φ d M1 → ∃ xs, d = .d (.list xs) ∧ ∀ q, M1 q = none → Ψ (.o q) (mset M1 q (.lst (cutS (xs.map .d) l h)))) :
    nE X G (.Subscript e (.Slice lo hi none p2) pos) ρ M Ψ := fun S H σ st Q q =>
  PE.go (pe_slice sl_list peS p1 p2') (he S H σ st _ fun d M1 u S1 H1 f e1 st1 r1 => k1 M1 S1 H1 σ st1 _ fun S2 H2 e2 st2 => k2 M1 S2 H2 σ st2 _ fun S3 H3 e3 st3 => by
    obtain ⟨xs, rfl, g⟩ := k d M1 f
    obtain ⟨a, vs, rfl, h4, r4⟩ := lsv_at (s := .d (.list xs)) (xs := xs.map .d) st3 ls_d (Rel.mono (s := .d (.list xs)) (e2.tr e3) r1)
    refine ⟨a, vs, rfl, SqL.of h4, fun p np => q (.o p) _ _ S3 _ (g p (st3.hst.free np).2) ((e1.tr e2).tr e3) ⟨st3.hst.newM np ⟨_, rfl, ?_⟩, st3.sl⟩ rfl⟩
    unfold cutV cutS
    rw [r4.len]
    exact (r4.drop _).take _)
/-- e[:n] -/
theorem n_upto {n : Expr} {p2 : Pos} {h : Int} (he : nE X G e ρ M Φ) (hh : ∀ M1, jE X G n ρ M1 (.d (.int h)) M1)
    (k : ∀ d M1, Φ d M1 → ∃ xs, d = .d (.list xs) ∧ ∀ q, M1 q = none → Ψ (.o q) (mset M1 q (.lst (cutS (xs.map .d) none (some h))))) : nE X G (.Subscript e (.Slice none (some n) none p2) pos) ρ M Ψ :=
  n_sliceL (l := none) (h := some h) he _ _ po_none (po_some peS) (fun M1 S H σ st Q q => q S H (Sub.rfl' S) st) (fun M1 S H σ st Q q => hh M1 S H σ st _ fun v S1 H1 e1 st1 r1 => ⟨h, r1, q S1 H1 e1 st1⟩) k
/-- [a new list, e] -/
theorem n_lst2 {ws : List SV} (ha : jL X G a ρ M ws M1) (hb : ∀ q, M1 q = none → jE X G b ρ (mset M1 q (.lst ws)) d (mset M2 q (.lst ws))) (k : ∀ q r, M1 q = none → mset M2 q (.lst ws) r = none → Φ (.o r) (mset (mset M2 q (.lst ws)) r (.lst [.o q, d])))
    (h1 : starEach (a :: [b]) X.env = (false, eval a X.env) :: starEach [b] X.env := by rfl) (h2 : starEach (b :: []) X.env = (false, eval b X.env) :: starEach [] X.env := by rfl) : nE X G (.List [a, b] pos) ρ M Φ := fun S H σ st Q q =>
  PE.go (pe_lst (pa_cons peS (pa_cons peS pa_nil h2) h1)) (ha S H σ st _ fun p S1 H1 e1 np st1 => hb p np S1 H1 σ st1 _ fun v S2 H2 e2 st2 r2 => ⟨sz_le (Nat.le_trans (show 2 ≤ 2 from Nat.le_refl _) (by decide)), fun r nr => by
    have nM := (st2.hst.free nr).2
    exact q (.o r) _ _ S2 _ (k p r np nM) (e1.tr e2) ⟨st2.hst.newM nr ⟨_, rfl, .ref p, _, rfl, rfl, v, [], rfl, r2, rfl⟩, st2.sl⟩ rfl⟩)
theorem l_sliceQ {lo hi : Option Expr} {p2 : Pos} {xs : List D} {l h : Option Int} (he : jE X G e ρ M (.q xs) M1) (hl : jO X G lo ρ M1 l) (hh : jO X G hi ρ M1 h) :
    jL X G (.Subscript e (.Slice lo hi none p2) pos) ρ M (cutS (xs.map .d) l h) M1 := by
  obtain ⟨t1, p1, k1⟩ := hl
  obtain ⟨t2, p2, k2⟩ := hh
  refine fun S H σ st Q q => PE.go (pe_slice sl_list peS p1 p2) (he S H σ st _ fun u S1 H1 e1 st1 r1 => k1 S1 H1 σ st1 _ fun S2 H2 e2 st2 => k2 S2 H2 σ st2 _ fun S3 H3 e3 st3 => ?_)
  obtain ⟨a, vs, rfl, h4, r4⟩ := Rel.mono (s := .q xs) (e2.tr e3) r1
  refine ⟨a, vs, rfl, Evl.ex_l st3.hst.sub h4, fun p np => q p S3 _ ((e1.tr e2).tr e3) (st3.hst.free np).2 ⟨st3.hst.newM np ⟨_, rfl, ?_⟩, st3.sl⟩⟩
  have r5 : RelA X.K S3 (xs.map .d) vs := r4.ra
  unfold cutV cutS
  rw [r5.len]
  exact (r5.drop _).take _
/-- a list of one's own that is not written any more -/
theorem e_frz {p : Addr} {xs : List D} (h : jE X G e ρ M (.o p) M1) (hp : M1 p = some (.lst (xs.map SV.d))) : jE X G e ρ M (.d (.list xs)) (mdel M1 p) := fun S H σ st Q q => h S H σ st Q fun v S1 H1 e1 st1 r1 => by
  obtain rfl : v = .ref p := r1
  obtain ⟨nS, o, ho, vs, rfl, r⟩ := st1.hst.own p _ hp
  have e2 : Sub S1 (upd S1 p (.lst vs)) := Evl.Ex.new nS
  exact q _ _ H1 (e1.tr e2) ⟨st1.hst.freeze hp ho, st1.sl.mono e2⟩ ⟨p, vs, rfl, upd_same, RpA.mono e2 _ _ r.ds⟩
end
section
variable {M : MM}
theorem ls_map {α : Type} {xs : List α} {f : α → D} : LsV M (.d (.list (xs.map f))) (xs.map fun x => .d (f x)) := by
  show _ = _
  rw [List.map_map]; rfl
theorem ls_lI {ns : List Int} : LsV M (.d (lI ns)) (isv ns) := ls_map
theorem ls_lT {xs : List (List Int)} : LsV M (.d (lT xs)) (tsv xs) := ls_map
theorem ls_bs {bs : List Bool} : LsV M (.d (.list (bs.map PyData.bool))) (bs.map fun b => .d (.bool b)) := ls_map
end
theorem outs_some {α : Type} (f : Nat → α) (g : α → SV) (n : Nat) : outs (fun i => some (g (f i))) n = ((List.range n).map f).map g := by
  unfold outs
  rw [List.map_map, ← List.filterMap_eq_map]
  rfl
theorem atI_toNat {α : Type} {xs : List α} {i : Int} {d : α} (h0 : 0 ≤ i) (h : xs[i.toNat]? = some d) : atI xs i = some d := by
  have := atI_nat (xs := xs) (j := i.toNat) h
  rwa [Int.toNat_of_nonneg h0] at this
theorem enD_int {xs : List Int} {i : Nat} {d : SV} (h : (enD (xs.map PyData.int))[i]? = some d) : i < xs.length ∧ d = .d (.tuple [.int (i : Nat), .int (xs.getD i 0)]) := by
  have hi : i < xs.length := by
    have := (List.getElem?_eq_some_iff.mp h).1
    simpa [enD_len] using this
  refine ⟨hi, ?_⟩
  rw [enD_at (by simpa using hi)] at h
  rw [← Option.some.inj h]
  simp [List.getD, hi]
theorem getD_at {ys : List Int} {i : Nat} (h : i < ys.length) : atI (ys.map PyData.int) (i : Nat) = some (.int (ys.getD i 0)) := by
  refine atI_nat ?_
  simp [h]
theorem bk {N ps : List Str} {sc : Scope} (_ : FnScope N ps sc) {N' : List Str} {sc' scope : Scope} {own : List (Str × Nat)} (h : blkC N sc scope own = true) (e1 : N' = N := by rfl) (e2 : sc' = sc := by rfl) : BlkOk N' sc' scope own := by
  subst e1; subst e2; exact blkOk_by h
theorem rgD_at {lo : Int} {n i : Nat} {d : SV} (h : (rgD lo n)[i]? = some d) : i < n ∧ d = .d (.int (lo + (i : Nat))) := by
  have hi : i < n := by
    have := (List.getElem?_eq_some_iff.mp h).1
    simpa [rgD] using this
  refine ⟨hi, ?_⟩
  simp [rgD, hi] at h
  exact h.symm
theorem map_at {α : Type} {f : α → D} {xs : List α} {i : Nat} {d : SV} (z : α) (h : ((xs.map f).map SV.d)[i]? = some d) : i < xs.length ∧ d = .d (f (xs.getD i z)) := by
  have hi : i < xs.length := by
    have := (List.getElem?_eq_some_iff.mp h).1
    simpa using this
  refine ⟨hi, ?_⟩
  simp [hi] at h
  simp [hi, ← h]
theorem range_getD {α β : Type} (xs : List α) (z : α) (f : α → β) : (List.range xs.length).map (fun i => f (xs.getD i z)) = xs.map f := by
  refine List.ext_getElem (by simp) fun i h1 h2 => ?_
  simp at h1
  simp [h1]
/-- what a comprehension without tests makes of a list -/
theorem outs_map {α : Type} (xs : List α) (z : α) (f : α → SV) : outs (fun i => some (f (xs.getD i z))) xs.length = xs.map f := by
  rw [outs_some (fun i => xs.getD i z) f, List.map_map]
  exact range_getD xs z f
/-- with a test -/
theorem outs_filter {α : Type} (xs : List α) (z : α) (p : α → Bool) (f : α → SV) : outs (fun i => if p (xs.getD i z) then some (f (xs.getD i z)) else none) xs.length = (xs.filter p).map f := by
  unfold outs
  have e : ∀ n, n ≤ xs.length → (List.range n).filterMap (fun i => if p (xs.getD i z) then some (f (xs.getD i z)) else none) = ((xs.take n).filter p).map f := by
    intro n
    induction n with
    | zero => simp
    | succ n ih =>
      intro h
      rw [List.range_succ, List.filterMap_append, ih (by omega), List.take_succ_eq_append_getElem (by omega), List.filter_append, List.map_append]
      congr 1
      have : xs.getD n z = xs[n] := by simp [List.getD, show n < xs.length by omega]
      simp only [List.filterMap_cons, List.filterMap_nil, this]
      by_cases hp : p xs[n] = true
      · simp [hp]
      · simp [hp]
  rw [e xs.length (Nat.le_refl _), List.take_length]
end NL
set_option Elab.async false
set_option linter.all false
set_option maxRecDepth 100000
set_option maxHeartbeats 4000000
namespace NL
open PySem PySem.Spec L2
open PyProof.Rows hiding St
inductive Pr2 {α β : Type} (R : α → β → Prop) : List α → List β → Prop where
  | nil : Pr2 R [] []
  | cons {a b as bs} (h : R a b) (t : Pr2 R as bs) : Pr2 R (a :: as) (b :: bs)
theorem Pr2.len {α β : Type} {R : α → β → Prop} : ∀ {xs : List α} {ys : List β}, Pr2 R xs ys → xs.length = ys.length
  | _, _, .nil => rfl
  | _, _, .cons _ t => by rw [List.length_cons, List.length_cons, t.len]
theorem RpA.pr {K : PySem.W.Frag} {S : Hp} : ∀ {ds : List D} {vs : List V}, RpA K S ds vs → Pr2 (fun v d => Rp K S d v) vs ds
  | [], _, h => by subst h; exact .nil
  | _ :: _, _, ⟨v, r, h1, h2, h3⟩ => by subst h1; exact .cons h2 h3.pr
theorem Pr2.rp {K : PySem.W.Frag} {S : Hp} : ∀ {ds : List D} {vs : List V}, Pr2 (fun v d => Rp K S d v) vs ds → RpA K S ds vs
  | _, _, .nil => rfl
  | _, _, .cons h t => ⟨_, _, rfl, h, t.rp⟩
def rSortP (K : PySem.W.Frag) : List V → Hp → VK → Prop := fun vs H Q => ∃ (a : Addr) (xs : List V) (ds : List D) (R : V → D → Prop), vs = [V.ref a] ∧ SqL K H a xs ∧ Pr2 R xs ds ∧ (∀ x d, d ∈ ds → R x d → Dp K H x d) ∧ PySem.W.AllAlike ds ∧ PySem.W.Sortable ds ∧ (∀ d ∈ ds, d.depth ≤ 60) ∧
  ∀ (p : Addr) (ys : List V), H p = none → Pr2 R ys (ds.mergeSort (PySem.W.dataLe false id)) → Q (.ref p) (upd H p (.lst ys))
theorem eachP {R : V → D → Prop} : ∀ {xs : List V} {ds : List D} {us : List Value}, Pr2 R xs ds → Vals xs us → PySem.W.EachIs (fun v d => ∃ x, RelV x v ∧ R x d) us ds
  | _, _, _, .nil, .nil => .nil
  | _, _, _, .cons h t, .cons r rt => .cons ⟨_, r, h⟩ (eachP t rt)
theorem ofEachP {R : V → D → Prop} : ∀ {us : List Value} {ds : List D}, PySem.W.EachIs (fun v d => ∃ x, RelV x v ∧ R x d) us ds → ∃ xs, Vals xs us ∧ Pr2 R xs ds
  | _, _, .nil => ⟨[], .nil, .nil⟩
  | _, _, .cons ⟨x, r, h⟩ t => let ⟨xs, a, b⟩ := ofEachP t; ⟨x :: xs, .cons r a, .cons h b⟩
section
variable {X : Cx}
theorem readP {R : V → D → Prop} {pins : List (Addr × Obj)} {σ : L2.St} {H : Hp} {s : Shared} (I : Inv X pins σ H s) : ∀ {xs : List V} {ds : List D} {us : List Value}, (∀ x d, d ∈ ds → R x d → Dp X.K H x d) → Pr2 R xs ds → Vals xs us → PySem.W.EachIs (fun v b => ∃ as, Reads s.heap v (id b) as) us ds
  | _, _, _, _, .nil, .nil => .nil
  | _, _, _, k, .cons h t, .cons r rt => .cons (Dp.reads I _ _ _ (k _ _ (List.mem_cons_self ..) h) r) (readP I (fun x d hd => k x d (List.mem_cons_of_mem _ hd)) t rt)
theorem cr_sortP (hu : X.A.units + 64 < cLine) : CallR X (.builtin "sorted") (rSortP X.K) := by
  intro pins s σ H vs us Q I r h
  obtain ⟨a, xs, ds, R, rfl, hs, hp, hR, hal, hk, hdp, q⟩ := h
  rw [Vals.ref1 r]
  obtain ⟨its, rv, hl, hz⟩ := I.list hs
  have hlen : ds.length ≤ sizeLine := by rw [← hp.len]; exact hz
  refine PySem.W.sorted_data (enc := id) (bs := ds) hl.isList (eachP hp rv) (readP I hR hp rv) (by rw [List.map_id]; exact hal) (by rw [List.map_id]; exact hk) hlen (fun b hb => ?_) fun out hlo hout => ?_
  · have h1 := hdp b hb
    show X.A.units + 2 + b.depth < cLine
    omega
  · obtain ⟨ys, rys, hys⟩ := ofEachP hout
    obtain ⟨ep, he'⟩ := PyProof.Rows.sortedAll_at s.heap its out.toArray
    have hln : ys.length ≤ sizeLine := by rw [rys.length, hlo]; exact hlen
    have new : ObjOk X.prog X.w (upd H (s.heap.objs.size + 1) (.lst ys)) (PyProof.Rows.sortedAll s.heap its out.toArray) (s.heap.objs.size + 1) (.lst ys) := ⟨hln, out, ep, rys, by simpa using he'⟩
    exact ⟨.ref _, upd H (s.heap.objs.size + 1) (.lst ys), I.laid (t' := s.toks) (fun _ _ => PyProof.Rows.sortedAll_old) (Nat.le_succ _) new, rfl, q _ ys (I.hok.fresh (Nat.le_succ _)) hys⟩
end
def tLe (a b : List Int) : Bool := PySem.W.dataLe false id (tI a) (tI b)
def sortT (xs : List (List Int)) : List (List Int) := xs.mergeSort tLe
theorem sortT_perm (xs : List (List Int)) : (sortT xs).Perm xs := List.mergeSort_perm _ _
theorem alike_ints : ∀ ns ms : List Int, PySem.W.alikeAll (ns.map .int) (ms.map .int) = true
  | [], _ => by simp [PySem.W.alikeAll]
  | _ :: _, [] => by simp [PySem.W.alikeAll]
  | n :: ns, m :: ms => by simp [PySem.W.alikeAll, PySem.W.alike, alike_ints ns ms]
theorem nodct_tI (ns : List Int) : nodct (tI ns) = true := by simp [tI, nodct, nodct_ints]
section
variable {X : Cx} {G : Gh} {M : MM}
theorem c_sortT {s : SV} {xs : List (List Int)} (hu : X.A.units + 64 < cLine) (h : LsV M s (tsv xs)) (hn : ∀ t ∈ xs, t ≠ []) : JCL X G (.builtin "sorted") M [s] (tsv (sortT xs)) M := ⟨_, cr_sortP hu, fun S H σ ρ us st r Q q => by
  obtain ⟨v, r', rfl, hv, rfl⟩ := r
  rw [tsv_eq] at h
  obtain ⟨a, vs, rfl, ha, hr⟩ := lsv_at st h hv
  refine ⟨a, vs, xs.map tI, _, rfl, SqL.of ha, (RelA.ds hr).pr, fun x d hd hx => ?_, ?_, .inl ?_, ?_, fun p ys np hy => ?_⟩
  · obtain ⟨t, _, rfl⟩ := List.mem_map.mp hd
    exact Rp.dp (nodct_tI t) (Rp.mono st.hst.sub _ _ hx)
  · intro d hd d' hd'
    obtain ⟨t, _, rfl⟩ := List.mem_map.mp hd
    obtain ⟨t', _, rfl⟩ := List.mem_map.mp hd'
    exact alike_ints t t'
  · intro d hd
    obtain ⟨t, ht, rfl⟩ := List.mem_map.mp hd
    cases t with
    | nil => exact absurd rfl (hn _ ht)
    | cons x t => exact ⟨_, _, rfl⟩
  · intro d hd
    obtain ⟨t, _, rfl⟩ := List.mem_map.mp hd
    exact Nat.le_trans (ok_tI t).dep (by decide)
  · have e : (xs.map tI).mergeSort (PySem.W.dataLe false id) = (sortT xs).map tI := (List.map_mergeSort (r := tLe) (s := PySem.W.dataLe false id) (f := tI) (l := xs) fun a _ b _ => rfl).symm
    rw [e] at hy
    refine q p S _ (Sub.rfl' S) (st.hst.free np).2 ⟨st.hst.newM np ⟨_, rfl, ?_⟩, st.sl⟩
    rw [tsv_eq]
    exact hy.rp.ra⟩
end
section
variable {X : Cx} {G : Gh} {ρ : List SV} {M M1 M2 : MM} {P : Post} {e e2 c a b : Expr} {d : SV} {ds : List SV} {pos p' p1 p2 p3 : Pos} {k : Bool} {Φ : SV → MM → Prop}
theorem n_if (hc : jT X G c ρ M k M1) (h1 : k = true → nE X G a ρ M1 Φ) (h2 : k = false → nE X G b ρ M1 Φ) : nE X G (.IfExp c a b pos) ρ M Φ := fun S H σ st Q q =>
  PE.go (pe_ifExp ptS peS peS) (hc S H σ st _ fun S1 H1 e1 st1 => by
    cases k with
    | true => exact iteT (h1 rfl S1 H1 σ st1 Q fun d M' v S2 H2 f e2 st2 r => q d M' v S2 H2 f (e1.tr e2) st2 r)
    | false => exact iteF (h2 rfl S1 H1 σ st1 Q fun d M' v S2 H2 f e2 st2 r => q d M' v S2 H2 f (e1.tr e2) st2 r))
theorem retN (he : nE X G e ρ M P.rt) : jS X G (.Return (some e) pos) ρ M P := s_retN he fun d M' k => ⟨M', MLe.rfl' _, k⟩
end
theorem cutS_0 {α : Type} (xs : List α) (f : α → SV) (h : Int) (h0 : 0 ≤ h) : cutS (xs.map f) none (some h) = (xs.take h.toNat).map f := by
  unfold cutS
  have e : HT.sIx (xs.map f).length (xs.map f).length (some h) = min h.toNat xs.length := by
    show (if h < 0 then _ else _) = _
    rw [if_neg (by omega), List.length_map]
  have e0 : HT.sIx (xs.map f).length 0 none = 0 := rfl
  rw [e, e0, List.drop_zero, Nat.sub_zero, ← List.map_take]
  congr 1
  rcases Nat.le_total h.toNat xs.length with l | l
  · rw [Nat.min_eq_left l]
  · rw [Nat.min_eq_right l, List.take_length, List.take_of_length_le l]
theorem atI_map {α β : Type} (f : α → β) (xs : List α) (z : α) {i : Nat} (h : i < xs.length) : atI (xs.map f) (i : Nat) = some (f (xs.getD i z)) := by
  refine atI_nat ?_
  simp [h]
def lL (xs : List (List Int)) : D := .list (xs.map lI)
theorem ls_lL {M : MM} {xs : List (List Int)} : LsV M (.d (lL xs)) (xs.map fun r => .d (lI r)) := ls_map
theorem outs_range (f : Nat → D) (n : Nat) : outs (fun i => some (.d (f i))) n = ((List.range n).map f).map SV.d := outs_some f SV.d n
theorem getD_in {α : Type} {xs : List α} {z : α} {i : Nat} (h : i < xs.length) : xs.getD i z ∈ xs := by
  rw [List.getD, List.getElem?_eq_getElem h]
  exact List.getElem_mem h
end NL
set_option Elab.async false
set_option linter.all false
set_option maxRecDepth 100000
set_option maxHeartbeats 4000000
namespace NL
open PySem PySem.Spec L2
open PyProof.Rows hiding St
section
variable {P : Program} {w : World} {A : Around} {E : Value → Shared → Prop} {s : Shared} {a : Addr} {L : List (Addr × List Int)} {es : Array (Int × Value)} {ep : Nat} {t : SetTable}
/-- the c-th stand of a search -/
abbrev stn (m : Nat) (h : Int) (c : Nat) : SetTable.Probe := nth m (runAt m (SetTable.bits h % (m + 1)) (SetTable.bits h)) c
theorem stn_more (m : Nat) (h : Int) (c q : Nat) : nth m (stn m h c) q = stn m h (c + q) := (nth_add m c _ q).symm
theorem stn_way (m : Nat) (h : Int) (c q : Nat) : (nth m (stn m h c) q).j = way m h (c + q) := congrArg SetTable.Probe.j (stn_more m h c q)
theorem nth_dm (m : Nat) : ∀ (n : Nat) (p : SetTable.Probe), p.dummy = none → (nth m p n).dummy = none
  | 0, _, h => h
  | n + 1, p, h => nth_dm m n (adv m p) (by unfold adv; split <;> exact h)
theorem look_from {x : Addr} {k : List Int} {K : Nat} {Q : SetFound → Shared → Prop} (R : SetTR P w s.heap a L es ep t) (tx : IsT P w s.heap k x) (un : A.units < cLine) (kb : K < 10 * SetTable.turns t.mask) (free : way t.mask (thash P w k) K ∉ t.place.toList) (full : ∀ c, c < K → way t.mask (thash P w k) c ∈ t.place.toList)
    (yes : k ∈ L.map (·.2) → ∀ i, Q (.there (some i)) s) (no : k ∉ L.map (·.2) → ∀ j b, Q (.free j b) s) : ∀ (f c : Nat) (sd : Option SetTable.Probe), sd.getD (t.probeStart (thash P w k)) = stn t.mask (thash P w k) c → c ≤ K → K - c < f →
      (∀ (i : Nat) p, L[i]? = some p → p.2 = k → ∃ c2, c ≤ c2 ∧ c2 < K ∧ t.place.toList[i]? = some (way t.mask (thash P w k) c2)) → wpAny (model P w) A (setSearchFrom a (.ref x) (thash P w k) false f sd) Q E s
  | 0, _, _, _, _, z, _ => absurd z (Nat.not_lt_zero _)
  | f + 1, c, sd, hsd, hc, hf, ahead => by
    obtain ⟨ob, hob, _, hdt⟩ := R.ob
    have hAt : ∀ (i : Nat) p, L[i]? = some p → (fun i => (es[i]?.map (·.1)).getD 0) i = thash P w p.2 := fun i p hp => by
      show (es[i]?.map (·.1)).getD 0 = _
      rw [R.entry hp]; rfl
    have spec := go_spec t R.tab.ris R.tab.dm (fun i => (es[i]?.map (·.1)).getD 0) (thash P w k) (10 * SetTable.turns t.mask) (K - c) (stn t.mask (thash P w k) c) (nth_dm _ c _ rfl) (by omega)
      (fun q hq => (stn_way t.mask (thash P w k) c q).symm ▸ full (c + q) (by omega)) ((stn_way t.mask (thash P w k) c (K - c)).symm ▸ (show c + (K - c) = K by omega).symm ▸ free)
    rw [setSearchFrom_succ]
    refine wpAny_bind (wpAny_setState_of hob hdt R.fits ?_)
    dsimp only
    refine wp_if_neg R.gw ?_
    try refine wpAny_bind (wpAny_pure ?_)
    rcases spec with ⟨q, i, hq, hi, _, first, met⟩ | ⟨none_, met⟩
    · rw [stn_way] at hi
      have hm : t.probe (fun i => (es[i]?.map (·.1)).getD 0) (thash P w k) (sd.getD (t.probeStart (thash P w k))) = some (.candidate (way t.mask (thash P w k) (c + q)) i (stn t.mask (thash P w k) (c + (q + 1)))) := by
        rw [hsd, ← stn_way, ← stn_more]; exact met
      rw [hm]
      dsimp only
      have il : i < L.length := by
        have h1 := (List.getElem?_eq_some_iff.mp hi).1
        have h2 := R.tab.sz
        rw [Array.length_toList] at h1
        rw [List.length_map] at h2
        omega
      obtain ⟨p, hpe⟩ : ∃ p, L[i]? = some p := ⟨_, List.getElem?_eq_getElem il⟩
      have pin : p ∈ L := List.mem_of_getElem? hpe
      have live : t.slot (way t.mask (thash P w k) (c + q)) = .live i := slot_live R.tab.ris hi
      have go : wpAny (model P w) A (searchRest a (.ref x) (thash P w k) false f es t (way t.mask (thash P w k) (c + q)) i (stn t.mask (thash P w k) (c + (q + 1)))) Q E s := by
        unfold searchRest
        rw [R.entry hpe]
        dsimp only
        refine wpAny_bind (wpAny_holding (wpAny_eqBool_tuple un (R.tup p pin) tx ?_))
        refine wpAny_bind (wpAny_setState_of hob hdt R.fits ?_)
        dsimp only
        refine wp_if_neg (by simp) ?_
        try refine wpAny_bind (wpAny_pure ?_)
        rw [sameMem]
        dsimp only
        simp only [if_true, live, R.entry hpe]
        refine wpAny_bind (wpAny_isSame_ref_self (wpAny_bind (wpAny_pure ?_)))
        simp only [if_true]
        by_cases ek : p.2 = k
        · exact wp_if_pos (by simp [ek]) (wpAny_pure (yes (List.mem_map.mpr ⟨p, pin, ek⟩) i))
        · refine wp_if_neg (by simp [ek]) (look_from R tx un kb free full yes no f (c + (q + 1)) _ rfl (by omega) (by omega) fun i2 p2 h2 e2 => ?_)
          obtain ⟨c2, l1, l2, l3⟩ := ahead i2 p2 h2 e2
          have hh := (hAt i2 p2 h2).trans (congrArg (thash P w) e2)
          refine ⟨c2, ?_, l2, l3⟩
          by_cases z : c2 < c + q
          · exact absurd hh (first (c2 - c) i2 (by omega) (by rw [stn_way, show c + (c2 - c) = c2 by omega]; exact l3))
          · by_cases z2 : c2 = c + q
            · rw [z2] at l3
              have s2 := slot_live R.tab.ris l3
              rw [live] at s2
              injection s2 with s2
              rw [← s2, hpe] at h2
              exact absurd ((congrArg Prod.snd (Option.some.inj h2)).trans e2) ek
            · omega
      cases hl : t.led with
      | true =>
        refine wp_if_neg (by simp [hl]) ?_
        try refine wpAny_bind (wpAny_pure ?_)
        exact go
      | false =>
        refine wp_if_pos (by simp [hl]) (wpAny_bind (seen_tup tx (fun y hy => ?_) ?_))
        · obtain ⟨en, hen, rfl⟩ := List.mem_map.mp hy
          have h1 : en ∈ es.toList := by
            have : en ∈ es ∧ en.1 = thash P w k := by simpa using hen
            simpa using this.1
          rw [R.rows] at h1
          obtain ⟨p3, h3, rfl⟩ := List.mem_map.mp h1
          exact ⟨p3.2, p3.1, rfl, R.tup p3 h3⟩
        · refine wp_if_neg (by decide) ?_
          try refine wpAny_bind (wpAny_pure ?_)
          exact go
    · have hm : t.probe (fun i => (es[i]?.map (·.1)).getD 0) (thash P w k) (sd.getD (t.probeStart (thash P w k))) = some (.empty (way t.mask (thash P w k) K) none) := by
        have e2 := stn_way t.mask (thash P w k) c (K - c)
        rw [show c + (K - c) = K by omega] at e2
        rw [hsd, ← e2]; exact met
      rw [hm]
      dsimp only
      refine wpAny_pure (no (fun z => ?_) _ _)
      obtain ⟨p0, h0, e0⟩ := List.mem_map.mp z
      obtain ⟨i0, hi0, e1⟩ := List.getElem_of_mem h0
      have h00 : L[i0]? = some p0 := e1 ▸ List.getElem?_eq_getElem hi0
      obtain ⟨c2, l1, l2, l3⟩ := ahead i0 p0 h00 e0
      exact none_ (c2 - c) i0 (by omega) (by rw [stn_way, show c + (c2 - c) = c2 by omega]; exact l3) ((hAt i0 p0 h00).trans (congrArg (thash P w) e0))
theorem look_find {x : Addr} {k : List Int} {Q : Option Nat → Shared → Prop} (R : SetTR P w s.heap a L es ep t) (tx : IsT P w s.heap k x) (un : A.units < cLine) (h : ∀ r : Option Nat, r.isSome = decide (k ∈ L.map (·.2)) → Q r s) : wpAny (model P w) A (setFind a (.ref x) (thash P w k)) Q E s := by
  obtain ⟨ob, hob, _, hdt⟩ := R.ob
  have hroom := R.room
  obtain ⟨K, k1, k2, k3⟩ := R.tab.first (by rw [List.length_map]; omega) (thash P w k)
  unfold setFind
  rw [show (100000 : Nat) = 99999 + 1 from rfl]
  unfold setFindIn
  refine wpAny_bind (wpAny_setState_of hob hdt R.fits ?_)
  dsimp only
  refine wp_if_neg (by simp [byScan, Value.scannable]) ?_
  try refine wpAny_bind (wpAny_pure ?_)
  unfold setSearch
  refine wpAny_bind (look_from R tx un k1 k2 k3 (fun hm i => ?_) (fun hm j b => ?_) 100000 0 none rfl (Nat.zero_le _) ?_ fun i p hp hk => ?_)
  · exact wpAny_pure (h _ (by simp [hm]))
  · exact wpAny_pure (h _ (by simp [hm]))
  · have : 10 * SetTable.turns t.mask ≤ 1420 := by
      unfold SetTable.turns
      rcases R.tab.mok with e | e | e <;> omega
    omega
  · have hi : (L.map fun p => thash P w p.2)[i]? = some (thash P w k) := by rw [List.getElem?_map, hp, ← hk]; rfl
    have il : i < t.place.toList.length := by
      have h1 := (List.getElem?_eq_some_iff.mp hp).1
      have h2 := R.tab.sz
      rw [List.length_map] at h2
      rw [Array.length_toList]
      omega
    obtain ⟨c, hc, e⟩ := R.tab.before k2 hi (List.getElem?_eq_getElem il)
    exact ⟨c, Nat.zero_le _, hc, by rw [e]; exact List.getElem?_eq_getElem il⟩
theorem SetTR.tyS (R : SetTR P w s.heap a L es ep t) : s.TypeIs (.ref a) "set" := by
  obtain ⟨ob, hob, hex, _⟩ := R.ob
  exact ⟨ob, hob, hex.1⟩
theorem look_in {x : Addr} {k : List Int} {Q : Value → Shared → Prop} (R : SetTR P w s.heap a L es ep t) (tx : IsT P w s.heap k x) (un : A.units + 8 < cLine) (h : ∀ tk, Q (.bool (decide (k ∈ L.map (·.2)))) { s with toks := tk }) : wpAny (model P w) A (compareOp .In (.ref x) (.ref a)) Q E s := by
  show wpAny _ _ (do return .bool (← contains (.ref a) (.ref x))) Q E s
  refine wpAny_bind ?_
  unfold contains
  try with_reducible refine wpAny_holding ?_
  have ty := SetTR.tyS R
  refine wpAny_bind (wpAny_specialOf ty F.slot_set_contains.lookup ?_)
  show wpAny _ _ (if (some (Value.builtin "set.__contains__") == some Value.none) = true then _ else _) _ E s
  rw [if_neg (by rw [beq_builtin_none]; decide)]
  refine wpAny_bind (wpAny_callSpecialUnlessNone?_slot (name := Str.ofString "__contains__") ty F.slot_set_contains (wpAny_call_entry F.slot_set_contains ty entry_set_contains ?_ (F.args_set_contains_2 _ _)))
  unfold Builtin.«frozenset.__contains__» Builtin.Frozenset.oneOther
  simp only [List.isEmpty_nil, bind_assoc]
  unfold Builtin.Frozenset.addrOf Builtin.Frozenset.withSetAsKey setContains
  refine wpAny_bind (wpAny_pure ?_)
  try dsimp only
  refine wpAny_bind (wpAny_pure ?_)
  try dsimp only
  refine wpAny_bind (wpAny_tryCatch ?_)
  refine wpAny_holding (wpAny_bind (wpAny_pyHash_tuple ?_ tx ?_))
  · show A.units + 1 < cLine; omega
  refine wpAny_bind (look_find (s := { s with toks := s.toks + (k.length + 1) }) R tx ?_ fun r hr => ?_)
  · show A.units + 1 < cLine; omega
  refine wpAny_pure ?_
  show wpAny _ _ (PySem.ret (Value.bool r.isSome)) _ _ _
  rw [hr]
  exact wpAny_pure ⟨_, rfl, wpAny_truthy_bool (wpAny_pure (h _))⟩
theorem look_add {x : Addr} {k : List Int} {Q : Value → Shared → Prop} (R : SetTR P w s.heap a L es ep t) (tx : IsT P w s.heap k x) (un : A.units + 8 < cLine) (few : L.length + 1 < 64)
    (h : ∀ h2 tk L2 e2 p2 t2, Heap.SameBut a s.heap h2 → SetTR P w h2 a L2 e2 p2 t2 → (k ∈ L.map (·.2) → L2 = L) → (k ∉ L.map (·.2) → L2.Perm ((x, k) :: L)) → Q .none { s with heap := h2, toks := tk }) :
    wpAny (model P w) A (PySem.call (.builtin "set.add") [.ref a, .ref x]) Q E s := by
  refine wpAny_call_entry F.slot_set_add (SetTR.tyS R) F.entry_set_add ?_ (F.args_set_add_2 _ _)
  unfold Builtin.«set.add» Builtin.Frozenset.oneOther
  simp only [List.isEmpty_nil, bind_assoc]
  unfold Builtin.Frozenset.addrOf setAdd
  refine wpAny_bind (wpAny_pure ?_)
  try dsimp only
  refine wpAny_bind (wpAny_pure ?_)
  try dsimp only
  refine wpAny_bind (wpAny_holding (wpAny_bind (wpAny_pyHash_tuple (by show A.units + 1 < cLine; omega) tx ?_)))
  refine add_at (s := { s with toks := s.toks + (k.length + 1) }) R tx (by show A.units + 1 < cLine; omega) few fun b h2 L2 e2 p2 t2 sb R2 c1 c2 => ?_
  show wpAny _ _ (PySem.ret Value.none) _ _ _
  exact wpAny_pure ⟨_, rfl, h h2 _ L2 e2 p2 t2 sb R2 c1 c2⟩
end
section
variable {X : Cx}
def rSet0T (P : Program) (w : World) : List V → Hp → VK → Prop := fun xs H Q => xs = [] ∧ ∀ p, H p = none → Q (.ref p) (upd H p (SetTO P w p []))
theorem cr_set0T : CallR X (.type "set") (rSet0T X.prog X.w) := by
  intro pins s σ H xs us Q I r h
  obtain ⟨rfl, q⟩ := h
  cases r
  refine setR_new fun _ => ?_
  have R : SetTR X.prog X.w (s.heap.push { cls := .type "set", dict := none, data := .set #[] 0 (.fresh 0 0 (!X.w.params.followText "set-order")) }) s.heap.objs.size [] #[] 0 (.fresh 0 0 (!X.w.params.followText "set-order")) := setTR_fresh (Heap.get?_push_size _ rfl)
  exact ⟨.ref _, _, I.laid (t' := s.toks) (fun b u e => Heap.get?_push_of_some _ e) (Nat.le_refl _) (setTO_new R.t0), rfl, q _ (I.hok.fresh (Nat.le_refl _))⟩
def rTIn (K : PySem.W.Frag) (P : Program) (w : World) : R2 := fun x y H Q => ∃ (t a : Addr) (k : List Int) (L : List (Addr × List Int)), x = .ref t ∧ y = .ref a ∧ SqT K H t (k.map V.int) ∧ H a = some (SetTO P w a L) ∧ (∀ p ∈ L, SqT K H p.1 (p.2.map V.int)) ∧ Q (.bl (decide (k ∈ L.map (·.2)))) H
theorem full_set {pins : List (Addr × Obj)} {σ : L2.St} {H : Hp} {s : Shared} {a : Addr} {L : List (Addr × List Int)} (I : Inv X pins σ H s) (ha : H a = some (SetTO X.prog X.w a L)) (hL : ∀ p ∈ L, SqT X.K H p.1 (p.2.map V.int)) : ∃ es ep t, SetTR X.prog X.w s.heap a L es ep t :=
  SetT0.full (I.hok a _ ha).1 fun p hp => I.isT (hL p hp)
theorem or_tin (hu : X.A.units + 64 < cLine) : OpR X (compareOp .In) (rTIn X.K X.prog X.w) := by
  intro pins s σ H x y v u Q I rx ry h
  obtain ⟨t, a, k, L, rfl, rfl, ht, ha, hL, q⟩ := h
  cases rx; cases ry
  obtain ⟨es, ep, tb, R⟩ := full_set I ha hL
  exact look_in R (I.isT ht) (by omega) fun tk => ⟨.bl _, H, I.tok tk, rfl, q⟩
def rTAdd (K : PySem.W.Frag) (P : Program) (w : World) : V → List V → Hp → VK → Prop := fun x xs H Q => ∃ (t a : Addr) (k : List Int) (L : List (Addr × List Int)), x = .ref a ∧ xs = [.ref t] ∧ SqT K H t (k.map V.int) ∧ H a = some (SetTO P w a L) ∧ (∀ p ∈ L, SqT K H p.1 (p.2.map V.int)) ∧ L.length + 1 < 64 ∧
  ∀ L2, (k ∈ L.map (·.2) → L2 = L) → (k ∉ L.map (·.2) → L2.Perm ((t, k) :: L)) → Q .non (upd H a (SetTO P w a L2))
def tTAdd (K : PySem.W.Frag) (P : Program) (w : World) (to : TE) (t : TA) : TE := fun σ H Q => to σ H fun x H1 => (∃ a L, x = V.ref a ∧ H1 a = some (SetTO P w a L)) ∧ t σ H1 fun xs H2 => rTAdd K P w x xs H2 Q
variable {o e : Expr} {to : TE} {t : TA} {apos cpos : Pos}
theorem pe_tadd (hu : X.A.units + 64 < cLine) (ho : PE X o to) (ha : PA X [e] t) (hbase : attributeBase o "add" X.env (eval o X.env) = eval o X.env := by rfl)
    (hfew : ((backTo cpos (starEach [e] X.env)).all (fun x => !x.1) && (backToKw cpos (keywordEach [] X.env)).all (fun x => x.1.isSome) && decide ([e].length + ([] : List Keyword).length + (if ([] : List Keyword).isEmpty then 0 else 1) < 30)) = true := by rfl)
    (hline : (apos.endLine == cpos.line) = true := by rfl) (hs : starEach [e] X.env = (false, eval e X.env) :: starEach [] X.env := by rfl) (hpl : (backTo cpos (starEach [] X.env)).any (·.1) = false := by rfl) :
    PE X (.Call (.Attribute o "add" apos) [e] [] cpos) (tTAdd X.K X.prog X.w to t) := by
  refine ⟨fun pins s σ H Q I h => ?_⟩
  refine wpAny_Call_method_late hbase hfew hline rfl (thn (ho.run pins s σ H _ I h) fun v s1 ⟨x, H1, I1, r1, ty, q1⟩ => ?_)
  obtain ⟨a, L, rfl, ea⟩ := ty
  cases r1
  have R0 : SetT0 X.prog X.w s1.heap a L := (I1.hok a _ ea).1
  obtain ⟨es, ep, tb, ⟨ob, hob, hex, hdt⟩, _⟩ := R0.ex
  refine ⟨"set", "set.add", F.plainAttrs_set, F.slot_set_add, F.type_set_add, ⟨ob, hob, hex.1⟩, fun b hb => ?_, ?_⟩
  · cases hb
    exact ⟨ob, hob, hex.2.1⟩
  have hA := ha.run cpos pins s1 σ H1 _ I1 q1
  rw [hs] at hA ⊢
  refine Calls.callWith_builtin (by show (false || (backTo cpos (starEach [] X.env)).any (·.1)) = false; rw [hpl]; rfl) (Calls.evalArgs_plain ?_)
  refine thn hA fun us s2 ⟨vs, H2, I2, r2, q2⟩ => ?_
  obtain ⟨t, a', k, L', e1, rfl, ht, ha', hL, few, q⟩ := q2
  cases e1
  rw [Vals.ref1 r2]
  obtain ⟨es, ep, tb, R⟩ := full_set I2 ha' hL
  refine look_add R (I2.isT ht) (by omega) few fun h2 tk L2 e2 p2 t2 sb R2 c1 c2 => ?_
  have he : ∃ u, h2.get? a = some u := by
    obtain ⟨ob, hob, _⟩ := R2.ob
    exact ⟨ob, hob⟩
  exact ⟨.non, _, I2.write (e := a) (t' := tk) (by rw [ha']; trivial) (.inl rfl) (fun b u hb hu => (sb.2 b hb).trans hu) he (setTO_new R2.t0), rfl, q L2 c1 c2⟩
end
end NL
set_option Elab.async false
set_option linter.all false
set_option maxRecDepth 100000
set_option maxHeartbeats 4000000
namespace NL
open PySem PySem.Spec L2
open PyProof.Rows hiding St
section
variable {X : Cx} {G : Gh} {M M1 M2 : MM} {ρ : List SV}
theorem ne_s {x y : Str} : J2 X G (compareOp .NotEq) M (.d (.str x)) (.d (.str y)) (.d (.bool (!decide (x = y)))) M := ⟨_, op_ne, fun S H σ ρ u v st ru rv Q q => by
  obtain rfl : u = .str x := ru
  obtain rfl : v = .str y := rv
  refine ⟨rfl, ?_⟩
  have : decide (V.str x = V.str y) = decide (x = y) := by
    by_cases h : x = y
    · subst h; simp
    · rw [decide_eq_false h, decide_eq_false fun z => h (V.str.inj z)]
  rw [this]
  exact q _ S H (Sub.rfl' S) st rfl⟩
end
section
variable {X : Cx} {G : Gh} {M M1 M2 : MM} {ρ : List SV} {e : Expr} {pos p p2 : Pos} {n : Str} {T : String} {d : SV}
theorem e_ty (hm : X.mg n = none) (hv : bootBuiltins n = some (.type T) := by decide +kernel) (hg : Gl X n := by rfl) (hn : n ≠ "__name__" := by decide) (hdb : (n == ("__debug__" : Str)) = false := by decide) : jE X G (.Name n pos) ρ M (.v (.ty T)) M :=
  e_bltn hg hm hv rfl hn hdb
/-- what kind a piece of data is -/
def kindD : D → String
  | .none => "NoneType"
  | .bool _ => "bool"
  | .int _ => "int"
  | .str _ => "str"
  | .list _ => "list"
  | .tuple _ => "tuple"
  | .dict _ => "dict"
theorem ty_of {K : PySem.W.Frag} {S H : Hp} {d : D} {v : V} (e : Sub S H) (r : Rp K S d v) : TyX K H v (.type (kindD d)) := by
  cases d with
  | none => obtain rfl : v = .non := r; exact .base .non
  | bool b => obtain rfl : v = .bl b := r; exact .base (.bl b)
  | int b => obtain rfl : v = .int b := r; exact .base (.int b)
  | str b => obtain rfl : v = .str b := r; exact .base (.str b)
  | list b => obtain ⟨a, xs, rfl, h, _⟩ := r; exact .base (.lst (e _ _ h))
  | tuple b => obtain ⟨a, xs, rfl, h, _⟩ := r; exact .base (.tup (e _ _ h))
  | dict b => cases b with
    | nil => obtain ⟨a, rfl, h⟩ := r; exact .base (.dK (e _ _ h))
    | cons => exact r.elim
/-- the kind of any slot's value -/
def kindS (M : MM) : SV → Option String
  | .d d => some (kindD d)
  | .o a => match M a with | some (.lst _) => some "list" | _ => none
  | _ => none
theorem tyS_of {K : PySem.W.Frag} {G : Gh} {S H : Hp} {σ : L2.St} {ρ : List SV} {M : MM} {s : SV} {v : V} {t : String} (st : Sta K G S H σ ρ M) (r : Rel K S s v) (h : kindS M s = some t) : TyX K H v (.type t) := by
  cases s with
  | d d => cases h; exact ty_of st.hst.sub r
  | o a =>
    obtain rfl : v = .ref a := r
    simp only [kindS] at h
    cases e : M a with
    | none => rw [e] at h; cases h
    | some m =>
      rw [e] at h
      cases m with
      | lst xs =>
        cases h
        obtain ⟨_, o, ho, vs, rfl, _⟩ := st.hst.own a _ e
        exact .base (.lst ho)
      | raw _ => cases h
      | rel _ _ => cases h
  | _ => cases h
theorem c_isi {t : String} {b : Bool} (hk : kindS M d = some t) (h : kitB t T = some b) : JC X G (.builtin "isinstance") M [d, .v (.ty T)] (.d (.bool b)) M := ⟨_, call_isi, fun S H σ ρ us st r Q q => by
  obtain ⟨v, r1, rfl, hv, w, r2, rfl, hw, rfl⟩ := r
  obtain rfl : w = .ty T := hw
  exact ⟨v, .ty T, _, _, b, rfl, .ty T, tyS_of st hv hk, kit_ty h, q _ S H (Sub.rfl' S) st rfl⟩⟩
/-- isinstance(e, (A, B)) -/
theorem e_isi2 {A B : String} {a b : Str} {t : String} {k : Nat} {q1 q2 q3 pn : Pos} {r1 r2 : Bool} (he : jE X G e ρ M d M1) (hk : kindS M1 d = some t) (h1 : kitB t A = some r1) (h2 : kitB t B = some r2) (hi : X.mg "isinstance" = none) (ha : X.mg a = none) (hb : X.mg b = none)
    (va : bootBuiltins a = some (.type A) := by decide +kernel) (vb : bootBuiltins b = some (.type B) := by decide +kernel) (ga : Gl X a := by rfl) (gb : Gl X b := by rfl) (gi : Gl X "isinstance" := by rfl) (na : a ≠ "__name__" := by decide) (nb : b ≠ "__name__" := by decide)
    (da : (a == ("__debug__" : Str)) = false := by decide) (db : (b == ("__debug__" : Str)) = false := by decide)
    (s1 : starEach (e :: [.Tuple [.Name a q1, .Name b q2] k q3]) X.env = (false, eval e X.env) :: starEach [.Tuple [.Name a q1, .Name b q2] k q3] X.env := by rfl) (s2 : starEach [.Tuple [.Name a q1, .Name b q2] k q3] X.env = (false, eval (.Tuple [.Name a q1, .Name b q2] k q3) X.env) :: starEach [] X.env := by rfl)
    (s3 : starEach (.Name a q1 :: [.Name b q2]) X.env = (false, eval (.Name a q1) X.env) :: starEach [.Name b q2] X.env := by rfl) (s4 : starEach [.Name b q2] X.env = (false, eval (.Name b q2) X.env) :: starEach [] X.env := by rfl)
    (hpl : (backTo pos (starEach [.Tuple [.Name a q1, .Name b q2] k q3] X.env)).any (·.1) = false := by rfl) :
    jE X G (.Call (.Name "isinstance" pn) [e, .Tuple [.Name a q1, .Name b q2] k q3] [] pos) ρ M (.d (.bool (r1 || r2))) M1 := fun S H σ st Q q =>
  PE.go (pe_callB call_isiT gi hi (by decide +kernel) (pa_cons peS (pa_cons (pe_tup (pa_cons (pe_bltn (v := .ty A) ga ha va rfl na da) (pa_cons (pe_bltn (v := .ty B) gb hb vb rfl nb db) pa_nil s4) s3)) pa_nil s2) s1) (by decide) (by decide) s1 hpl) (he S H σ st _ fun u S1 H1 e1 st1 r1' => by
    refine ⟨sz_le (Nat.le_of_ble_eq_true rfl), fun tp np => ?_⟩
    have g : Sub H1 (upd H1 tp (.tup [.ty A, .ty B])) := Evl.Ex.new np
    have st2 : Sta X.K G S1 (upd H1 tp (.tup [.ty A, .ty B])) σ ρ M1 := ⟨st1.hst.grow g, st1.sl⟩
    refine ⟨u, tp, [.ty A, .ty B], _, [.type A, .type B], r1 || r2, rfl, upd_same, .cons (.ty A) (.cons (.ty B) .nil), tyS_of st2 r1' hk, ?_, q _ S1 _ e1 st2 rfl⟩
    refine kitAny_cons (kit_ty h1) (fun z => ?_) (fun z => by rw [z]; rfl)
    rw [z, Bool.false_or]
    refine kitAny_cons (kit_ty h2) (fun z => by rw [z]; exact kitAny_nil) (fun z => z))
end
end NL
set_option Elab.async false
set_option linter.all false
set_option maxRecDepth 100000
set_option maxHeartbeats 4000000
namespace NL
open PySem PySem.Spec L2
open PyProof.Rows hiding St
def jCN (X : Cx) (G : Gh) (r : List V → Hp → VK → Prop) (M : MM) (xs : List SV) (Φ : SV → MM → Prop) : Prop := ∀ S H σ ρ us, Sta X.K G S H σ ρ M → RelA X.K S xs us → ∀ Q : VK,
  (∀ d M' w S' H', Φ d M' → Sub S S' → Sta X.K G S' H' σ ρ M' → Rel X.K S' d w → Q w H') → r us H Q
def JCN (X : Cx) (G : Gh) (f : Value) (M : MM) (xs : List SV) (Φ : SV → MM → Prop) : Prop := ∃ r, CallR X f r ∧ jCN X G r M xs Φ
def semC (X : Cx) (f : Value) : List V → Hp → VK → Prop := fun vs H Q => ∀ pins s σ us, Inv X pins σ H s → Vals vs us → wpAny (model X.prog X.w) X.A (PySem.call f us) (EP X pins σ Q) X.xe s
theorem cr_sem {X : Cx} {f : Value} : CallR X f (semC X f) := fun pins s σ H vs us Q I r h => h pins s σ us I r
section
variable {X : Cx} {G : Gh} {ρ : List SV} {M M1 M2 M3 : MM} {P : Post} {e o c a b : Expr} {es : List Expr} {d x y z : SV} {ds : List SV} {pos p p' apos cpos : Pos} {Φ Ψ : SV → MM → Prop} {n : Str} {T : String} {f : Value} {k : Bool}
theorem jcn_of (h : JC X G f M ds z M2) (k : Φ z M2) : JCN X G f M ds Φ := by
  obtain ⟨r, hc, h⟩ := h
  exact ⟨r, hc, fun S H σ ρ us st ra Q q => h S H σ ρ us st ra Q fun w S' H' e1 st1 r1 => q z M2 w S' H' k e1 st1 r1⟩
theorem JCN.imp (h : JCN X G f M ds Φ) (k : ∀ d M', Φ d M' → Ψ d M') : JCN X G f M ds Ψ := by
  obtain ⟨r, hc, h⟩ := h
  exact ⟨r, hc, fun S H σ ρ us st ra Q q => h S H σ ρ us st ra Q fun d M' w S' H' g => q d M' w S' H' (k d M' g)⟩
theorem sem_go {us : List V} {S H : Hp} {σ : L2.St} (h : JCN X G f M ds Ψ) (st : Sta X.K G S H σ ρ M) (ra : RelA X.K S ds us) {Q : VK} (q : ∀ d M' w S' H', Ψ d M' → Sub S S' → Sta X.K G S' H' σ ρ M' → Rel X.K S' d w → Q w H') : semC X f us H Q := by
  obtain ⟨r, hc, h⟩ := h
  exact fun pins s σ' us' I rv => hc pins s σ' H us us' Q I rv (h S H σ ρ us st ra Q q)
theorem n_callT1 (he : nE X G e ρ M Φ) (k : ∀ d M1, Φ d M1 → JCN X G (.type T) M1 [d] Ψ) (hm : X.mg n = none) (hv : bootBuiltins n = some (.type T) := by decide +kernel) (hg : Gl X n := by rfl)
    (hn : n ≠ "__name__" := by decide) (hdb : (n == ("__debug__" : Str)) = false := by decide) (hs : starEach (e :: []) X.env = (false, eval e X.env) :: starEach [] X.env := by rfl) (hpl : (backTo pos (starEach [] X.env)).any (·.1) = false := by rfl) :
    nE X G (.Call (.Name n p) [e] [] pos) ρ M Ψ := fun S H σ st Q q =>
  PE.go (pe_callTy cr_sem hg hm hv (pa_cons peS pa_nil hs) hn hdb hs hpl) (he S H σ st _ fun d M1 v S1 H1 g e1 st1 r1 => sem_go (k d M1 g) st1 ⟨v, [], rfl, r1, rfl⟩ fun d2 M2 w S2 H2 g2 e2 st2 r2 => q d2 M2 w S2 H2 g2 (e1.tr e2) st2 r2)
theorem n_callB1 {id : String} (he : nE X G e ρ M Φ) (k : ∀ d M1, Φ d M1 → JCN X G (.builtin id) M1 [d] Ψ) (hm : X.mg n = none) (hv : bootBuiltins n = some (.builtin id) := by decide +kernel) (hg : Gl X n := by rfl)
    (hn : n ≠ "__name__" := by decide) (hdb : (n == ("__debug__" : Str)) = false := by decide) (hs : starEach (e :: []) X.env = (false, eval e X.env) :: starEach [] X.env := by rfl) (hpl : (backTo pos (starEach [] X.env)).any (·.1) = false := by rfl) :
    nE X G (.Call (.Name n p) [e] [] pos) ρ M Ψ := fun S H σ st Q q =>
  PE.go (pe_callB cr_sem hg hm hv (pa_cons peS pa_nil hs) hn hdb hs hpl) (he S H σ st _ fun d M1 v S1 H1 g e1 st1 r1 => sem_go (k d M1 g) st1 ⟨v, [], rfl, r1, rfl⟩ fun d2 M2 w S2 H2 g2 e2 st2 r2 => q d2 M2 w S2 H2 g2 (e1.tr e2) st2 r2)
theorem set_ntup {P : Program} {w : World} {a : Addr} {L : List (Addr × List Int)} : ∀ xs, SetTO P w a L ≠ .tup xs := fun _ h => nomatch h
def SetR2 (P : Program) (w : World) (a : Addr) (L : List (List Int)) (S : Hp) (o : HO) : Prop := ∃ Ls : List (Addr × List Int), o = SetTO P w a Ls ∧ (Ls.map (fun p => p.2)).Perm L ∧ ∀ p ∈ Ls, S p.1 = some (.tup (p.2.map V.int))
theorem SetR2.mono {P : Program} {w : World} {a : Addr} {L : List (List Int)} {S S' : Hp} {o : HO} (e : Sub S S') (h : SetR2 P w a L S o) : SetR2 P w a L S' o := by
  obtain ⟨Ls, h1, h2, h3⟩ := h
  exact ⟨Ls, h1, h2, fun p hp => e _ _ (h3 p hp)⟩
def mSet (P : Program) (w : World) (a : Addr) (L : List (List Int)) : MO := .rel (fun _ S o => SetR2 P w a L S o) (fun _ _ _ _ e h => h.mono e)
theorem tI_at {K : PySem.W.Frag} {S : Hp} {ns : List Int} {v : V} (r : Rp K S (tI ns) v) : ∃ a, v = .ref a ∧ S a = some (.tup (ns.map V.int)) := by
  obtain ⟨a, xs, rfl, h, hr⟩ := r
  rw [hr.ints_inv] at h
  exact ⟨a, rfl, h⟩
theorem s_set0 {i : Nat} {py : Pos} {m : Str} (k : ∀ q, M q = none → P.nx (ρ.set i (.o q)) (mset M q (mSet X.prog X.w q []))) (hm : X.mg "set" = none) (hN : X.N.Nodup) (hi : X.N[i]? = some m := by rfl) (hx : Loc X.env.scope m := by first | exact Or.inl rfl | exact Or.inr rfl) (hg : Gl X "set" := by rfl)
    (hs : swapsWith (.Call (.Name "set" p) [] [] cpos) (some (.Name m py)) pos.line X.env = pure false := by rfl) (hf : X.fn m = true ∨ X.env.scope.names.lookup m = some .local := by first | exact .inl rfl | exact .inr rfl) :
    jS X G (.Assign [.Name m py] (.Call (.Name "set" p) [] [] cpos) pos) ρ M P := fun S H σ s D f =>
  PS.go (ps_set hN hi hx (pe_callTy0 cr_set0T hg hm (by decide +kernel)) hs hf) ⟨rfl, fun q nq => f.nx S _ _ _ _ ⟨s.hst.newM (m := mSet X.prog X.w q []) nq ⟨⟨[], rfl, .nil, fun p hp => nomatch hp⟩, set_ntup⟩, s.sl.set (s := .o q) (v := some (.ref q)) rfl i⟩ (k q (s.hst.free nq).2)⟩
theorem in_set {t : List Int} {q : Addr} {L : List (List Int)} (hu : X.A.units + 64 < cLine) (h : M q = some (mSet X.prog X.w q L)) : J2 X G (compareOp .In) M (.d (tI t)) (.o q) (.d (.bool (decide (t ∈ L)))) M := ⟨_, or_tin hu, fun S H σ ρ u v st ru rv Q qq => by
  obtain ⟨a, rfl, ha⟩ := tI_at ru
  obtain rfl : v = .ref q := rv
  obtain ⟨_, o, ho, ⟨Ls, rfl, hp, hL⟩, _⟩ := st.hst.own q _ h
  refine ⟨a, q, t, Ls, rfl, rfl, SqT.of (st.hst.sub _ _ ha), ho, fun p hp => SqT.of (st.hst.sub _ _ (hL p hp)), ?_⟩
  rw [show decide (t ∈ Ls.map (·.2)) = decide (t ∈ L) by rw [decide_eq_decide]; exact hp.mem_iff]
  exact qq _ S H (Sub.rfl' S) st rfl⟩
theorem e_sadd {t : List Int} {q : Addr} {L : List (List Int)} (hu : X.A.units + 64 < cLine) (ho : jE X G o ρ M (.o q) M1) (h1 : M1 q = some (mSet X.prog X.w q L)) (ha : jE X G e ρ M1 (.d (tI t)) M2) (h2 : M2 q = some (mSet X.prog X.w q L)) (few : L.length + 1 < 64) (nw : t ∉ L)
    (hbase : attributeBase o "add" X.env (eval o X.env) = eval o X.env := by rfl)
    (hfew : ((backTo cpos (starEach [e] X.env)).all (fun x => !x.1) && (backToKw cpos (keywordEach [] X.env)).all (fun x => x.1.isSome) && decide ([e].length + ([] : List Keyword).length + (if ([] : List Keyword).isEmpty then 0 else 1) < 30)) = true := by rfl)
    (hline : (apos.endLine == cpos.line) = true := by rfl) (hs : starEach [e] X.env = (false, eval e X.env) :: starEach [] X.env := by rfl) (hpl : (backTo cpos (starEach [] X.env)).any (·.1) = false := by rfl) :
    jE X G (.Call (.Attribute o "add" apos) [e] [] cpos) ρ M (.d .none) (mset M2 q (mSet X.prog X.w q (t :: L))) := fun S H σ st Q qq =>
  PE.go (pe_tadd hu peS (pa_cons peS pa_nil hs) hbase hfew hline hs hpl) (ho S H σ st _ fun u S1 H1 e1 st1 r1 => by
    obtain rfl : u = .ref q := r1
    obtain ⟨_, o1, ho1, ⟨Ls1, rfl, _, _⟩, _⟩ := st1.hst.own q _ h1
    refine ⟨⟨q, Ls1, rfl, ho1⟩, ha S1 H1 σ st1 _ fun v S2 H2 e2 st2 r2 => ?_⟩
    obtain ⟨a, rfl, hat⟩ := tI_at r2
    obtain ⟨_, o2, ho2, ⟨Ls, rfl, hp, hL⟩, _⟩ := st2.hst.own q _ h2
    have hlen : Ls.length = L.length := by rw [← hp.length_eq, List.length_map]
    refine ⟨a, q, t, Ls, rfl, rfl, SqT.of (st2.hst.sub _ _ hat), ho2, fun p hp => SqT.of (st2.hst.sub _ _ (hL p hp)), by omega, fun L2 _ c2 => ?_⟩
    have pm := c2 fun z => nw (hp.mem_iff.mp z)
    refine qq _ S2 _ (e1.tr e2) ⟨st2.hst.put (m' := mSet X.prog X.w q (t :: L)) h2 ⟨⟨L2, rfl, (pm.map (·.2)).trans (.cons _ hp), fun p hp2 => ?_⟩, set_ntup⟩, st2.sl⟩ rfl
    rcases List.mem_cons.mp (pm.mem_iff.mp hp2) with rfl | z
    · exact hat
    · exact hL p z)
theorem code_rel {K : PySem.W.Frag} {S : Hp} : ∀ Ls : List (Addr × List Int), (∀ p ∈ Ls, S p.1 = some (.tup (p.2.map V.int))) → RelA K S (tsv (Ls.map (·.2))) (Ls.map fun q => V.ref q.1)
  | [], _ => rfl
  | p :: Ls, h => ⟨.ref p.1, _, rfl, ⟨p.1, _, rfl, h p (List.mem_cons_self ..), RpA.ints p.2⟩, code_rel Ls fun q hq => h q (List.mem_cons_of_mem _ hq)⟩
/-- sorted(set) -/
theorem c_sortedS {q : Addr} {L : List (List Int)} {dd : Nat} {B : Int} (hc : X.calm = true) (h : M q = some (mSet X.prog X.w q L)) (hd : 1 ≤ dd) (hB : ∀ t ∈ L, t.length = dd ∧ TS.Bd B t)
    (k : ∀ ys : List (List Int), ys.Perm L → ys.Nodup → ys.Pairwise (fun a b => TS.code B a ≤ TS.code B b) → ∀ r, M r = none → Φ (.o r) (mset M r (.lst (tsv ys)))) : JCN X G (.builtin "sorted") M [.o q] Φ := ⟨_, cr_sortedT hc, fun S H σ ρ us st r Q qq => by
  obtain ⟨v, r', rfl, hv, rfl⟩ := r
  obtain rfl : v = .ref q := hv
  obtain ⟨_, o, ho, ⟨Ls, rfl, hp, hL⟩, _⟩ := st.hst.own q _ h
  refine ⟨q, Ls, dd, B, rfl, ho, fun p hp => SqT.of (st.hst.sub _ _ (hL p hp)), hd, fun p hpp => hB _ (hp.mem_iff.mp (List.mem_map.mpr ⟨p, hpp, rfl⟩)), fun L2 r pm nd _ pw nr => ?_⟩
  have hk := k (L2.map (·.2)) ((pm.map (·.2)).trans hp) nd (by rw [List.pairwise_map]; exact pw) r (st.hst.free nr).2
  refine qq _ _ _ S _ hk (Sub.rfl' S) ⟨st.hst.newM nr ⟨_, rfl, code_rel L2 fun p hp2 => hL p (pm.mem_iff.mp hp2)⟩, st.sl⟩ rfl⟩
end
section
variable {X : Cx} {G : Gh} {ρ : List SV} {M M1 M2 M3 : MM} {P : Post} {e o c a b i : Expr} {d : SV} {pos p p' pd : Pos} {Φ : SV → MM → Prop}
theorem rep_l {s : SV} {xs : List SV} {j : Int} (h : LsV M s xs) (h0 : 0 ≤ j) (h1 : j < 1000000) (h2 : xs.length * j.toNat ≤ 1000000) : J2L X G (binaryOp .Mult) M s (.d (.int j)) (List.replicate j.toNat xs).flatten M := ⟨_, op_rep, fun S H σ ρ u v st ru rv Q q => by
  obtain ⟨a, vs, rfl, e1, r1⟩ := lsv_at st h ru
  obtain rfl : v = .int j := rv
  refine ⟨a, j, vs, rfl, rfl, e1, by omega, by omega, by rw [r1.len]; exact sz_le h2, fun p np => q p S _ (Sub.rfl' S) (st.hst.free np).2 ⟨st.hst.newM np ⟨_, rfl, ?_⟩, st.sl⟩⟩
  have : ∀ m, RelA X.K S (List.replicate m xs).flatten (List.replicate m vs).flatten := by
    intro m
    induction m with
    | zero => exact rfl
    | succ m ih => rw [List.replicate_succ, List.replicate_succ, List.flatten_cons, List.flatten_cons]; exact r1.app ih
  exact this _⟩
end
end NL
set_option Elab.async false
set_option linter.all false
set_option maxRecDepth 100000
set_option maxHeartbeats 4000000
namespace NL
open PySem PySem.Spec L2
open PyProof.Rows hiding St
def mIns (C dx : Addr) (fs : List (Str × D)) : MO := .rel (fun K S o => ∃ vs, o = .ins C dx vs ∧ Flds K S fs vs) (fun _ _ _ _ e ⟨vs, h1, h2⟩ => ⟨vs, h1, h2.mono e⟩)
def putD (f : Str) (v : D) : List (Str × D) → List (Str × D)
  | [] => [(f, v)]
  | (g, x) :: r => if g = f then (g, v) :: r else (g, x) :: putD f v r
theorem Flds.put {K : PySem.W.Frag} {S : Hp} {f : Str} {d : D} {v : V} (r : Rp K S d v) : ∀ {fs : List (Str × D)} {vs : List (Str × V)}, Flds K S fs vs → Flds K S (putD f d fs) (putF f v vs)
  | [], _, h => by
    have h' : _ = [] := h
    subst h'
    exact ⟨v, [], rfl, r, rfl⟩
  | (g, x) :: fs, _, ⟨w, t, h1, h2, h3⟩ => by
    subst h1
    by_cases e : g = f
    · subst e
      simp only [putD, putF, if_true]
      exact ⟨v, t, rfl, r, h3⟩
    · simp only [putD, putF, if_neg e]
      exact ⟨w, _, rfl, h2, h3.put r⟩
theorem Flds.len {K : PySem.W.Frag} {S : Hp} : ∀ {fs : List (Str × D)} {vs : List (Str × V)}, Flds K S fs vs → vs.length = fs.length
  | [], _, h => by
    have h' : _ = [] := h
    subst h'; rfl
  | _ :: _, _, ⟨_, _, h1, _, h3⟩ => by subst h1; rw [List.length_cons, List.length_cons, h3.len]
theorem ins_ntup {C dx : Addr} {vs : List (Str × V)} : ∀ xs, HO.ins C dx vs ≠ .tup xs := fun _ h => nomatch h
section
variable {X : Cx} {G : Gh} {ρ : List SV} {M M1 M2 M3 : MM} {P : Post} {e o c a b i : Expr} {es : List Expr} {d : SV} {ds : List SV} {pos p p' pd : Pos} {Φ Ψ : SV → MM → Prop}
/-- o.f = e -/
theorem s_fldN {C dx q : Addr} {f : Str} {fs : List (Str × D)} (he : nE X G e ρ M Φ) (k : ∀ d M1, Φ d M1 → ∃ v, d = .d v ∧ jE X G o ρ M1 (.o q) M1 ∧ M1 q = some (mIns C dx fs) ∧ P.nx ρ (mset M1 q (mIns C dx (putD f v fs)))) (hc : Cls X.K C) (hn : NoAttr X.K C f) (hl : fs.length < 1000)
    (hs : swapsWith e (some (.Attribute o f p')) pos.line X.env = pure false := by rfl) : jS X G (.Assign [.Attribute o f p'] e pos) ρ M P := fun S H σ st D ft =>
  PS.go (ps_fld peS peS hs) (he S H σ st _ fun d M1 v S1 H1 g e1 st1 r1 => by
    obtain ⟨w, rfl, ho, hq, kk⟩ := k d M1 g
    refine ho S1 H1 σ st1 _ fun u S2 H2 e2 st2 r2 => ?_
    obtain rfl : u = .ref q := r2
    obtain ⟨_, o2, ho2, ⟨vs, rfl, hf⟩, _⟩ := st2.hst.own q _ hq
    have hw : Rp X.K S2 w v := Rp.mono e2 _ _ r1
    exact ⟨q, C, dx, vs, rfl, ho2, hc, hn, by rw [hf.len]; exact hl, ft.nx S2 _ _ _ _ ⟨st2.hst.put (m' := mIns C dx (putD f w fs)) hq ⟨⟨_, rfl, hf.put hw⟩, ins_ntup⟩, st2.sl⟩ kk⟩)
theorem s_fld {C dx q : Addr} {f : Str} {fs : List (Str × D)} {v : D} (he : jE X G e ρ M (.d v) M1) (ho : jE X G o ρ M1 (.o q) M1) (hq : M1 q = some (mIns C dx fs)) (k : P.nx ρ (mset M1 q (mIns C dx (putD f v fs)))) (hc : Cls X.K C) (hn : NoAttr X.K C f) (hl : fs.length < 1000 := by decide)
    (hs : swapsWith e (some (.Attribute o f p')) pos.line X.env = pure false := by rfl) : jS X G (.Assign [.Attribute o f p'] e pos) ρ M P :=
  s_fldN (C := C) (dx := dx) (q := q) (fs := fs) (Φ := fun d M' => d = .d v ∧ M' = M1) (n_of he ⟨rfl, rfl⟩) (fun d M' h12 => ⟨v, h12.1, by rw [h12.2]; exact ⟨ho, hq, k⟩⟩) hc hn hl hs
/-- a class of the text -/
structure ClsD (K : PySem.W.Frag) (mg : Str → Option Value) (x : Str) (qual : Str) (st : Stmt) (ps : List Str) where
  C : Addr
  f : Addr
  fd : FuncData
  F : FunX K "__init__" qual st f fd
  b : Binds K fd ps []
  g : mg x = some (.ref C)
  mkk : Mk K C f
  cl : Cls K C
theorem n_new {x qual : Str} {st : Stmt} {ps : List Str} {k n : Nat} {W : Wp} (T : ClsD X.K X.mg x qual st ps) (F : FnG X.prog X.w X.K X.mg X.base CX0 k T.f T.fd ps (spN X.K (n + 1) W)) (hr : Rm (k + 1) X.A) (ha : jA X G (e :: es) ρ M ds M1) (hl : ds.length = n)
    (hW : ∀ q dx, M1 q = none → M1 dx = none → dx ≠ q → W (.o q :: ds) (mset (mset M1 dx (.raw (.own q))) q (mIns T.C dx [])) (fun d M' => d = .d .none ∧ ∃ fs, M' = mset (mset M1 dx (.raw (.own q))) q (mIns T.C dx fs) ∧ Φ (.ins T.C fs) M1))
    (hg : Gl X x := by rfl) (hdb : (x == ("__debug__" : Str)) = false := by decide) (he : starEach (e :: es) X.env = (false, eval e X.env) :: starEach es X.env := by rfl) (hpl : (backTo pos (starEach es X.env)).any (·.1) = false := by rfl) :
    nE X G (.Call (.Name x p) (e :: es) [] pos) ρ M Φ := fun S H σ st Q qq =>
  PE.go (pe_new T.mkk F hr.gd hr.room hg T.g T.b .nil pass0 paS hdb he hpl) (ha S H σ st _ fun vs S1 H1 e1 st1 r1 => fun q dx nq ndx hne => by
    have h1 : Hst X.K G S1 (upd H1 dx (.own q)) (mset M1 dx (.raw (.own q))) := st1.hst.newM ndx ⟨rfl, fun _ h => nomatch h⟩
    have nq2 : upd H1 dx (.own q) q = none := by rw [upd_ne (Ne.symm hne)]; exact nq
    have h2 : Hst X.K G S1 (upd (upd H1 dx (.own q)) q (.ins T.C dx [])) (mset (mset M1 dx (.raw (.own q))) q (mIns T.C dx [])) := h1.newM (m := mIns T.C dx []) nq2 ⟨⟨[], rfl, rfl⟩, ins_ntup⟩
    refine ⟨S1, .o q :: ds, _, _, ⟨.ref q, _, rfl, rfl, by rw [List.append_nil]; exact r1⟩, by simp [hl], h2.enter, hW q dx (st1.hst.free nq).2 (st1.hst.free ndx).2 hne, fun d M' v S2 H2 h3 r3 q3 => ?_⟩
    obtain ⟨rfl, fs, rfl, hΦ⟩ := q3
    obtain rfl : v = .non := r3
    refine ⟨rfl, ?_⟩
    have h4 := h2.leave h3
    obtain ⟨nS, o4, ho4, ⟨vs4, rfl, hf4⟩, _⟩ := h4.own q _ mset_same
    have e4 : Sub S2 (upd S2 q (.ins T.C dx vs4)) := Evl.Ex.new nS
    have h5 := h4.freeze mset_same ho4
    have h6 : Hst X.K G (upd S2 q (.ins T.C dx vs4)) H2 M1 := h5.less fun a m z => by
      have na : a ≠ q := fun e => by rw [e, (st1.hst.free nq).2] at z; cases z
      have nd : a ≠ dx := fun e => by rw [e, (st1.hst.free ndx).2] at z; cases z
      rw [mdel_ne na, mset_ne na, mset_ne nd]; exact z
    have e3 : Sub S1 S2 := h3.g1
    exact qq _ M1 _ _ H2 hΦ (e1.tr (e3.tr e4)) ⟨h6, st1.sl.mono (e3.tr e4)⟩ ⟨q, dx, vs4, rfl, upd_same, hf4.mono e4⟩)
structure semK' (X : Cx) (kws : List Keyword) (σ : L2.St) (H : Hp) (Q : List V → Hp → Prop) : Prop where
  run : ∀ (pos : Pos) pins s, Inv X pins σ H s → wpAny (model X.prog X.w) X.A (evalAll ((backToKw pos (keywordEach kws X.env)).map (·.2))) (AP X pins σ Q) X.xe s
def semK (X : Cx) (kws : List Keyword) : TA := fun σ H Q => semK' X kws σ H Q
theorem pkS {kws : List Keyword} : PK X kws (semK X kws) := ⟨fun p pins s _ _ _ I h => h.run p pins s I⟩
def jK (X : Cx) (G : Gh) (kws : List Keyword) (ρ : List SV) (M : MM) (ds : List SV) (M' : MM) : Prop := ∀ S H σ, Sta X.K G S H σ ρ M → ∀ Q : List V → Hp → Prop,
  (∀ vs S' H', Sub S S' → Sta X.K G S' H' σ ρ M' → RelA X.K S' ds vs → Q vs H') → semK X kws σ H Q
theorem k_nil : jK X G [] ρ M [] M := fun S H σ st Q q => ⟨fun pos pins s I => pk_nil.run pos pins s σ H Q I (q [] S H (Sub.rfl' S) st rfl)⟩
theorem k_cons {nm : Option Str} {kp : Pos} {kws : List Keyword} (h : jE X G e ρ M d M1) (hr : jK X G kws ρ M1 ds M2) : jK X G (⟨nm, e, kp⟩ :: kws) ρ M (d :: ds) M2 := fun S H σ st Q q => ⟨fun pos pins s I =>
  (pk_cons peS pkS).run pos pins s σ H Q I (h S H σ st _ fun v S1 H1 e1 st1 r1 => hr S1 H1 σ st1 _ fun vs S2 H2 e2 st2 r2 => q _ S2 H2 (e1.tr e2) st2 ⟨v, vs, rfl, r1.mono e2, r2⟩)⟩
theorem s_pairN {e2 : Expr} {p1 p2 p3 : Pos} {n m : Str} {j x1 : Nat} (i1 i2 : Nat) (h1 : nE X G e ρ M Φ) (h2 : ∀ d M1, Φ d M1 → nE X G e2 ρ M1 (fun d2 M2 => P.nx ((ρ.set i1 d).set i2 d2) M2)) (hN : X.N.Nodup) (hc : X.calm = true := by rfl) (hi1 : X.N[i1]? = some n := by rfl) (hi2 : X.N[i2]? = some m := by rfl) (hij : i1 ≠ i2 := by decide)
    (hx1 : X.env.scope.names.lookup n = some .local := by rfl) (hx2 : X.env.scope.names.lookup m = some .local := by rfl)
    (hw : swappedStores [.Tuple [.Name n p1, .Name m p2] j p3] (.Tuple [e, e2] x1 p') X.env = pure (some [n, m]) := by rfl) (hs : swapsWithSole [.Tuple [.Name n p1, .Name m p2] j p3] (.Tuple [e, e2] x1 p') pos.line X.env = pure false := by rfl)
    (t1 : starEach (e :: [e2]) X.env = (false, eval e X.env) :: starEach [e2] X.env := by rfl) (t2 : starEach (e2 :: []) X.env = (false, eval e2 X.env) :: starEach [] X.env := by rfl) :
    jS X G (.Assign [.Tuple [.Name n p1, .Name m p2] j p3] (.Tuple [e, e2] x1 p') pos) ρ M P := fun S H σ s D ft =>
  PS.go (ps_par hc hN hi1 hi2 hij hx1 hx2 (pa_cons peS (pa_cons peS pa_nil t2) t1) hw hs) (h1 S H σ s _ fun d M1 u S1 H1 g1 e1 s1 r1 => h2 d M1 g1 S1 H1 σ s1 _ fun d2 M2 v S2 H2 g2 e2 s2 r2 =>
    ⟨u, v, rfl, ft.nx S2 H2 _ _ M2 ⟨s2.hst, (s2.sl.set (RelS.of (r1.mono e2)) i1).set (RelS.of r2) i2⟩ g2⟩)
theorem s_pair {e2 : Expr} {p1 p2 p3 : Pos} {n m : Str} {j x1 : Nat} (i1 i2 : Nat) {d2 : SV} (h1 : jE X G e ρ M d M1) (h2 : jE X G e2 ρ M1 d2 M2) (k : P.nx ((ρ.set i1 d).set i2 d2) M2) (hN : X.N.Nodup) (hc : X.calm = true := by rfl) (hi1 : X.N[i1]? = some n := by rfl) (hi2 : X.N[i2]? = some m := by rfl) (hij : i1 ≠ i2 := by decide)
    (hx1 : X.env.scope.names.lookup n = some .local := by rfl) (hx2 : X.env.scope.names.lookup m = some .local := by rfl)
    (hw : swappedStores [.Tuple [.Name n p1, .Name m p2] j p3] (.Tuple [e, e2] x1 p') X.env = pure (some [n, m]) := by rfl) (hs : swapsWithSole [.Tuple [.Name n p1, .Name m p2] j p3] (.Tuple [e, e2] x1 p') pos.line X.env = pure false := by rfl)
    (t1 : starEach (e :: [e2]) X.env = (false, eval e X.env) :: starEach [e2] X.env := by rfl) (t2 : starEach (e2 :: []) X.env = (false, eval e2 X.env) :: starEach [] X.env := by rfl) :
    jS X G (.Assign [.Tuple [.Name n p1, .Name m p2] j p3] (.Tuple [e, e2] x1 p') pos) ρ M P :=
  s_pairN (Φ := fun d' M' => d' = d ∧ M' = M1) i1 i2 (n_of h1 ⟨rfl, rfl⟩) (fun d' M' h => by rw [h.1, h.2]; exact n_of h2 k) hN hc hi1 hi2 hij hx1 hx2 hw hs t1 t2
end
end NL
set_option Elab.async false
set_option linter.all false
set_option maxRecDepth 100000
set_option maxHeartbeats 1000000
namespace NL
open PySem PySem.Spec L2
open PyProof.Rows hiding St
section
variable {X : Cx} {G : Gh} {ρ : List SV} {M M1 M2 M3 : MM} {P : Post} {st : Stmt} {rest : List Stmt} {e o c a b i : Expr} {es : List Expr} {d : SV} {ds : List SV} {pos p p' pd : Pos} {Φ Ψ : SV → MM → Prop}
theorem b_cut (I : List SV → MM → Prop) (h : jS X G st ρ M { P with nx := I }) (k : ∀ ρ' M', I ρ' M' → jB X G rest ρ' M' P) : jB X G (st :: rest) ρ M P :=
  b_cons fun S H σ s D f => h S H σ s D ⟨fun S1 H1 σ1 ρ1 M1 s1 q => f.nx S1 H1 σ1 ρ1 M1 s1 (k ρ1 M1 q), f.rt, f.bk, f.ct⟩
theorem nE.less (h : nE X G e ρ M Φ) (k : ∀ d M', Φ d M' → ∃ M'', MLe M'' M' ∧ Ψ d M'') : nE X G e ρ M Ψ := fun S H σ st Q q => h S H σ st Q fun d M' v S' H' g e1 s1 r1 => by
  obtain ⟨M'', hl, hp⟩ := k d M' g
  exact q d M'' v S' H' hp e1 (s1.less hl) r1
theorem MLe.dput {M M' : MM} {a b : Addr} {dl : Deal} (h : MLe M M') : MLe (dput M a b dl) (dput M' a b dl) := fun x m q => by
  unfold NL.dput at q ⊢
  by_cases ha : x = a
  · subst ha; rw [mset_same] at q ⊢; exact q
  · rw [mset_ne ha] at q ⊢
    by_cases hb : x = b
    · subst hb; rw [mset_same] at q ⊢; exact q
    · rw [mset_ne hb] at q ⊢; exact h x m q
theorem dput_none {M : MM} {a b q : Addr} {dl : Deal} (h : dput M a b dl q = none) : q ≠ a ∧ q ≠ b ∧ M q = none := by
  have h1 : q ≠ a := fun e => by rw [e, dput_a] at h; cases h
  have h2 : q ≠ b := fun e => by
    unfold dput at h
    rw [mset_ne h1, e, mset_same] at h; cases h
  exact ⟨h1, h2, by rw [dput_ne h1 h2] at h; exact h⟩
theorem dput_at {M : MM} {a b q : Addr} {dl : Deal} {m : MO} (h1 : q ≠ a) (h2 : q ≠ b) : dput (mset M q m) a b dl q = some m := by
  rw [dput_ne h1 h2, mset_same]
theorem MLe.mset {M M' : MM} {q : Addr} {m : MO} (h : MLe M M') : MLe (mset M q m) (mset M' q m) := fun x n z => by
  by_cases hx : x = q
  · subst hx; rw [mset_same] at z ⊢; exact z
  · rw [mset_ne hx] at z ⊢; exact h x n z
theorem dput_new {M : MM} {a b q : Addr} {dl : Deal} (h1 : q ≠ a) (h2 : q ≠ b) (h : M q = none) : dput M a b dl q = none := by rw [dput_ne h1 h2]; exact h
theorem mle_frz {M : MM} {a b q : Addr} {dl : Deal} {m : MO} (h1 : q ≠ a) (h2 : q ≠ b) (h : M q = none) : MLe (dput M a b dl) (mdel (dput (NL.mset M q m) a b dl) q) := by
  rw [← dput_mset h1 h2]; exact mle_mdel_mset (dput_new h1 h2 h)
theorem mle_own {M : MM} {a b q : Addr} {dl : Deal} {m : MO} (h1 : q ≠ a) (h2 : q ≠ b) (h : M q = none) : MLe (dput M a b dl) (dput (NL.mset M q m) a b dl) := MLe.dput (MLe.new h (MLe.rfl' _))
theorem mset_dput {M : MM} {a b q : Addr} {dl : Deal} {m m' : MO} (h1 : q ≠ a) (h2 : q ≠ b) : NL.mset (dput (NL.mset M q m) a b dl) q m' = dput (NL.mset M q m') a b dl := by rw [dput_mset h1 h2, mset_mset]
theorem nin_ot {q : Addr} {xs : List (List Int)} {t : List Int} (h : M q = some (.lst (tsv xs))) (hu : X.A.units + 65 < cLine) : J2 X G (compareOp .NotIn) M (.d (tI t)) (.o q) (.d (.bool (!decide (t ∈ xs)))) M := by
  rw [tsv_eq] at h
  have := nin_o (G := G) (X := X) (d := tI t) h hu ((ok_tI t).fine) ((ok_lT xs).fine)
  rw [any_tI] at this
  exact this
theorem Rm.u65 {k : Nat} {A : Around} (r : Rm k A) : A.units + 65 < cLine := by have := r.room.un; omega
end
end NL
set_option Elab.async false
set_option linter.all false
set_option maxRecDepth 100000
set_option maxHeartbeats 1000000
namespace NL
open PySem PySem.Spec L2
open PyProof.Rows hiding St
section
variable {X : Cx} {G : Gh} {ρ : List SV} {M M1 M2 M3 : MM} {P : Post} {st : Stmt} {b : List Stmt} {e o c a i : Expr} {es : List Expr} {d : SV} {ds : List SV} {pos p p' pd : Pos} {Φ Ψ : SV → MM → Prop}
theorem e_ofN (h : nE X G e ρ M Φ) (k : ∀ d' M', Φ d' M' → d' = d ∧ M' = M1) : jE X G e ρ M d M1 := fun S H σ s Q q => h S H σ s Q fun d' M' v S' H' g e1 s1 r1 => by
  obtain ⟨h1, h2⟩ := k d' M' g
  rw [h1] at r1
  rw [h2] at s1
  exact q v S' H' e1 s1 r1
end
end NL
set_option Elab.async false
set_option linter.all false
set_option maxRecDepth 100000
set_option maxHeartbeats 4000000
namespace NL
open PySem PySem.Spec L2
open PyProof.Rows hiding St
section
variable {P : Program} {w : World} {K : PySem.W.Frag} {mg mb : Str → Option Value} {k : Nat} {fa a : Addr} {fd : FuncData} {x : Str} {sp : Sp} {s1 : Shared} {vs : List Value} {ns : List Int}
/-- what is wanted of the call -/
abbrev LawEnd (s1 : Shared) : Result → Shared → Prop := fun r s2 => r = .ok (.ret (.bool true)) ∧ OldK s1.heap s2.heap ∧ s2.os = s1.os ∧ AllBare s2.gens
theorem law_core (inK : K.In s1.heap) (gl : s1.heap.Ns mainGlobals mg) (bl : s1.heap.Ns builtinsNs mb) (bb : ∀ y : Str, y ≠ "__name__" → mb y = bootBuiltins y) (nl : s1.heap.NoLimit) (ge : s1.gens = #[]) (ob : s1.heap.get? a = some { cls := .type "list", data := .seq vs.toArray }) (rm : Room k callerA)
    (F : ∀ base : Heap, K.In base → base.Ns mainGlobals mg → FnG P w K mg base CX0 k fa fd [x] sp) (bd : ∀ (s : Shared) (u : Value), BindsTo s fd ⟨[u], []⟩ [(x, u)]) (hsp : ∀ H : Hp, Only H → SqL K H a (ns.map V.int) → sp [.ref a] H (fun v _ => v = .bl true) E0)
    (H : Hp) (only : Only H) (sq : SqL K H a (ns.map V.int)) (ok : HOk P w H s1.heap) (al : ∀ b, H b ≠ none → b = a) (off : H a ≠ none → K.lookup a = none) : codeAny (model P w) callerA (.call (.ref fa) ⟨[.ref a], []⟩) (LawEnd s1) s1 := by
  have bare : ∀ {b : Addr} {o : Obj}, s1.heap.get? b = some o → H b = none → (hidT s1.heap H).get? b = some o := fun e n => hidT_get e n
  have dicts : ∀ {b : Addr} {o : Obj} {es : Array DictEntry} {ep : Nat}, s1.heap.get? b = some o → o.data = .dict es ep → H b = none := fun {b o es ep} e dd =>
    Classical.byContradiction fun z => by
      have eb : b = a := al b z
      rw [eb, ob] at e
      cases e
      exact nomatch (show Data.seq vs.toArray _ = Data.dict es ep from dd)
  have spaces : ∀ {b : Addr} {m : Str → Option Value}, s1.heap.Ns b m → (hidT s1.heap H).Ns b m := fun {b m} q => by
    obtain ⟨o, es, ep, e, dd, r⟩ := q
    exact ⟨o, es, ep, bare e (dicts e dd), dd, r⟩
  have inB : K.In (hidT s1.heap H) := fun b o e => bare (inK b o e) (Classical.byContradiction fun z => by
    have eb : b = a := al b z
    subst eb
    rw [off z] at e
    cases e)
  have lim : (hidT s1.heap H).NoLimit := by
    obtain ⟨mc, h1, h2⟩ := nl
    exact ⟨mc, spaces h1, h2⟩
  have env : Env0 P w K mg (hidT s1.heap H) callerA [] s1 H := ⟨rfl, ⟨inB, spaces gl, ⟨mb, spaces bl, bb⟩, lim⟩, fun b o e => of_hidT e, Nat.le_of_eq (hidT_size _ _), trivial, fun b hb => absurd (show b ∈ ([] : List Addr) from hb) (by simp), ok, .of_eq ge⟩
  refine codeAny_mono ((F _ inB (spaces gl)).run callerA [] s1 H ⟨[.ref a], []⟩ [.ref a] [.ref a] _ E0 rfl rm env (bd s1 (.ref a)) (.cons rfl .nil) (hsp H only sq)) fun r s2 q => ?_
  cases r with
  | error e => exact q.elim
  | ok fl =>
    cases fl with
    | ret u =>
      obtain ⟨v, H2, os, gb, un, ok2, ru, rfl⟩ := q
      obtain rfl : u = Value.bool true := ru
      refine ⟨rfl, OldK.of_keep fun b o e => ?_, os, gb⟩
      rcases only b with z | ⟨ob2, xs, z⟩
      · exact un.keep b o e z (fun z => nomatch z) (fun z => nomatch z)
      · obtain ⟨g1, _⟩ := ok b _ z
        obtain ⟨g2, _⟩ := ok2 b _ (un.frzs b ob2 _ z)
        rw [e] at g1
        cases g1
        exact g2
    | next => exact q.elim
    | brk => exact q.elim
    | cont => exact q.elim
theorem law_enter (inK : K.In s1.heap) (gl : s1.heap.Ns mainGlobals mg) (bl : s1.heap.Ns builtinsNs mb) (bb : ∀ y : Str, y ≠ "__name__" → mb y = bootBuiltins y) (nl : s1.heap.NoLimit) (ge : s1.gens = #[]) (ob : s1.heap.get? a = some { cls := .type "list", data := .seq vs.toArray }) (it : IntsAre vs ns) (hz : ns.length ≤ sizeLine) (rm : Room k callerA)
    (F : ∀ base : Heap, K.In base → base.Ns mainGlobals mg → FnG P w K mg base CX0 k fa fd [x] sp) (bd : ∀ (s : Shared) (u : Value), BindsTo s fd ⟨[u], []⟩ [(x, u)]) (hsp : ∀ H : Hp, Only H → SqL K H a (ns.map V.int) → sp [.ref a] H (fun v _ => v = .bl true) E0) :
    codeAny (model P w) callerA (.call (.ref fa) ⟨[.ref a], []⟩) (LawEnd s1) s1 := by
  have vi := vals_ints it
  have vl := it.length
  cases kl : K.lookup a with
  | some o =>
    have e := inK a o kl
    rw [ob] at e
    cases e
    exact law_core inK gl bl bb nl ge ob rm F bd hsp (fun _ => none) (fun _ => .inl rfl) (.inr ⟨_, vs.toArray, _, kl, rfl, rfl, rfl, by rw [List.size_toArray, vl]; exact hz, by simpa using vi⟩) (fun _ _ z => nomatch (show (none : Option HO) = some _ from z)) (fun _ z => absurd rfl z) fun z => absurd rfl z
  | none =>
    have at1 : ∀ {b : Addr}, b = a → (fun b => if b = a then some (HO.frz { cls := .type "list", data := .seq vs.toArray } (.lst (ns.map V.int))) else none : Hp) b = some (.frz { cls := .type "list", data := .seq vs.toArray } (.lst (ns.map V.int))) := fun e => if_pos e
    have at2 : ∀ {b : Addr}, b ≠ a → (fun b => if b = a then some (HO.frz { cls := .type "list", data := .seq vs.toArray } (.lst (ns.map V.int))) else none : Hp) b = none := fun e => if_neg e
    refine law_core inK gl bl bb nl ge ob rm F bd hsp (fun b => if b = a then some (.frz { cls := .type "list", data := .seq vs.toArray } (.lst (ns.map V.int))) else none) (fun b => ?_) (.inl (.inr ⟨_, at1 rfl⟩)) (fun b u z => ?_) (fun b z => ?_) fun _ => kl
    · by_cases e : b = a
      · exact .inr ⟨_, _, at1 e⟩
      · exact .inl (at2 e)
    · by_cases e : b = a
      · have z2 := (at1 e).symm.trans z
        cases z2
        subst e
        exact ⟨ob, by rw [List.length_map]; exact hz, vs, _, vi, ob⟩
      · have z2 := (at2 e).symm.trans z
        cases z2
    · exact Classical.byContradiction fun e => z (at2 e)
end
end NL
set_option Elab.async false
set_option linter.all false
set_option maxRecDepth 100000
set_option maxHeartbeats 4000000
namespace NL
open PySem PySem.Spec L2
open PyProof.Rows hiding St
/-- what is wanted of an exception: its class, what it keeps, the slots and own objects where it leaves -/
abbrev EPost := Addr → D → List SV → MM → Prop
/-- W takes what EX tells -/
def FitsX (K : PySem.W.Frag) (G : Gh) (EX : EPost) (W : WX) : Prop := ∀ S H σ ρ M C dx d v, Sta K G S H σ ρ M → S dx = some (.xd [("at", v)]) → Rp K S d v → EX C d ρ M → W (.ref C) (some dx) σ H
/-- a def's promise with what it may let out -/
abbrev WpX := List SV → MM → (SV → MM → Prop) → (Addr → D → MM → Prop) → Prop
def spX (K : PySem.W.Frag) (n : Nat) (W : WpX) : Sp := fun vs H Q E => ∃ (S : Hp) (ds : List SV) (M : MM) (R : SV → MM → Prop) (RE : Addr → D → MM → Prop), RelA K S ds vs ∧ ds.length = n ∧ Hst K (gh S H M) S H M ∧ W ds M R RE ∧
  (∀ d M' v S' H', Hst K (gh S H M) S' H' M' → Rel K S' d v → R d M' → Q v H') ∧
  ∀ C d M' dx v S' H', Hst K (gh S H M) S' H' M' → S' dx = some (.xd [("at", v)]) → Rp K S' d v → RE C d M' → E (.ref C) (some dx) H'
section
variable {P : Program} {w : World} {K : PySem.W.Frag} {mg : Str → Option Value} {base : Heap}
/-- THE RULE for a def that may let an error out: EX is what its body tells of it -/
theorem fn_okX {x qual : Str} {st : Stmt} {f : Addr} {fd : FuncData} {N ps : List Str} {k : Nat} {W : WpX} (F : FunX K x qual st f fd) (sc : FnScope N ps (defScope st))
    (hb : ∀ (cdv : Value) (A : Around) (outer : List Env) (s : Shared) (H : Hp) (E : XK) (G : Gh) (ds : List SV) (M : MM) (R : SV → MM → Prop) (RE : Addr → D → MM → Prop) (T : WX), Rm k (A.deeper (envOfC qual (defScope st) s.heap.objs.size f cdv)) → ds.length = ps.length → W ds M R RE →
      FitsX K G (fun C d _ M => ∃ M', MLe M' M ∧ RE C d M') T → Takes (cxOf (L2.CX P w) P w K mg base N qual (defScope st) f cdv A outer s H E) T → jB (cxOf (L2.CX P w) P w K mg base N qual (defScope st) f cdv A outer s H E) G (defBody st) (rho0 N ds) M (pEnd R)) :
    FnG P w K mg base (L2.CX P w) (k + 1) f fd ps (spX K ps.length W) := by
  refine F.ok sc (fun vs H Q E h => ?_) (fun cdv A outer s H vs Q E gd hr h => ?_)
  · obtain ⟨S, ds, M, R, RE, r, hl, _⟩ := h
    rw [r.len, hl]
  · obtain ⟨S, ds, M, R, RE, r, hl, hs, hw, q, qe⟩ := h
    refine ⟨_, pbS, hb cdv A outer s H E (gh S H M) ds M R RE _ ⟨hr, gd⟩ hl hw (fun S1 H1 σ1 ρ1 M1 C dx d v st1 e1 r1 z => ?_) (takes_of rfl rfl rfl rfl) S H _ ⟨hs, ?_⟩ _ ⟨fun S1 H1 σ1 ρ1 M1 st1 h1 => ?_, fun S1 H1 M1 d v h1 r1 q1 => ?_, fun _ _ _ _ _ _ z => z.elim, fun _ _ _ _ _ _ z => z.elim⟩⟩
    · obtain ⟨M', hle, z⟩ := z
      exact qe C d M' dx v S1 H1 (st1.hst.less hle) e1 r1 z
    · unfold rho0 L2.start
      refine (r.slots).app ?_
      rw [r.len]
      exact Slots.us _ _ (List.length_replicate ..)
    · obtain ⟨M', hle, h1⟩ := h1
      exact q (.d .none) M' .non S1 H1 (st1.hst.less hle) rfl h1
    · exact q d M1 v S1 H1 h1 r1 q1
end
/-- __init__(self, at): self.at = at -/
def spAt (C : Addr) : Sp := fun vs H Q _ => ∃ (a : Addr) (v : V), vs = [.ref a, v] ∧ H a = some (exo a C none) ∧ ∀ dx, H dx = none → dx ≠ a → Q .non (upd (upd H dx (exd dx [("at", v)])) a (exo a C (some dx)))
/-- the class as the top has left it -/
structure ExcD (K : PySem.W.Frag) (mg : Str → Option Value) (x qual : Str) (st : Stmt) where
  C : Addr
  f : Addr
  fd : FuncData
  F : Fun K "__init__" qual st f fd
  b : Binds K fd ["self", "at"] []
  g : mg x = some (.ref C)
  cl : OexC K C
  xf : XfC K C
  ini : PySem.W.findIn K (.ref C) "__init__" = some (some (.ref f))
  tyF : PySem.W.typeIn K (.ref f) = some (.type "function")
  no : PySem.W.findIn K (.ref C) "at" = some none
section
variable {X : Cx} {G : Gh} {ρ : List SV} {M M1 : MM} {P : Post} {e : Expr} {pos pos' p : Pos} {d : D}
/-- raise C(e) -/
theorem s_raise {x qual : Str} {st : Stmt} {EX : EPost} {W : WX} (T : ExcD X.K X.mg x qual st) (F : FnOk X.prog X.w X.K X.mg X.base CX0 1 T.f T.fd ["self", "at"] (spAt T.C)) (hr : Rm 2 X.A) (tk : Takes X W) (fx : FitsX X.K G EX W) (ha : jA X G [e] ρ M [.d d] M1) (q : EX T.C d ρ M1) (hc : X.calm = true := by rfl)
    (hg : Gl X x := by rfl) (hdb : (x == ("__debug__" : Str)) = false := by decide) (he : starEach [e] X.env = (false, eval e X.env) :: starEach [] X.env := by rfl) (hpl : (backTo pos (starEach [] X.env)).any (·.1) = false := by rfl) :
    jS X G (.Raise (some (.Call (.Name x p) [e] [] pos)) none pos') ρ M P := fun S H σ s D f =>
  PS.go (ps_raise hc tk (pmk_oex T.cl T.ini T.tyF F hr.room T.b .nil pass0 hg T.g paS hdb he hpl)) (ha S H σ s _ fun vs S1 H1 e1 s1 r1 => by
    obtain ⟨v, r, rfl, rv, rr⟩ := r1
    obtain rfl : r = [] := rr
    refine ⟨(by show 1 ≤ 1000; decide), fun a na => ⟨a, v, by simp, upd_same, fun dx nx ne => ⟨rfl, dx, [("at", v)], upd_same, ?_, ?_, ?_⟩⟩⟩
    · rw [upd_ne ne, upd_same]
    · have := nx
      rw [upd_ne ne] at this
      exact this
    · have nd : H1 dx = none := by
        have := nx
        rw [upd_ne ne] at this
        exact this
      have eh : upd (L2.del (upd (upd (upd H1 a (exo a T.C none)) dx (exd dx [("at", v)])) a (exo a T.C (some dx))) a) dx (.xd [("at", v)]) = upd H1 dx (.xd [("at", v)]) := by
        funext b
        by_cases h1 : b = dx
        · subst h1; rw [upd_same, upd_same]
        · rw [upd_ne h1, upd_ne h1]
          by_cases h2 : b = a
          · subst h2; rw [L2.del_same, na]
          · rw [L2.del_ne h2, upd_ne h2, upd_ne h1, upd_ne h2]
      have sb : Sub S1 (upd S1 dx (.xd [("at", v)])) := Evl.Ex.new (s1.hst.free nd).1
      rw [eh]
      exact fx (upd S1 dx (.xd [("at", v)])) _ σ ρ M1 T.C dx d v ⟨s1.hst.newS nd, s1.sl.mono sb⟩ upd_same (Rp.mono sb _ _ rv) q)
end
end NL
set_option Elab.async false
set_option linter.all false
set_option maxRecDepth 100000
set_option maxHeartbeats 4000000
namespace NL
open PySem PySem.Spec L2
open PyProof.Rows hiding St
section
variable {X : Cx} {G : Gh} {ρ : List SV} {M M1 : MM} {P : Post} {e : Expr} {es : List Expr} {pos p np pos' : Pos} {ds : List SV} {d : D} {Φ : SV → MM → Prop}
/-- try: .. except x as n: .. -/
theorem s_try {x n : Str} {c : Value} {body suite : List Stmt} {b0 : Stmt} {EX EO : EPost} {Wout : WX} (i : Nat) (hc : Names X x c) (tk : Takes X Wout) (fo : FitsX X.K G EO Wout)
    (hb : ∀ (pn : List (Addr × Obj)) (xe : Value → Shared → Prop) (W : WX), Takes (X.tr pn xe) W → PassesOwn (model X.prog X.w) X.A X.env xe → FitsX X.K G EX W → jB (X.tr pn xe) G body ρ M P)
    (hh : ∀ C d ρ' M', EX C d ρ' M' → ∃ b, PySem.W.exmOne X.K (.ref C) c = some b ∧ (b = true → ∀ (a dd : Addr) (oe : Obj) (pn : List (Addr × Obj)), Zc (.ref C) (some dd) oe → (∃ vs, oe.data = .fields vs) →
      jB (X.suite a ((a, oe) :: pn)) G (b0 :: suite) (ρ'.set i (.x a dd d)) M' { nx := fun ρ M => P.nx (ρ.set i .u) M, rt := P.rt, bk := fun ρ M => P.bk (ρ.set i .u) M, ct := fun ρ M => P.ct (ρ.set i .u) M }) ∧ (b = false → EO C d ρ' M'))
    (hN : X.N.Nodup) (hi : X.N[i]? = some n := by rfl) (hln : X.env.kindOf n = some .local := by rfl) (hs : X.stack = X.env :: X.outer := by rfl) (hf : X.env.frame = some X.env.locals := by rfl) :
    jS X G (.Try body [.ExceptHandler (some (.Name x np)) (some n) (b0 :: suite) pos'] [] [] pos) ρ M P := fun S H σ s D f =>
  PS.go (ps_try_as (tb := fun W D σ H => ∀ (pn : List (Addr × Obj)) (xe : Value → Shared → Prop), Takes (X.tr pn xe) W → PassesOwn (model X.prog X.w) X.A X.env xe → semB' (X.tr pn xe) body D σ H)
    (ts := fun a cls dd D σ H => ∀ (oe : Obj) (pn : List (Addr × Obj)), Zc cls dd oe → (∃ vs, oe.data = .fields vs) → semB' (X.suite a ((a, oe) :: pn)) (b0 :: suite) D σ H)
    hs hf hN hi hln hc tk (fun W pn xe t po => ⟨fun pins s σ H D I h => (h pn xe t po).run pins s I⟩) (fun a oe cls dd pn z v => ⟨fun pins s σ H D I h => (h oe pn z v).run pins s I⟩))
    fun pn xe t po => hb pn xe _ t po (fun S1 H1 σ1 ρ1 M1 C dx d v st1 e1 r1 q1 => by
      obtain ⟨b, hb1, hy, hn⟩ := hh C d ρ1 M1 q1
      refine ⟨b, hb1, fun eb a na oe pn z vs => hy eb a dx oe pn z vs S1 H1 _ ⟨st1.hst, st1.sl.set (s := .x a dx d) (v := some (.ref a)) ⟨rfl, v, e1, r1⟩ i⟩ _ ⟨fun S2 H2 σ2 ρ2 M2 st2 z => ?_, fun S2 H2 M2 d2 v2 h2 r2 z => f.rt S2 H2 M2 d2 v2 h2 r2 z, fun S2 H2 σ2 ρ2 M2 st2 z => ?_, fun S2 H2 σ2 ρ2 M2 st2 z => ?_⟩, fun eb => fo S1 H1 σ1 ρ1 M1 C dx d v st1 e1 r1 (hn eb)⟩
      · exact f.nx S2 H2 _ _ M2 ⟨st2.hst, st2.sl.set (s := .u) trivial i⟩ z
      · exact f.bk S2 H2 _ _ M2 ⟨st2.hst, st2.sl.set (s := .u) trivial i⟩ z
      · exact f.ct S2 H2 _ _ M2 ⟨st2.hst, st2.sl.set (s := .u) trivial i⟩ z) S H σ s D f
/-- what a caught error keeps -/
theorem e_at {a dd C : Addr} {oe : Obj} {pn : List (Addr × Obj)} {o : Expr} (T : XfC X.K C) (no : PySem.W.findIn X.K (.ref C) "at" = some none) (hz : Zc (.ref C) (some dd) oe) (hf : ∃ vs, oe.data = .fields vs) (ho : jE (X.suite a ((a, oe) :: pn)) G o ρ M (.x a dd d) M1)
    (hb : attributeBase o "at" X.env (eval o X.env) = eval o X.env := by rfl) : jE (X.suite a ((a, oe) :: pn)) G (.Attribute o "at" pos) ρ M (.d d) M1 := fun S H σ st Q q =>
  PE.go (pe_xf T no hz hf peS hb) (ho S H σ st _ fun v S1 H1 e1 st1 r1 => by
    obtain ⟨rfl, w, e2, r2⟩ := r1
    exact ⟨rfl, rfl, dd, [("at", w)], w, rfl, st1.hst.sub dd _ e2, by simp [List.lookup], q w S1 H1 e1 st1 r2⟩)
end
end NL
set_option Elab.async false
set_option linter.all false
set_option maxRecDepth 100000
set_option maxHeartbeats 4000000
namespace NL
open PySem PySem.Spec L2
open PyProof.Rows hiding St
open LamX (lamEnv lamCx LamS CodeO lam_start2 TabB Tabs TabS ExtN lam_make2)
section
variable {X : Cx} {pins : List (Addr × Obj)} {σ : L2.St} {H : Hp} {s : Shared}
/-- a def of the text entered at this very state -/
theorem FunX.here {P : Program} {w : World} {K : PySem.W.Frag} {mg : Str → Option Value} {base : Heap} {CX : CXT} {x qual : Str} {st : Stmt} {f : Addr} {fd : FuncData} {N ps : List Str} {k : Nat} (F : FunX K x qual st f fd) (S : FnScope N ps (defScope st))
    {A : Around} {up : List Env} {s : Shared} {H : Hp} {as : Args} {us : List Value} {vs : List V} {Q : VK} {E : XK} (rm : Rm (k + 1) A) (env : Env0 P w K mg base A up s H) (bd : BindsTo s fd as (ps.zip us)) (rel : Vals vs us) (L : vs.length = ps.length)
    (body : ∀ cdv : Value, Rm k (A.deeper (envOfC qual (defScope st) s.heap.objs.size f cdv)) → semB' (cxOf CX P w K mg base N qual (defScope st) f cdv A up s H E) (defBody st) { nx := fun _ H' => Q .non H', rt := Q } (L2.start N vs) H) :
    codeAny (model P w) A (.call (.ref f) as) (CR CX up P w H s Q E) s := by
  obtain ⟨oc, od, dV, kV, doc, pm, an, cdv, ct, osl, rfl, lk, cin⟩ := F.ex
  have inK : K.In s.heap := env.mod.kin.keeps fun b o e => (env.bs b o e).1
  have nl : s.heap.NoLimit := env.mod.nolimit.keeps fun b o e => (env.bs b o e).1
  have ks : ∀ y ∈ ps.zip us, (defScope st).names.lookup y.1 = some .local ∨ ((defScope st).names.lookup y.1 = some .cell ∧ ((cellsFrom (s.heap.objs.size + 1) (defScope st).names []).lookup y.1).isSome = true) := fun ⟨n, v⟩ hy =>
    (S.par n (List.of_mem_zip hy).1).imp id fun q => ⟨q, PySem.W.cellsFrom_some _ _ _ (.inl q)⟩
  refine codeAny_call_function rm.room.depth (inK _ _ lk) rfl S.co S.gen rfl (PySem.W.codeRec_of inK cin) (bd _ _ _ _ (wpAny_newFunctionEnv_cells S.kind ks fun env1 he s1 z => ?_))
  subst he
  refine ⟨nl.keeps z.toInCall.keep, codeAny_func ?_⟩
  have I := inv_start (cd := cdv) (qual := qual) (f := f) (CX := CX) (E := E) S rm.room.hd env L rel z
  refine wpAny_mono ((body cdv ⟨rm.room.deeper _, rm.gd⟩).run [] s1 I) (fun fl s2 h2 => ?_) fun e s2 h2 => h2
  cases fl with
  | next =>
    obtain ⟨σ2, H2, J, q⟩ := h2
    exact ⟨V.non, H2, J.os, J.bare, J.base, J.hok, rfl, q⟩
  | ret u =>
    obtain ⟨v, σ2, H2, J, rv, q⟩ := h2
    exact ⟨v, H2, J.os, J.bare, J.base, J.hok, rv, q⟩
  | brk =>
    obtain ⟨_, _, _, q⟩ := h2
    exact q.elim
  | cont =>
    obtain ⟨_, _, _, q⟩ := h2
    exact q.elim
end
end NL
set_option Elab.async false
set_option linter.all false
set_option maxRecDepth 100000
set_option maxHeartbeats 4000000
namespace NL
open PySem PySem.Spec L2
open PyProof.Rows hiding St
open LamX (lamEnv lamCx LamS CodeO lam_start2 TabB TabS inv_table among_app codeO_ne)
end NL
set_option Elab.async false
set_option linter.all false
set_option maxRecDepth 100000
set_option maxHeartbeats 4000000
namespace NL
open PySem PySem.Spec L2
open PyProof.Rows hiding St
open LamX (lamEnv lamCx LamS CodeO lam_start2 TabB TabS)
end NL
set_option Elab.async false
set_option linter.all false
set_option maxRecDepth 100000
set_option maxHeartbeats 1000000
namespace NL
open PySem PySem.Spec L2
open PyProof.Rows hiding St
def lexLe : List Int → List Int → Bool
  | [], _ => true
  | _ :: _, [] => false
  | x :: xs, y :: ys => decide (x < y) || (decide (x = y) && lexLe xs ys)
theorem lexLe_total : ∀ a b, lexLe a b = true ∨ lexLe b a = true
  | [], _ => .inl rfl
  | _ :: _, [] => .inr rfl
  | x :: a, y :: b => by
    rcases Int.lt_trichotomy x y with h | h | h
    · exact .inl (by simp [lexLe, h])
    · subst h
      rcases lexLe_total a b with z | z
      · exact .inl (by simp [lexLe, z])
      · exact .inr (by simp [lexLe, z])
    · exact .inr (by simp [lexLe, h])
theorem lexLe_trans : ∀ {a b c : List Int}, lexLe a b = true → lexLe b c = true → lexLe a c = true
  | [], _, _, _, _ => rfl
  | _ :: _, [], _, h, _ => nomatch h
  | _ :: _, _ :: _, [], _, h => nomatch h
  | x :: a, y :: b, z :: c, h1, h2 => by
    simp only [lexLe, Bool.or_eq_true, Bool.and_eq_true, decide_eq_true_eq] at h1 h2 ⊢
    rcases h1 with h1 | ⟨h1, k1⟩
    · rcases h2 with h2 | ⟨h2, _⟩
      · exact .inl (by omega)
      · exact .inl (by omega)
    · rcases h2 with h2 | ⟨h2, k2⟩
      · exact .inl (by omega)
      · exact .inr ⟨by omega, lexLe_trans k1 k2⟩
theorem lexLe_antisymm : ∀ {a b : List Int}, lexLe a b = true → lexLe b a = true → a = b
  | [], [], _, _ => rfl
  | [], _ :: _, _, h => nomatch h
  | _ :: _, [], h, _ => nomatch h
  | x :: a, y :: b, h1, h2 => by
    simp only [lexLe, Bool.or_eq_true, Bool.and_eq_true, decide_eq_true_eq] at h1 h2
    rcases h1 with h1 | ⟨h1, k1⟩
    · rcases h2 with h2 | ⟨h2, _⟩ <;> omega
    · rcases h2 with h2 | ⟨_, k2⟩
      · omega
      · rw [h1, lexLe_antisymm k1 k2]
theorem keys_ints : ∀ a b : List Int, (!PyProof.Rows.lexLt PyProof.Rows.itemOrd (PySem.W.keyToksAll (b.map PyData.int)) (PySem.W.keyToksAll (a.map PyData.int))) = lexLe a b
  | [], [] => by simp [PySem.W.keyToksAll, PyProof.Rows.lexLt, PyProof.Rows.itemLt, lexLe]
  | [], y :: b => by simp [PySem.W.keyToksAll, PyProof.Rows.lexLt, PyProof.Rows.itemLt, lexLe]
  | x :: a, [] => by simp [PySem.W.keyToksAll, PyProof.Rows.lexLt, PyProof.Rows.itemLt, lexLe]
  | x :: a, y :: b => by
    have ih := keys_ints a b
    simp only [List.map_cons, PySem.W.keyToksAll, PySem.W.keyToks, List.cons_append, List.nil_append, PyProof.Rows.lexLt, PyProof.Rows.itemLt, lexLe]
    rw [← ih]
    rcases Int.lt_trichotomy x y with h | h | h
    · simp [h, show ¬ y < x by omega]
    · subst h; simp
    · simp [h, show ¬ x < y by omega, show ¬ x = y by omega]
theorem tLe_eq (a b : List Int) : tLe a b = lexLe a b := by
  rw [← keys_ints a b]
  rfl
def Srt (xs : List (List Int)) : Prop := xs.Pairwise fun a b => lexLe a b = true
theorem sortT_srt (xs : List (List Int)) : Srt (sortT xs) := by
  have h := List.pairwise_mergeSort (le := tLe) (fun a b c h1 h2 => by rw [tLe_eq] at *; exact lexLe_trans h1 h2) (fun a b => by rw [tLe_eq, tLe_eq, Bool.or_eq_true]; exact lexLe_total a b) xs
  exact h.imp fun z => by rwa [tLe_eq] at z
theorem srt_unique {xs ys : List (List Int)} (h : xs.Perm ys) (h1 : Srt xs) (h2 : Srt ys) : xs = ys :=
  h.eq_of_pairwise (fun a b _ _ z1 z2 => lexLe_antisymm z1 z2) h1 h2
theorem sortT_self {xs : List (List Int)} (h : Srt xs) : sortT xs = xs := srt_unique (sortT_perm xs) (sortT_srt xs) h
theorem Srt.sub {xs ys : List (List Int)} (h : Srt xs) (s : ys.Sublist xs) : Srt ys := h.sublist s
theorem srt_nil : Srt [] := List.Pairwise.nil
theorem code_lex {B : Int} : ∀ {a b : List Int}, a.length = b.length → TS.Bd B a → TS.Bd B b → TS.code B a ≤ TS.code B b → lexLe a b = true
  | [], _, _, _, _, _ => rfl
  | _ :: _, [], h, _, _, _ => nomatch h
  | x :: a, y :: b, h, h1, h2, hc => by
    have hl : a.length = b.length := by simpa using h
    simp only [lexLe, Bool.or_eq_true, Bool.and_eq_true, decide_eq_true_eq]
    rcases Int.lt_trichotomy x y with z | z | z
    · exact .inl z
    · refine .inr ⟨z, code_lex hl h1.tail h2.tail ?_⟩
      subst z
      simp only [TS.code, hl] at hc
      omega
    · have q : TS.code B (y :: b) < TS.code B (x :: a) := TS.code_lt hl.symm h2.tail h1.tail (by omega)
      omega
theorem srt_code {B : Int} {k : Nat} {xs : List (List Int)} (h : xs.Pairwise fun a b => TS.code B a ≤ TS.code B b) (h2 : ∀ t ∈ xs, t.length = k ∧ TS.Bd B t) : Srt xs := by
  refine List.Pairwise.imp_of_mem (fun {a b} ha hb z => ?_) h
  exact code_lex (by rw [(h2 a ha).1, (h2 b hb).1]) (h2 a ha).2 (h2 b hb).2 z
end NL
set_option Elab.async false
set_option linter.all false
set_option maxRecDepth 100000
set_option maxHeartbeats 4000000
namespace NL
open PySem PySem.Spec L2
open PyProof.Rows hiding St
def oexB (K : PySem.W.Frag) (C : Addr) : Bool := match K.lookup C with
  | some ⟨.type t, _, .cls cd, sl⟩ => (match cd.mro, sl.toList with
    | .ref C' :: bm, [_, _, _, _, some (.builtin n), _] => decide (t = "type") && (decide (C' = C) && (decide (n = "ValueError.__new__") && (!cd.hasDel && (cd.hasDict && PySem.HandSPX.refsVE bm))))
    | _, _ => false)
  | _ => false
theorem oexB_ok {K : PySem.W.Frag} {C : Addr} (h : oexB K C = true) : ∃ nm q N bs bm sn sub ab col dd k0 k1 k2 k3 k5, K.lookup C = some (excClassObj nm q C N bs bm true sn sub ab col dd k0 k1 k2 k3 k5 "ValueError.__new__") ∧ PySem.HandSPX.refsVE bm = true := by
  unfold oexB at h
  split at h
  · rename_i t dd cd sl ho
    split at h
    · rename_i C' bm k0 k1 k2 k3 n k5 hm hs
      simp only [Bool.and_eq_true, decide_eq_true_eq, Bool.not_eq_true'] at h
      obtain ⟨e1, e2, e3, e4, e5, e6⟩ := h
      obtain ⟨nm, bs, mro, ns, qn, hd, sn, sub, ab, col, del⟩ := cd
      dsimp only at hm e4 e5
      subst e1 e2 e3 e4 e5 hm
      have es : sl = #[k0, k1, k2, k3, some (.builtin "ValueError.__new__"), k5] := by
        obtain ⟨l⟩ := sl
        dsimp only at hs
        rw [hs]
      subst es
      exact ⟨nm, qn, ns, bs, bm, sn, sub, ab, col, dd, k0, k1, k2, k3, k5, ho, e6⟩
    · cases h
  · cases h
/-- what isinstance asks of the class of an error that has a dict -/
structure IsX (K : PySem.W.Frag) (C : Addr) : Prop where
  cl : (PySem.W.clsIn K C).isSome = true
  cc : PySem.W.findIn K (.ref C) "__class__" = some (some (.builtin "object.__class__"))
  ge : PySem.W.specialIn K (.builtin "object.__class__") "__get__" = some (some (.builtin "getset_descriptor.__get__"))
  tk : PySem.W.takesIn K (.builtin "object.__class__") = some true
  mr : PySem.W.mroIn K C (.type "object") = some true
def isxB (K : PySem.W.Frag) (C : Addr) : Bool := (PySem.W.clsIn K C).isSome && (decide (PySem.W.findIn K (.ref C) "__class__" = some (some (.builtin "object.__class__"))) && (decide (PySem.W.specialIn K (.builtin "object.__class__") "__get__" = some (some (.builtin "getset_descriptor.__get__"))) &&
  (decide (PySem.W.takesIn K (.builtin "object.__class__") = some true) && decide (PySem.W.mroIn K C (.type "object") = some true))))
theorem isxB_ok {K : PySem.W.Frag} {C : Addr} (h : isxB K C = true) : IsX K C := by
  unfold isxB at h
  simp only [Bool.and_eq_true, decide_eq_true_eq] at h
  obtain ⟨a, b, c, d, e⟩ := h
  exact ⟨a, b, c, d, e⟩
def iniB (K : PySem.W.Frag) (C f : Addr) : Bool := decide (PySem.W.findIn K (.ref C) "__setattr__" = some (some (.builtin "object.__setattr__"))) && (decide (PySem.W.subIn K (.ref C) (.type "BaseException") = some true) && (decide (PySem.W.typeIn K (.ref C) = some (.type "type")) && (PySem.W.keepIn K (.ref C) &&
  (decide (PySem.W.findIn K (.ref C) "__init__" = some (some (.ref f))) && (decide (PySem.W.typeIn K (.ref f) = some (.type "function")) && decide (PySem.W.findIn K (.ref C) "at" = some none))))))
/-- the class named x, whole -/
def excB (K : PySem.W.Frag) (x : Str) : Bool := oexB K (He.ga K x) && (xfB K (He.ga K x) && (isxB K (He.ga K x) && iniB K (He.ga K x) (He.ma K (He.ga K x) "__init__")))
theorem Fun.ofD {K : PySem.W.Frag} {x qual : Str} {st : Stmt} {f : Addr} {fd : FuncData} (F : FunD K x qual (defArgs st) (defBody st) (defScope st) [] [] f fd) : Fun K x qual st f fd := by
  obtain ⟨oc, od, dV, kV, doc, pm, an, cdv, ct, osl, rfl, lk, hcd, hD, _⟩ := F.ex
  rcases hD with ⟨_, rfl⟩ | ⟨z, _⟩
  · exact ⟨⟨oc, od, kV, doc, pm, an, cdv, ct, osl, rfl, lk, hcd⟩, F.kp⟩
  · exact absurd rfl z
/-- the class and what is asked of its errors -/
structure ExcK (K : PySem.W.Frag) (mg : Str → Option Value) (x qual : Str) (st : Stmt) extends ExcD K mg x qual st where
  is : IsX K C
abbrev dInit (x qual : Str) (st : Stmt) : He.DefD := ⟨(x, some "__init__"), "__init__", qual, defArgs st, defBody st, defScope st, [], []⟩
end NL
set_option Elab.async false
set_option linter.all false
set_option maxRecDepth 100000
set_option maxHeartbeats 4000000
namespace NL
open PySem PySem.Spec L2
open PyProof.Rows hiding St
open LamX (TabB TabS CodeO)
end NL
set_option Elab.async false
set_option linter.all false
set_option maxRecDepth 100000
set_option maxHeartbeats 4000000
namespace NL
open PySem PySem.Spec L2
open PyProof.Rows hiding St
abbrev FnP (K : PySem.W.Frag) (x qual : Str) (st : Stmt) (f : Addr) (fd : FuncData) : Prop := FunD K x qual (defArgs st) (defBody st) (defScope st) [] [] f fd
theorem FunX.ofD {K : PySem.W.Frag} {x qual : Str} {st : Stmt} {dvs : List V} {kws : List (Str × V)} {f : Addr} {fd : FuncData} (F : FunD K x qual (defArgs st) (defBody st) (defScope st) dvs kws f fd) : FunX K x qual st f fd := by
  obtain ⟨oc, od, dV, kV, doc, pm, an, cdv, ct, osl, rfl, lk, hcd, _, _⟩ := F.ex
  exact ⟨⟨oc, od, dV, kV, doc, pm, an, cdv, ct, osl, rfl, lk, hcd⟩, F.kp⟩
abbrev dPlain (x : Str) (st : Stmt) : He.DefD := ⟨(x, none), x, x, defArgs st, defBody st, defScope st, [], []⟩
section
variable {K : PySem.W.Frag} {mg : Str → Option Value} {h : Heap} {fa : List He.Fa} {fn : List He.DefD}
theorem def_of {x : Str} {st : Stmt} {ps : List Str} (X : K.In h) (G : h.Ns mainGlobals mg) (c : He.SaysD fa fn K) (i j : Nat) (h1 : fn[i]? = some (dPlain x st)) (h2 : fa[j]? = some (.glo x))
    (hb : ∀ (kV doc pm : Value) (an : Option Addr) (cdv ct : Value) (us : List Value), us.length = ps.length → bindArgs (PySem.W.fnOf x x (defArgs st) (defBody st) (defScope st) .none kV doc pm an cdv ct) ⟨us, []⟩ = pure (ps.zip us)) : ∃ T : Def K mg x st ps, FnP K x x st T.f T.fd ∧ T.f = He.fAd K (x, none) := by
  obtain ⟨fd, F⟩ := c.def_ i h1
  exact ⟨⟨_, fd, FunX.ofD F, F.bindsN hb, He.glo_ok X G (c.fact j h2)⟩, F, rfl⟩
/-- the error's class by its name -/
theorem excK_at {x qual : Str} {st : Stmt} (X : K.In h) (G : h.Ns mainGlobals mg) (c : He.SaysD fa fn K) (i j : Nat) (h1 : fn[i]? = some (dInit x qual st)) (h2 : fa[j]? = some (.glo x)) (hx : excB K x = true)
    (hb : ∀ (kV doc pm : Value) (an : Option Addr) (cdv ct : Value) (us : List Value), us.length = 2 → bindArgs (PySem.W.fnOf "__init__" qual (defArgs st) (defBody st) (defScope st) .none kV doc pm an cdv ct) ⟨us, []⟩ = pure ((["self", "at"] : List Str).zip us)) : ∃ X : ExcK K mg x qual st, X.C = He.ga K x := by
  obtain ⟨fd, F⟩ := c.def_ i h1
  unfold excB iniB at hx
  simp only [Bool.and_eq_true, decide_eq_true_eq] at hx
  obtain ⟨e1, e2, e3, e4, e5, e6, e7, e8, e9, e10⟩ := hx
  exact ⟨⟨⟨_, _, fd, Fun.ofD F, F.bindsN hb, He.glo_ok X G (c.fact j h2), ⟨oexB_ok e1, e4, e5, e6, e7⟩, xfB_ok e2, e8, e9, e10⟩, isxB_ok e3⟩, rfl⟩
/-- the law's def: how it binds, its code object -/
theorem law_facts {st : Stmt} {x : Str} {f : Addr} {fd : FuncData} (F : FnP K "law" "law" st f fd) (hf : f = He.fAd K ("law", none)) (hb : ∀ (kV doc pm : Value) (an : Option Addr) (cdv ct v : Value), bindArgs (PySem.W.fnOf "law" "law" (defArgs st) (defBody st) (defScope st) .none kV doc pm an cdv ct) ⟨[v], []⟩ = pure [(x, v)]) :
    (∀ (s : Shared) (v : Value), BindsTo s fd ⟨[v], []⟩ [(x, v)]) ∧ fd.code = .ref (He.cT K ("law", none)).1 := by
  obtain ⟨oc, od, dV, kV, doc, pm, an, cdv, ct, osl, rfl, lk, hcd, hD, hK⟩ := F.ex
  rcases hD with ⟨_, rfl⟩ | ⟨e, _⟩
  · refine ⟨fun s v => .of_eq (hb kV doc pm an cdv ct v), ?_⟩
    obtain ⟨c, rfl⟩ := He.codeIn_ref hcd
    rw [hf] at lk
    have := He.codeOf_eq lk rfl
    show Value.ref c = .ref (He.codeOf K ("law", none))
    rw [this]
  · exact absurd rfl e
end
end NL
set_option Elab.async false
set_option linter.all false
set_option maxRecDepth 100000
set_option maxHeartbeats 4000000
namespace NL
open PySem PySem.Spec L2
open PyProof.Rows hiding St
/-- the law's walk, the written part found by facts -/
theorem walk_lawE {l : PySem.W.OpenLaw} {n k : Nat} {q : Program} {loose : List Str} {XP : (Str → Option Value) → Heap → Prop} {YP : World → Heap → Prop} {d : DefRec} {x : Str} (hn : l.most = some n) (hz : n ≤ sizeLine) (hd : d.params.defaults = []) (rm : Room k callerA)
    (F : ∀ (w : World) (mg : Str → Option Value) (fa : Addr) (h : Heap), YP w h → h.Ns mainGlobals mg → mg d.name = some (.ref fa) →
      ∃ (K : PySem.W.Frag) (fd : FuncData) (sp : Sp), K.In h ∧ (∀ (s : Shared) (u : Value), BindsTo s fd ⟨[u], []⟩ [(x, u)]) ∧
        (∀ (H : Hp) (a : Addr) (ns : List Int), ns.length ≤ n → Only H → SqL K H a (ns.map V.int) → sp [.ref a] H (fun v _ => v = .bl true) E0) ∧
        ∀ base : Heap, K.In base → base.Ns mainGlobals mg → FnG l.prog w K mg base CX0 k fa fd [x] sp) :
    PySem.W.WalkO q loose XP YP l.row.toRowW d [] (fun f vs => PySem.call f vs) := by
  refine Att.attach_call hn hd fun w s0 s1 mg mb fa o pm cd doc a vs ns G Y h1 h2 h3 h4 hobj hints hlen hg => ?_
  obtain ⟨K, fd, sp, inK, bd, hsp, hF⟩ := F w mg fa _ Y G.T.g h4
  exact law_enter inK G.T.g G.T.b G.T.builtins G.T.nolimit hg hobj hints (Nat.le_trans hlen hz) rm hF bd fun H hO hS => hsp H a ns hlen hO hS
end NL
set_option Elab.async false
set_option linter.all false
set_option maxRecDepth 100000
set_option maxHeartbeats 4000000
namespace NL
open PySem PySem.Spec L2
open PyProof.Rows hiding St
section
variable {K : PySem.W.Frag}
theorem kb_of1 {K : PySem.W.Frag} {x : Str} {st : Stmt} {f : Addr} {fd : FuncData} {p1 : Str} (F : FnP K x x st f fd)
    (hb : ∀ (kV doc pm : Value) (an : Option Addr) (cdv ct a : Value), bindArgs (PySem.W.fnOf x x (defArgs st) (defBody st) (defScope st) .none kV doc pm an cdv ct) ⟨[], [(p1, a)]⟩ = pure [(p1, a)]) : KBn K fd [p1] 0 [p1] (fun us ws => us ++ ws.reverse) (fun vs zs => vs ++ zs.reverse) := by
  obtain ⟨oc, od, dV, kV, doc, pm, an, cdv, ct, osl, rfl, lk, hcd, hD, hK⟩ := F.ex
  rcases hD with ⟨_, rfl⟩ | ⟨e, _⟩
  · refine ⟨fun s us ws _ hu hw => ?_, fun r1 r2 => r1.append r2.reverse⟩
    match us, ws, hu, hw with
    | [], [a], _, _ => exact .of_eq (hb kV doc pm an cdv ct a)
  · exact absurd rfl e
end
end NL
set_option Elab.async false
set_option linter.all false
set_option maxRecDepth 100000
set_option maxHeartbeats 4000000
namespace K04
open PySem PySem.Spec L2 NL
open PyProof.Rows hiding St
def topS (i : Nat) : Stmt := PySem.Challenge.pw_noneleft_k04_texts_of_books.main.body.getD i (.Pass ⟨0, 0, 0, 0⟩)
abbrev s_p_is_integer : Stmt := topS 5
abbrev N_p_is_integer : List Str := ["value"]
abbrev A_p_is_integer : List Str := ["value"]
theorem sc_p_is_integer : FnScope N_p_is_integer A_p_is_integer (defScope s_p_is_integer) := ⟨rfl, rfl, rfl, by decide +kernel, rfl, by decide +kernel, by decide +kernel⟩
abbrev s_p_is_number : Stmt := topS 6
abbrev N_p_is_number : List Str := ["value"]
abbrev A_p_is_number : List Str := ["value"]
theorem sc_p_is_number : FnScope N_p_is_number A_p_is_number (defScope s_p_is_number) := ⟨rfl, rfl, rfl, by decide +kernel, rfl, by decide +kernel, by decide +kernel⟩
abbrev s_p_is_sequence : Stmt := topS 7
abbrev N_p_is_sequence : List Str := ["value"]
abbrev A_p_is_sequence : List Str := ["value"]
theorem sc_p_is_sequence : FnScope N_p_is_sequence A_p_is_sequence (defScope s_p_is_sequence) := ⟨rfl, rfl, rfl, by decide +kernel, rfl, by decide +kernel, by decide +kernel⟩
abbrev s_p_are_numbers : Stmt := topS 8
abbrev N_p_are_numbers : List Str := ["value", "many", "entry"]
abbrev A_p_are_numbers : List Str := ["value", "many"]
theorem sc_p_are_numbers : FnScope N_p_are_numbers A_p_are_numbers (defScope s_p_are_numbers) := ⟨rfl, rfl, rfl, by decide +kernel, rfl, by decide +kernel, by decide +kernel⟩
abbrev s_Book_init : Stmt := inClass (topS 10) 0
abbrev N_Book_init : List Str := ["self", "kinds", "batches", "found", "at", "batch"]
abbrev A_Book_init : List Str := ["self", "kinds", "batches"]
theorem sc_Book_init : FnScope N_Book_init A_Book_init (defScope s_Book_init) := ⟨rfl, rfl, rfl, by decide +kernel, rfl, by decide +kernel, by decide +kernel⟩
abbrev s_Book_eq : Stmt := inClass (topS 10) 1
abbrev N_Book_eq : List Str := ["self", "other"]
abbrev A_Book_eq : List Str := ["self", "other"]
theorem sc_Book_eq : FnScope N_Book_eq A_Book_eq (defScope s_Book_eq) := ⟨rfl, rfl, rfl, by decide +kernel, rfl, by decide +kernel, by decide +kernel⟩
abbrev s_p_is_batch : Stmt := topS 11
abbrev N_p_is_batch : List Str := ["kinds", "value"]
abbrev A_p_is_batch : List Str := ["kinds", "value"]
theorem sc_p_is_batch : FnScope N_p_is_batch A_p_is_batch (defScope s_p_is_batch) := ⟨rfl, rfl, rfl, by decide +kernel, rfl, by decide +kernel, by decide +kernel⟩
abbrev s_p_book_text : Stmt := topS 15
abbrev N_p_book_text : List Str := ["book", "lines", "batch", "number"]
abbrev A_p_book_text : List Str := ["book"]
theorem sc_p_book_text : FnScope N_p_book_text A_p_book_text (defScope s_p_book_text) := ⟨rfl, rfl, rfl, by decide +kernel, rfl, by decide +kernel, by decide +kernel⟩
abbrev s_p_read_book : Stmt := topS 16
abbrev N_p_read_book : List Str := ["text", "lines", "kinds", "batches", "at", "line", "batch"]
abbrev A_p_read_book : List Str := ["text"]
theorem sc_p_read_book : FnScope N_p_read_book A_p_read_book (defScope s_p_read_book) := ⟨rfl, rfl, rfl, by decide +kernel, rfl, by decide +kernel, by decide +kernel⟩
abbrev s_p_number_told : Stmt := topS 17
abbrev N_p_number_told : List Str := ["word", "most", "sign"]
abbrev A_p_number_told : List Str := ["word", "most"]
theorem sc_p_number_told : FnScope N_p_number_told A_p_number_told (defScope s_p_number_told) := ⟨rfl, rfl, rfl, by decide +kernel, rfl, by decide +kernel, by decide +kernel⟩
abbrev s_p_kinds_told : Stmt := topS 18
abbrev N_p_kinds_told : List Str := ["line", "words", "kinds"]
abbrev A_p_kinds_told : List Str := ["line"]
theorem sc_p_kinds_told : FnScope N_p_kinds_told A_p_kinds_told (defScope s_p_kinds_told) := ⟨rfl, rfl, rfl, by decide +kernel, rfl, by decide +kernel, by decide +kernel⟩
abbrev s_p_batch_told : Stmt := topS 19
abbrev N_p_batch_told : List Str := ["kinds", "line", "numbers", "word"]
abbrev A_p_batch_told : List Str := ["kinds", "line"]
theorem sc_p_batch_told : FnScope N_p_batch_told A_p_batch_told (defScope s_p_batch_told) := ⟨rfl, rfl, rfl, by decide +kernel, rfl, by decide +kernel, by decide +kernel⟩
abbrev s_draw : Stmt := topS 21
abbrev N_draw : List Str := ["_law_script", "_law_salt", "_law_cells", "_law_blend", "_law_cell"]
abbrev A_draw : List Str := ["_law_script", "_law_salt"]
theorem sc_draw : FnScope N_draw A_draw (defScope s_draw) := ⟨rfl, rfl, rfl, by decide +kernel, rfl, by decide +kernel, by decide +kernel⟩
abbrev s_any : Stmt := topS 22
abbrev N_any : List Str := ["_law_deal", "_law_bound", "_law_rest"]
abbrev A_any : List Str := ["_law_deal", "_law_bound"]
theorem sc_any : FnScope N_any A_any (defScope s_any) := ⟨rfl, rfl, rfl, by decide +kernel, rfl, by decide +kernel, by decide +kernel⟩
abbrev s_of : Stmt := topS 23
abbrev N_of : List Str := ["_law_deal", "_law_some"]
abbrev A_of : List Str := ["_law_deal", "_law_some"]
theorem sc_of : FnScope N_of A_of (defScope s_of) := ⟨rfl, rfl, rfl, by decide +kernel, rfl, by decide +kernel, by decide +kernel⟩
abbrev s_within : Stmt := topS 24
abbrev N_within : List Str := ["_law_one", "_law_other", "_law_at", "_law_x"]
abbrev A_within : List Str := ["_law_one", "_law_other"]
theorem sc_within : FnScope N_within A_within (defScope s_within) := ⟨rfl, rfl, rfl, by decide +kernel, rfl, by decide +kernel, by decide +kernel⟩
abbrev s_more : Stmt := topS 25
abbrev N_more : List Str := ["_law_one", "_law_other", "_law_at", "_law_x"]
abbrev A_more : List Str := ["_law_one", "_law_other"]
theorem sc_more : FnScope N_more A_more (defScope s_more) := ⟨rfl, rfl, rfl, by decide +kernel, rfl, by decide +kernel, by decide +kernel⟩
abbrev s_crowds : Stmt := topS 26
abbrev N_crowds : List Str := ["_law_kinds", "_law_size", "_law_found", "_law_x", "_law_rest"]
abbrev A_crowds : List Str := ["_law_kinds", "_law_size"]
theorem sc_crowds : FnScope N_crowds A_crowds (defScope s_crowds) := ⟨rfl, rfl, rfl, by decide +kernel, rfl, by decide +kernel, by decide +kernel⟩
abbrev s_zero : Stmt := topS 27
abbrev N_zero : List Str := ["_law_clocks", "_law_names", "_law_crowd", "_law_at", "_law_clock", "_law_whole", "_law_kind", "_law_x"]
abbrev A_zero : List Str := ["_law_clocks", "_law_names", "_law_crowd"]
theorem sc_zero : FnScope N_zero A_zero (defScope s_zero) := ⟨rfl, rfl, rfl, by decide +kernel, rfl, by decide +kernel, by decide +kernel⟩
abbrev s_named : Stmt := topS 28
abbrev N_named : List Str := ["_law_deal", "_law_kinds", "_law_form", "_law_clocks", "_law_names", "_law_found", "_law_size", "_law_crowd", "_law_clock", "_law_kind", "_law_one"]
abbrev A_named : List Str := ["_law_deal", "_law_kinds"]
theorem sc_named : FnScope N_named A_named (defScope s_named) := ⟨rfl, rfl, rfl, by decide +kernel, rfl, by decide +kernel, by decide +kernel⟩
abbrev s_book : Stmt := topS 29
abbrev N_book : List Str := ["_law_deal", "_law_most", "_law_kinds", "_law_form", "_law_batches", "_law_one", "_law_turn", "_law_batch"]
abbrev A_book : List Str := ["_law_deal", "_law_most"]
theorem sc_book : FnScope N_book A_book (defScope s_book) := ⟨rfl, rfl, rfl, by decide +kernel, rfl, by decide +kernel, by decide +kernel⟩
abbrev s_read : Stmt := topS 30
abbrev N_read : List Str := ["_law_text", "wrong"]
abbrev A_read : List Str := ["_law_text"]
theorem sc_read : FnScope N_read A_read (defScope s_read) := ⟨rfl, rfl, rfl, by decide +kernel, rfl, by decide +kernel, by decide +kernel⟩
abbrev s_line : Stmt := topS 31
abbrev N_line : List Str := ["_law_deal", "_law_kinds", "_law_lines", "_law_at", "_law_row", "_law_odd"]
abbrev A_line : List Str := ["_law_deal", "_law_kinds", "_law_lines", "_law_at"]
theorem sc_line : FnScope N_line A_line (defScope s_line) := ⟨rfl, rfl, rfl, by decide +kernel, rfl, by decide +kernel, by decide +kernel⟩
abbrev s_law : Stmt := topS 32
abbrev N_law : List Str := ["_law_script", "_law_deal", "_law_kinds", "_law_batches", "_law_book_here", "_law_lines", "_law_batch", "_law_text", "_law_at", "_law_spoilt", "_law_i", "_law_swapped", "_law_told", "_law_x"]
abbrev A_law : List Str := ["_law_script"]
theorem sc_law : FnScope N_law A_law (defScope s_law) := ⟨rfl, rfl, rfl, by decide +kernel, rfl, by decide +kernel, by decide +kernel⟩
structure Txt (K : PySem.W.Frag) (mg : Str → Option Value) where
  p_is_integer : Def K mg "is_integer" s_p_is_integer A_p_is_integer
  p_is_number : Def K mg "is_number" s_p_is_number A_p_is_number
  p_is_sequence : Def K mg "is_sequence" s_p_is_sequence A_p_is_sequence
  p_are_numbers : Def K mg "are_numbers" s_p_are_numbers A_p_are_numbers
  p_is_batch : Def K mg "is_batch" s_p_is_batch A_p_is_batch
  p_book_text : Def K mg "book_text" s_p_book_text A_p_book_text
  p_read_book : Def K mg "read_book" s_p_read_book A_p_read_book
  p_number_told : Def K mg "number_told" s_p_number_told A_p_number_told
  p_kinds_told : Def K mg "_kinds_told" s_p_kinds_told A_p_kinds_told
  p_batch_told : Def K mg "_batch_told" s_p_batch_told A_p_batch_told
  draw : Def K mg "_law_draw" s_draw A_draw
  any : Def K mg "_law_any" s_any A_any
  of : Def K mg "_law_of" s_of A_of
  within : Def K mg "_law_within" s_within A_within
  more : Def K mg "_law_more" s_more A_more
  crowds : Def K mg "_law_crowds" s_crowds A_crowds
  zero : Def K mg "_law_zero" s_zero A_zero
  named : Def K mg "_law_named" s_named A_named
  book : Def K mg "_law_book" s_book A_book
  read : Def K mg "_law_read" s_read A_read
  line : Def K mg "_law_line" s_line A_line
  law : Def K mg "law" s_law A_law
  Book : ClsD K mg "Book" "Book.__init__" s_Book_init A_Book_init
  nKinds : NoAttr K Book.C "kinds"
  nBatches : NoAttr K Book.C "batches"
  z_ValueError : mg "ValueError" = none
  z_abs : mg "abs" = none
  z_all : mg "all" = none
  z_any : mg "any" = none
  z_bool : mg "bool" = none
  z_enumerate : mg "enumerate" = none
  z_int : mg "int" = none
  z_isinstance : mg "isinstance" = none
  z_len : mg "len" = none
  z_list : mg "list" = none
  z_range : mg "range" = none
  z_set : mg "set" = none
  z_sorted : mg "sorted" = none
  z_str : mg "str" = none
  z_sum : mg "sum" = none
  z_tuple : mg "tuple" = none
end K04
set_option Elab.async false
set_option linter.all false
set_option maxRecDepth 100000
set_option maxHeartbeats 4000000
namespace K04
open PySem PySem.Spec L2 NL
open PyProof.Rows hiding St
def fn0 : List He.DefD := [dPlain "is_integer" s_p_is_integer, dPlain "is_number" s_p_is_number, dPlain "is_sequence" s_p_is_sequence, dPlain "are_numbers" s_p_are_numbers, dPlain "is_batch" s_p_is_batch, dPlain "book_text" s_p_book_text, dPlain "read_book" s_p_read_book, dPlain "number_told" s_p_number_told, dPlain "_kinds_told" s_p_kinds_told, dPlain "_batch_told" s_p_batch_told]
def fn1 : List He.DefD := [dPlain "_law_draw" s_draw, dPlain "_law_any" s_any, dPlain "_law_of" s_of, dPlain "_law_within" s_within, dPlain "_law_more" s_more, dPlain "_law_crowds" s_crowds, dPlain "_law_zero" s_zero, dPlain "_law_named" s_named, dPlain "_law_book" s_book, dPlain "_law_read" s_read]
def fn2 : List He.DefD := [dPlain "_law_line" s_line, dPlain "law" s_law]
def fnB : List He.DefD := [⟨("Book", some "__init__"), "__init__", "Book.__init__", defArgs s_Book_init, defBody s_Book_init, defScope s_Book_init, [], []⟩, dInit "InvalidText" "InvalidText.__init__" (inClass (topS 3) 0), ⟨("Book", some "__eq__"), "__eq__", "Book.__eq__", defArgs s_Book_eq, defBody s_Book_eq, defScope s_Book_eq, [], []⟩]
def fn : List He.DefD := fn0 ++ (fn1 ++ (fn2 ++ (fnB)))
def fa0 : List He.Fa := [.glo "is_integer", .glo "is_number", .glo "is_sequence", .glo "are_numbers", .glo "is_batch", .glo "book_text", .glo "read_book", .glo "number_told", .glo "_kinds_told", .glo "_batch_told"]
def fa1 : List He.Fa := [.glo "_law_draw", .glo "_law_any", .glo "_law_of", .glo "_law_within", .glo "_law_more", .glo "_law_crowds", .glo "_law_zero", .glo "_law_named", .glo "_law_book", .glo "_law_read"]
def fa2 : List He.Fa := [.glo "_law_line", .glo "law"]
def faB : List He.Fa := [.glo "Book", .cls "Book", .mkr "Book", .noat "Book" "kinds", .noat "Book" "batches", .glo "InvalidText"]
def faZ : List He.Fa := [.free "ValueError", .free "abs", .free "all", .free "any", .free "bool", .free "enumerate", .free "int", .free "isinstance", .free "len", .free "list", .free "range", .free "set", .free "sorted", .free "str", .free "sum", .free "tuple", .str "FIGURES" "0123456789", .int "MOST_FIGURES" 2]
def fa : List He.Fa := fa0 ++ (fa1 ++ (fa2 ++ (faB ++ (faZ))))
def tf : List He.Defn := [("law", none)]
def ex (K : PySem.W.Frag) : Bool := excB K "InvalidText" && (decide (PySem.W.exmOne K (.ref (He.ga K "InvalidText")) (.ref (He.ga K "InvalidText")) = some true) && (decide (PySem.W.findIn K (.ref (He.ga K "Book")) "__eq__" = some (some (.ref (He.fAd K ("Book", some "__eq__"))))) && (PySem.W.isFn K (.ref (He.fAd K ("Book", some "__eq__"))) && (decide (PySem.W.findIn K (.ref (He.ga K "Book")) "__ne__" = some (some (.builtin "object.__ne__"))) && (decide (PySem.W.mroIn K (He.ga K "Book") (.type "object") = some true) && (isxB K (He.ga K "Book") && (decide (PySem.W.kitOne K (.ref (He.ga K "Book")) (.ref (He.ga K "Book")) = some true))))))))
end K04
set_option Elab.async false
set_option linter.all false
set_option maxRecDepth 100000
set_option maxHeartbeats 0
namespace K04
open PySem PySem.Spec PyProof.Rows L2
abbrev R : PySem.W.OpenRow := PySem.W.OpenLaw.row PySem.Challenge.rw_noneleft_k04_texts_of_books
abbrev hk : PySem.W.Hook := He.hookX 4 fa fn [] tf ex
def ob (s : PySem.W.SharedT) : He.AlX := He.obsX 4 fa fn [] tf ex (HandSHeadRun.getT s)
theorem ob_eq (s : PySem.W.SharedT) : ob s = hk.obs s.abs := He.obsX_eq (HandSHeadRun.getT_eq s)
def lo0 : List Str := ["LeftError", "InvalidBook", "InvalidText", "Book", "is_integer", "is_number", "is_sequence", "are_numbers", "is_batch", "book_text", "read_book", "number_told", "_kinds_told", "_batch_told", "_law_draw", "_law_any", "_law_of", "_law_within", "_law_more", "_law_crowds"]
def lo1 : List Str := ["FIGURES", "MOST_FIGURES", "_law_zero", "_law_named", "_law_book", "_law_read", "_law_line"]
def loose : List Str := lo0 ++ (lo1)
theorem run (w : World) : HandSHeadRun.RunEq R (PySem.W.view R.prog [32]) hk ob 12000 loose w := by
  intro os
  kernel_rfl
end K04
set_option Elab.async false
set_option linter.all false
set_option maxRecDepth 100000
set_option maxHeartbeats 4000000
namespace K04
open PySem PySem.Spec L2 NL
open PyProof.Rows hiding St
section
variable {P : Program} {w : World} {K : PySem.W.Frag} {mg : Str → Option Value} {base : Heap}
theorem ok_any (T : Txt K mg) : FnG P w K mg base CX0 1 T.any.f T.any.fd A_any (spN K 2 W_any) := by
  refine fn_ok T.any.F sc_any fun cdv A outer s H E G ds M R hr hl hW => ?_
  obtain ⟨a, b, M0, dl, n, rfl, hba, rfl, hd, hn, hn2, q⟩ := hW
  refine b_cons (s_while (fun m ρ' M' => ρ' = rho0 N_any [.o a, .d (.int n)] ∧ ∃ cs, m = cs.length ∧ M' = dput M0 a b ⟨cs, dl.blend⟩ ∧ trimZ cs = trimZ dl.cells ∧ cs.length ≤ 48) dl.cells.length ⟨rfl, dl.cells, rfl, rfl, rfl, hd.len⟩ ?_ PassesOwn.never)
  rintro m ρ' M' ⟨rfl, cs, rfl, rfl, ht, hcl⟩
  have hb : dput M0 a b ⟨cs, dl.blend⟩ b = some (.lst ((cs.map PyData.int).map SV.d)) := by rw [← isv_eq]; exact dput_b hba
  refine ⟨!(cs.map PyData.int).isEmpty && decide (cs.getLast?.getD 0 = 0), _, t_ofW (w_and (tcmp (ix (v 0) e_int (ix_l (ls_o dput_a) atI_0)) e_nil (ne_nil hb hr.units ((ok_lI cs).mono (by decide)))) (fun hne => w_and1 (tcmp (ix (ix (v 0) e_int (ix_l (ls_o dput_a) atI_0)) (un e_int neg_i) (ix_l (ls_o hb) (d := .d (.int (cs.getLast?.getD 0))) ?_)) e_int eq_i)) fun _ => rfl), fun hc => ?_, fun hc => ?_⟩
  · rcases snoc cs with rfl | ⟨cs, c, rfl⟩
    · cases hne
    · exact last_at (by simp)
  · -- the last one is 0: it goes
    rcases snoc cs with rfl | ⟨cs, c, rfl⟩
    · cases hc
    · have hc0 : c = 0 := by simpa using hc
      subst hc0
      refine b_one (s_drop (e_pop0 (ix (v 0) e_int (ix_l (ls_o dput_a) atI_0)) hb (by simp; rfl)) ⟨cs.length, by simp, rfl, cs, rfl, ?_, ?_, ?_⟩)
      · have := dput_set_b (M := M0) (dl := ⟨cs ++ [0], dl.blend⟩) (cs := cs) hba
        rw [← this]
        simp [isv_eq]
      · rw [← ht, trimZ_app, if_pos rfl]
      · simp at hcl; omega
  · -- what is left
    have hcs : cs = trimZ dl.cells := by
      rcases snoc cs with rfl | ⟨cs, c, rfl⟩
      · rw [← ht]; rfl
      · have hc0 : ¬ c = 0 := by simpa using hc
        rw [← ht, trimZ_app, if_neg hc0]
    refine b_cons (s_if (tcmp (ix (v 0) e_int (ix_l (ls_o dput_a) atI_0)) e_nil (ne_nil hb hr.units ((ok_lI cs).mono (by decide)))) (fun h1 => ?_) (fun h1 => b_nil ?_))
    · -- a great number is there
      rcases snoc cs with rfl | ⟨cs, c, rfl⟩
      · cases h1
      · have e1 : NL.anyR dl n = (c % n, ⟨cs ++ [c / n], dl.blend⟩) := by
          unfold NL.anyR
          rw [← hcs, List.getLast?_concat, List.dropLast_concat]
        rw [e1] at q
        refine b_cons (st 2 (callT (a_cons (e_pop0 (ix (v 0) e_int (ix_l (ls_o dput_a) atI_0)) hb (by simp; rfl)) a_nil) c_int T.z_int) ?_ sc_any.nd)
        have e2 : mset (dput M0 a b ⟨cs ++ [c], dl.blend⟩) b (.lst (((cs ++ [c]).map PyData.int).map SV.d).dropLast) = dput M0 a b ⟨cs, dl.blend⟩ := by
          rw [← dput_set_b (dl := ⟨cs ++ [c], dl.blend⟩) (cs := cs) hba]
          simp [isv_eq]
        rw [e2]
        have hb2 : dput M0 a b ⟨cs, dl.blend⟩ b = some (.lst (isv cs)) := dput_b hba
        refine b_cons (s_drop (e_append (ix (v 0) e_int (ix_l (ls_o dput_a) atI_0)) hb2 (bin (v 2) (v 1) (div_i ⟨hn, hn2⟩)) hb2 (by simp [isv]; simp at hcl; omega)) ?_)
        refine b_one (ret (bin (v 2) (v 1) (mod_i hn)) ?_)
        have e3 : mset (dput M0 a b ⟨cs, dl.blend⟩) b (.lst (isv cs ++ [.d (.int (c / n))])) = dput M0 a b ⟨cs ++ [c / n], dl.blend⟩ := by
          rw [← dput_set_b (dl := ⟨cs, dl.blend⟩) (cs := cs ++ [c / n]) hba]
          simp [isv]
        rw [e3]
        exact q
    · have e0 : cs = [] := by simpa using h1
      subst e0
      have e1 : NL.anyR dl n = ((((dl.blend * 40693 + 71) % 2147483647) / 64) % n, ⟨[], (dl.blend * 40693 + 71) % 2147483647⟩) := by
        unfold NL.anyR
        rw [← hcs]
        rfl
      rw [e1] at q
      refine b_cons (s_setIx (bin (callT (a_cons (bin (bin (ix (v 0) e_int (ix_l (ls_o dput_a) atI_1)) e_int (mul_i (.inl ⟨by show _ < dl.blend; have := hd.lo; omega, by show dl.blend < _; have := hd.hi; omega⟩))) e_int add_i) a_nil) c_int T.z_int) e_int (mod_i (by decide))) (v 0) e_int dput_a rfl ?_)
      have e2 := dput_set_a (M := M0) (a := a) (b := b) (dl := ⟨[], dl.blend⟩) (n := (dl.blend * 40693 + 71) % 2147483647)
      refine b_one (ret (bin (callT (a_cons (bin (ix (v 0) e_int (ix_l (ls_o mset_same) atI_1)) e_int (div_i ⟨by decide, by decide⟩)) a_nil) c_int T.z_int) (v 1) (mod_i hn)) ?_)
      show R _ (mset (dput M0 a b ⟨[], dl.blend⟩) a (.lst [SV.o b, SV.d (.int ((dl.blend * 40693 + 71) % 2147483647))]))
      rw [e2]
      exact q
end
end K04
set_option Elab.async false
set_option linter.all false
set_option maxRecDepth 100000
set_option maxHeartbeats 4000000
namespace K04
open PySem PySem.Spec L2 NL
open PyProof.Rows hiding St
section
variable {P : Program} {w : World} {K : PySem.W.Frag} {mg : Str → Option Value} {base : Heap}
def W_of : Wp := fun ds M R => ∃ (a b : Addr) (M0 : MM) (dl : Deal) (s : SV) (xs : List SV), ds = [.o a, s] ∧ s ≠ .u ∧ b ≠ a ∧ M = dput M0 a b dl ∧ dl.Ok ∧ (∀ dl', LsV (dput M0 a b dl') s xs) ∧ 0 < xs.length ∧ xs.length ≤ 1000000 ∧
  ∀ d, xs[(NL.anyR dl xs.length).1.toNat]? = some d → R d (dput M0 a b (NL.anyR dl xs.length).2)
theorem ok_of (T : Txt K mg) : FnG P w K mg base CX0 2 T.of.f T.of.fd A_of (spN K 2 W_of) := by
  refine fn_ok T.of.F sc_of fun cdv A outer s H E G ds M R hr hl hW => ?_
  obtain ⟨a, b, M0, dl, s, xs, rfl, hs, hba, rfl, hd, hx, hn, hn2, q⟩ := hW
  obtain ⟨h0, h1, h2⟩ := anyR_ok hd (n := xs.length) (by omega)
  have hlt : (NL.anyR dl xs.length).1.toNat < xs.length := by omega
  have hg := List.getElem?_eq_getElem hlt
  refine b_one (ret (ix (v 1 (hd := hs)) (call T.any (ok_any T) hr (a_cons (v 0) (a_cons (callB (a_cons (v 1 (hd := hs)) a_nil) (c_len (hx dl)) T.z_len) a_nil)) fun R' h => ⟨a, b, M0, dl, _, rfl, hba, rfl, hd, by omega, by omega, h⟩) (ix_l (hx _) (atI_toNat h0 hg))) (q _ hg))
def withinR (xs ys : List Int) : Bool := ((List.range xs.length).map fun i => decide (xs.getD i 0 ≤ ys.getD i 0)).all id
def W_within : Wp := fun ds M R => ∃ (xs ys : List Int), ds = [.d (tI xs), .d (tI ys)] ∧ xs.length = ys.length ∧ xs.length ≤ 1000 ∧ R (.d (.bool (withinR xs ys))) M
theorem ok_within (T : Txt K mg) : FnG P w K mg base CX0 1 T.within.f T.within.fd A_within (spN K 2 W_within) := by
  refine fn_ok T.within.F sc_within fun cdv A outer s H E G ds M R hr hl hW => ?_
  obtain ⟨xs, ys, rfl, hxy, hn, q⟩ := hW
  refine b_one (ret (callB (a_cons (e_ofL' (xs := ((List.range xs.length).map fun i => decide (xs.getD i 0 ≤ ys.getD i 0)).map PyData.bool) (l_lc (own := [("_law_at", 2), ("_law_x", 3)]) (fun _ => M) (fun i => some (.d (.bool (decide (xs.getD i 0 ≤ ys.getD i 0)))))
    (i_enumT (xs := xs.map PyData.int) (a_cons (v 0) a_nil) T.z_enumerate) (bk sc_within (by decide +kernel)) sc_within.nd (fun _ _ => trivial) (by simp [enD_len]; omega) fun i d hd => ?_) ?_) a_nil) (c_all rfl ls_bs) T.z_all) q)
  · obtain ⟨hi, rfl⟩ := enD_int hd
    refine ⟨true, _, _, M, ?_, fun s H C cl fp => g_tup2 rfl (gn 2 sc_within.nd) (gn 3 sc_within.nd), fun s H C cl fp G => ts_nil, fun _ => ⟨_, rfl, fun s H C cl fp G => cmp (v 3) (ix (v 1) (v 2) (ix_t (getD_at (by omega)))) le_i⟩, fun z => nomatch z⟩
    decide
  · rw [enD_len, List.length_map, outs_some (fun i => decide (xs.getD i 0 ≤ ys.getD i 0)) (fun b => SV.d (.bool b))]
    simp
end
end K04
set_option Elab.async false
set_option linter.all false
set_option maxRecDepth 100000
set_option maxHeartbeats 4000000
namespace K04
open PySem PySem.Spec L2 NL
open PyProof.Rows hiding St
section
variable {P : Program} {w : World} {K : PySem.W.Frag} {mg : Str → Option Value} {base : Heap}
def moreR (xs ys : List Int) : List Int := (List.range xs.length).map fun i => xs.getD i 0 + ys.getD i 0
def W_more : Wp := fun ds M R => ∃ (xs ys : List Int), ds = [.d (tI xs), .d (tI ys)] ∧ xs.length = ys.length ∧ xs.length ≤ 1000 ∧ R (.d (tI (moreR xs ys))) M
theorem ok_more (T : Txt K mg) : FnG P w K mg base CX0 1 T.more.f T.more.fd A_more (spN K 2 W_more) := by
  refine fn_ok T.more.F sc_more fun cdv A outer s H E G ds M R hr hl hW => ?_
  obtain ⟨xs, ys, rfl, hxy, hn, q⟩ := hW
  refine b_one (ret (callT (a_cons (e_ofL' (xs := (moreR xs ys).map PyData.int) (l_lc (own := [("_law_at", 2), ("_law_x", 3)]) (fun _ => M) (fun i => some (.d (.int (xs.getD i 0 + ys.getD i 0))))
    (i_enumT (xs := xs.map PyData.int) (a_cons (v 0) a_nil) T.z_enumerate) (bk sc_more (by decide +kernel)) sc_more.nd (fun _ _ => trivial) (by simp [enD_len]; omega) fun i d hd => ?_) ?_) a_nil) (c_tupleL rfl) T.z_tuple) q)
  · obtain ⟨hi, rfl⟩ := enD_int hd
    refine ⟨true, _, _, M, ?_, fun s H C cl fp => g_tup2 rfl (gn 2 sc_more.nd) (gn 3 sc_more.nd), fun s H C cl fp G => ts_nil, fun _ => ⟨_, rfl, fun s H C cl fp G => bin (v 3) (ix (v 1) (v 2) (ix_t (getD_at (by omega)))) add_i⟩, fun z => nomatch z⟩
    decide
  · rw [enD_len, List.length_map, outs_some (fun i => xs.getD i 0 + ys.getD i 0) (fun b => SV.d (.int b))]
    simp [moreR]
def crowdsR : Nat → Nat → List (List Int)
  | 0, s => [[(s : Int)]]
  | k + 1, s => (List.range (s + 1)).flatMap fun x => (crowdsR k (s - x)).map fun r => (x : Int) :: r
theorem crowdsR_len : ∀ k s, (crowdsR k s).length ≤ (s + 1) ^ k
  | 0, s => by simp [crowdsR]
  | k + 1, s => by
    rw [crowdsR, List.length_flatMap]
    have : ∀ n, n ≤ s + 1 → ((List.range n).map fun x => ((crowdsR k (s - x)).map fun r => (x : Int) :: r).length).sum ≤ n * (s + 1) ^ k := by
      intro n
      induction n with
      | zero => intro _; simp
      | succ n ih =>
        intro h
        rw [List.range_succ, List.map_append, List.sum_append, Nat.succ_mul]
        refine Nat.add_le_add (ih (by omega)) ?_
        simp only [List.map_cons, List.map_nil, List.sum_cons, List.sum_nil, List.length_map, Nat.add_zero]
        exact Nat.le_trans (crowdsR_len k (s - n)) (Nat.pow_le_pow_left (by omega) k)
    rw [Nat.pow_succ, Nat.mul_comm]
    exact this (s + 1) (Nat.le_refl _)
theorem crowdsR_mem : ∀ k s r, r ∈ crowdsR k s ↔ r.length = k + 1 ∧ (∀ x ∈ r, 0 ≤ x) ∧ r.sum = s
  | 0, s, r => by
    rw [crowdsR, List.mem_singleton]
    constructor
    · rintro rfl
      exact ⟨rfl, fun x hx => by rw [List.mem_singleton.mp hx]; omega, by simp⟩
    · rintro ⟨h1, h2, h3⟩
      match r, h1 with
      | [x], _ => simp at h3; rw [h3]
  | k + 1, s, r => by
    rw [crowdsR, List.mem_flatMap]
    constructor
    · rintro ⟨x, hx, hr⟩
      obtain ⟨t, ht, rfl⟩ := List.mem_map.mp hr
      obtain ⟨a, b, c⟩ := (crowdsR_mem k _ t).mp ht
      have hx := List.mem_range.mp hx
      refine ⟨by simp [a], fun y hy => ?_, by rw [List.sum_cons, c]; omega⟩
      rcases List.mem_cons.mp hy with rfl | hy
      · omega
      · exact b y hy
    · rintro ⟨h1, h2, h3⟩
      match r, h1 with
      | x :: t, h1 =>
        have hx := h2 x (List.mem_cons_self ..)
        have ht : 0 ≤ t.sum := by
          have : ∀ l : List Int, (∀ y ∈ l, 0 ≤ y) → 0 ≤ l.sum := by
            intro l
            induction l with
            | nil => simp
            | cons y l ih => intro h; rw [List.sum_cons]; have := h y (List.mem_cons_self ..); have := ih fun z hz => h z (List.mem_cons_of_mem _ hz); omega
          exact this t fun y hy => h2 y (List.mem_cons_of_mem _ hy)
        rw [List.sum_cons] at h3
        refine ⟨x.toNat, List.mem_range.mpr (by omega), List.mem_map.mpr ⟨t, (crowdsR_mem k _ t).mpr ⟨by simpa using h1, fun y hy => h2 y (List.mem_cons_of_mem _ hy), by omega⟩, ?_⟩⟩
        rw [Int.toNat_of_nonneg hx]
def W_crowds (k : Nat) : Wp := fun ds M R => ∃ (s : Nat), ds = [.d (.int (k + 1 : Nat)), .d (.int s)] ∧ k ≤ 100 ∧ s ≤ 1000 ∧ (s + 1) ^ k ≤ 500000 ∧ R (.d (lT (crowdsR k s))) M
def preC (k s n : Nat) : List (List Int) := (List.range n).flatMap fun x => (crowdsR k (s - x)).map fun r => (x : Int) :: r
theorem preC_len (k s n : Nat) (h : n ≤ s + 1) : (preC k s n).length ≤ n * (s + 1) ^ k := by
  unfold preC
  rw [List.length_flatMap]
  induction n with
  | zero => simp
  | succ n ih =>
    rw [List.range_succ, List.map_append, List.sum_append, Nat.succ_mul]
    refine Nat.add_le_add (ih (by omega)) ?_
    simp only [List.map_cons, List.map_nil, List.sum_cons, List.sum_nil, List.length_map, Nat.add_zero]
    exact Nat.le_trans (crowdsR_len k (s - n)) (Nat.pow_le_pow_left (by omega) k)
theorem preC_succ (k s n : Nat) : preC k s (n + 1) = preC k s n ++ (crowdsR k (s - n)).map fun r => (n : Int) :: r := by
  unfold preC; rw [List.range_succ, List.flatMap_append]; simp
theorem ok_crowds (T : Txt K mg) : ∀ k, FnG P w K mg base CX0 (k + 1) T.crowds.f T.crowds.fd A_crowds (spN K 2 (W_crowds k)) := by
  intro k
  induction k with
  | zero =>
    refine fn_ok T.crowds.F sc_crowds fun cdv A outer s H E G ds M R hr hl hW => ?_
    obtain ⟨n, rfl, hk, hn, hp, q⟩ := hW
    refine b_cons (s_if (tcmp (v 0) e_int eq_i) (fun _ => ?_) fun h => ?_)
    · exact b_one (ret (e_ofL (xs := [tI [(n : Int)]]) (e_lst (a_cons (e_tup (xs := [.int n]) (a_cons (v 1) a_nil)) a_nil))) q)
    · simp at h
  | succ k ih =>
    refine fn_ok T.crowds.F sc_crowds fun cdv A outer s H E G ds M R hr hl hW => ?_
    obtain ⟨n, rfl, hk, hn, hp, q⟩ := hW
    have hp' : (n + 1) * (n + 1) ^ k ≤ 500000 := by rw [Nat.pow_succ, Nat.mul_comm] at hp; exact hp
    refine b_cons (s_if (tcmp (v 0) e_int eq_i) (fun h => ?_) fun h => b_nil ?_)
    · simp at h; omega
    refine b_cons (st 2 (e_ofL (xs := []) (e_lst a_nil)) ?_ sc_crowds.nd)
    refine b_cons (s_for (fun i ρ' M' => M = M' ∧ ∃ x, ρ' = [.d (.int (k + 1 + 1 : Nat)), .d (.int n), .d (lT (preC k n i)), x, .u]) (i_range1 (a_cons (bin (v 1) e_int add_i) a_nil) (by omega) (by omega) T.z_range) ⟨rfl, _, rfl⟩ (fun _ _ _ _ => trivial) ?_ ?_ PassesOwn.never)
    · rintro G i d ρ' M' hd ⟨rfl, x, rfl⟩
      obtain ⟨hi, rfl⟩ := rgD_at hd
      have hi : i < n + 1 := by omega
      refine ⟨_, _, gn 3 sc_crowds.nd, ?_⟩
      have l1 := preC_len k n i (by omega)
      have l2 := crowdsR_len k (n - i)
      have l3 : (n - i + 1) ^ k ≤ (n + 1) ^ k := Nat.pow_le_pow_left (by omega) k
      have l4 : (i + 1) * (n + 1) ^ k ≤ (n + 1) * (n + 1) ^ k := Nat.mul_le_mul_right _ (by omega)
      have l5 : (i + 1) * (n + 1) ^ k = i * (n + 1) ^ k + (n + 1) ^ k := Nat.succ_mul _ _
      refine b_one (st 2 (e_ofL' (xs := (preC k n (i + 1)).map tI) (binL (v 2) (e_ofL' (xs := ((crowdsR k (n - i)).map fun r => (i : Int) :: r).map tI) (l_lc (own := [("_law_rest", 4)]) (fun _ => M) (fun j => some (.d (tI ((i : Int) :: (crowdsR k (n - i)).getD j []))))
        (i_list (xs := (crowdsR k (n - i)).map tI) (call T.crowds ih hr (a_cons (bin (v 0) e_int sub_i) (a_cons (bin (v 1) (v 3) sub_i) a_nil)) fun R' h => ⟨n - i, ?_, by omega, by omega, by omega, h⟩)) (bk sc_crowds (by decide +kernel)) sc_crowds.nd (fun _ _ => trivial) ?_ fun j d hj => ?_) ?_) (cat_l ls_d ls_d ?_)) ?_) ⟨rfl, _, rfl⟩ sc_crowds.nd)
      · have e1 : ((k + 1 + 1 : Nat) : Int) - 1 = (k + 1 : Nat) := by omega
        have e2 : ((n : Nat) : Int) - (0 + (i : Nat)) = (n - i : Nat) := by omega
        rw [e1, e2]
      · simp; omega
      · obtain ⟨hj', rfl⟩ := map_at [] hj
        refine ⟨true, _, _, M, ?_, fun s H C cl fp => gn 4 sc_crowds.nd, fun s H C cl fp G => ts_nil, fun _ => ⟨_, rfl, fun s H C cl fp G => (bin (e_tup (xs := [.int (0 + (i : Nat))]) (a_cons (v 3) a_nil)) (v 4) (cat_t ?_)).is ?_⟩, fun z => nomatch z⟩
        · decide
        · have hm : (crowdsR k (n - i)).getD j [] ∈ crowdsR k (n - i) := by
            simp [List.getD, hj']
          have := ((crowdsR_mem k _ _).mp hm).1
          rw [List.length_map, this]
          show 1 + (k + 1) ≤ 1000000
          omega
        · simp [tI]
      · rw [List.length_map, List.length_map, outs_map (crowdsR k (n - i)) [] (fun r => SV.d (tI ((i : Int) :: r)))]
        simp
      · simp; omega
      · rw [preC_succ, List.map_append, List.map_append]
    · rintro ρ' M' ⟨rfl, x, rfl⟩
      have e : (((n : Nat) : Int) + 1).toNat = n + 1 := by omega
      refine b_one (ret (v 2) ?_)
      show R (.d (lT (preC k n (rgD 0 (((n : Nat) : Int) + 1).toNat).length))) M
      simp only [rgD, List.length_map, List.length_range, e]
      exact q
end
end K04
set_option Elab.async false
set_option linter.all false
set_option maxRecDepth 100000
set_option maxHeartbeats 4000000
namespace K04
open PySem PySem.Spec L2 NL
open PyProof.Rows hiding St
section
variable {P : Program} {w : World} {K : PySem.W.Frag} {mg : Str → Option Value} {base : Heap}
def absI (i : Int) : Int := if i < 0 then -i else i
theorem absI_nn (i : Int) : 0 ≤ absI i := by unfold absI; split <;> omega
def W_draw : Wp := fun ds M R => ∃ (ns : List Int) (salt : Int), ds = [.q (ns.map PyData.int), .d (.int salt)] ∧ 0 ≤ salt ∧ salt < 1000 ∧ ∀ (a b : Addr) (dl : Deal), b ≠ a → M a = none → M b = none → dl.Ok → R (.o a) (dput M a b dl)
theorem int_at {ns : List Int} {i : Nat} {d : SV} (h : ((ns.map PyData.int).map SV.d)[i]? = some d) : i < ns.length ∧ d = .d (.int (ns.getD i 0)) := map_at 0 h
theorem ok_draw (T : Txt K mg) : FnG P w K mg base CX0 1 T.draw.f T.draw.fd A_draw (spN K 2 W_draw) := by
  refine fn_ok T.draw.F sc_draw fun cdv A outer s H E G ds M R hr hl hW => ?_
  obtain ⟨ns, salt, rfl, hs1, hs2, q0⟩ := hW
  obtain ⟨cut, hcut, hcl⟩ : ∃ cut : List Int, cutS ((ns.map PyData.int).map SV.d) none (some 48) = (cut.map PyData.int).map SV.d ∧ cut.length ≤ 48 :=
    ⟨ns.take 48, by rw [List.map_map, cutS_0 _ _ 48 (by decide), List.map_map]; rfl, by rw [List.length_take]; omega⟩
  have hcs : (cut.map absI).length ≤ 48 := by simpa using hcl
  refine b_cons (s_setLd (own := [("_law_cell", 4)]) (ys := (cut.map absI).map PyData.int) 2 (fun _ => M) (fun j => some (.d (.int (absI (cut.getD j 0))))) (i_list (e_ofL' (l_sliceQ (v 0) o_none (o_some e_int)) hcut)) (bk sc_draw (by decide +kernel)) sc_draw.nd (fun _ _ => trivial) (by simp; omega) (fun j d hj => ?_) ?_ ?_)
  · obtain ⟨hj', rfl⟩ := int_at hj
    refine ⟨true, _, _, M, ?_, fun s H C cl fp => gn 4 sc_draw.nd, fun s H C cl fp G => ts_nil, fun _ => ⟨_, rfl, fun s H C cl fp G => callB (a_cons (callT (a_cons (v 4) a_nil) c_int T.z_int) a_nil) c_abs T.z_abs⟩, fun z => nomatch z⟩
    decide
  · rw [List.length_map, List.length_map, outs_map cut 0 (fun r => SV.d (.int (absI r)))]
    simp
  refine b_cons (st 3 (bin e_int (bin e_int (v 1) (mul_i (.inl ⟨by omega, by omega⟩))) add_i) ?_ sc_draw.nd)
  refine b_cons (s_for (fun i ρ' M' => M = M' ∧ ∃ bl x, 0 ≤ bl ∧ bl < 2147483647 ∧ ρ' = [.q (ns.map PyData.int), .d (.int salt), .d (lI (cut.map absI)), .d (.int bl), x]) (i_list (xs := (cut.map absI).map PyData.int) (v 2)) ⟨rfl, _, _, by omega, by omega, rfl⟩ (fun _ _ _ _ => trivial) ?_ ?_ PassesOwn.never)
  · rintro G i d ρ' M' hd ⟨rfl, bl, x, h1, h2, rfl⟩
    obtain ⟨hi, rfl⟩ := int_at hd
    refine ⟨_, _, gn 4 sc_draw.nd, ?_⟩
    refine b_one (st 3 (bin (callT (a_cons (bin (bin (bin (v 3) e_int (mul_i (.inl ⟨by omega, by omega⟩))) (bin (v 4) e_int (mod_i (by decide))) add_i) e_int add_i) a_nil) c_int T.z_int) e_int (mod_i (by decide))) ⟨rfl, _, _, ?_, ?_, rfl⟩ sc_draw.nd)
    · exact Int.emod_nonneg _ (by decide)
    · exact Int.emod_lt_of_pos _ (by decide)
  · rintro ρ' M' ⟨rfl, bl, x, h1, h2, rfl⟩
    refine b_one (retN (n_lst2 (M2 := M) (l_rev (e_ofL' (xs := ((cut.map absI).filter fun c => decide ((10 : Int) ^ 18 ≤ c)).map PyData.int) (l_lc (own := [("_law_cell", 4)]) (fun _ => M) (fun j => if decide ((10 : Int) ^ 18 ≤ (cut.map absI).getD j 0) then some (.d (.int ((cut.map absI).getD j 0))) else none) (i_list (xs := (cut.map absI).map PyData.int) (v 2)) (bk sc_draw (by decide +kernel)) sc_draw.nd (fun _ _ => trivial) (by simp; omega) fun j d hj => ?_) ?_) ls_lI) (fun _ _ => v 3) fun q r n1 n2 => ?_))
    · obtain ⟨hj', rfl⟩ := int_at hj
      refine ⟨decide ((10 : Int) ^ 18 ≤ (cut.map absI).getD j 0), _, _, M, ?_, fun s H C cl fp => gn 4 sc_draw.nd, fun s H C cl fp G => ts_one (tcmp (v 4) (bin e_int e_int (pow_i ⟨by decide, by decide, by decide⟩)) ge_i), fun h => ⟨_, if_pos h, fun s H C cl fp G => v 4⟩, fun h => ⟨if_neg (by rw [h]; exact fun z => nomatch z), rfl⟩⟩
      decide
    · rw [List.length_map, List.length_map, outs_filter (cut.map absI) 0 (fun c => decide ((10 : Int) ^ 18 ≤ c)) (fun r => SV.d (.int r))]
      simp
    · have hd : Deal.Ok ⟨((cut.map absI).filter fun c => decide ((10 : Int) ^ 18 ≤ c)).reverse, bl⟩ := by
        refine ⟨fun c hc => ?_, h1, h2, ?_⟩
        · obtain ⟨z, _, rfl⟩ := List.mem_map.mp (List.mem_filter.mp (List.mem_reverse.mp hc)).1
          exact absI_nn z
        · rw [List.length_reverse]
          exact Nat.le_trans (List.length_filter_le _ _) hcs
      have hqr : q ≠ r := fun e => by rw [e, mset_same] at n2; cases n2
      have hr0 : M r = none := by rw [mset_ne (Ne.symm hqr)] at n2; exact n2
      have key := q0 r q _ hqr hr0 n1 hd
      unfold dput at key
      rw [show isv ((cut.map absI).filter fun c => decide ((10 : Int) ^ 18 ≤ c)).reverse = (isv ((cut.map absI).filter fun c => decide ((10 : Int) ^ 18 ≤ c))).reverse by simp [isv]] at key
      exact key
def wholeR (names : List (List Int)) (crowd : List Int) (i : Nat) : Int := ((List.range crowd.length).map fun j => crowd.getD j 0 * (names.getD i []).getD j 0).sum
def badR (clocks : List Int) (names : List (List Int)) (crowd : List Int) (i : Nat) : Bool := !decide (wholeR names crowd i = 0) && (decide (clocks.getD i 0 = 0) || !decide (wholeR names crowd i % clocks.getD i 0 = 0))
def zeroR (clocks : List Int) (names : List (List Int)) (crowd : List Int) : Bool := (List.range clocks.length).all fun i => !badR clocks names crowd i
def W_zero : Wp := fun ds M R => ∃ (clocks : List Int) (names : List (List Int)) (crowd : List Int), ds = [.d (lI clocks), .d (lL names), .d (tI crowd)] ∧ (∀ c ∈ clocks, 0 ≤ c) ∧ names.length = clocks.length ∧ clocks.length ≤ 100 ∧ (∀ r ∈ names, r.length = crowd.length) ∧ crowd.length ≤ 1000 ∧
  (∀ x ∈ crowd, 0 ≤ x ∧ x < 1000000) ∧ R (.d (.bool (zeroR clocks names crowd))) M
theorem ok_zero (T : Txt K mg) : FnG P w K mg base CX0 1 T.zero.f T.zero.fd A_zero (spN K 3 W_zero) := by
  refine fn_ok T.zero.F sc_zero fun cdv A outer s H E G ds M R hr hl hW => ?_
  obtain ⟨clocks, names, crowd, rfl, hc, hnc, hcl, hn, hcr, hx, q⟩ := hW
  refine b_cons (s_for (fun i ρ' M' => M = M' ∧ (∀ j, j < i → badR clocks names crowd j = false) ∧ ∃ x y z, ρ' = [.d (lI clocks), .d (lL names), .d (tI crowd), x, y, z, .u, .u]) (i_enumL (xs := clocks.map PyData.int) (a_cons (v 0) a_nil) T.z_enumerate) ⟨rfl, fun j h => absurd h (Nat.not_lt_zero _), _, _, _, rfl⟩ (fun _ _ _ _ => trivial) ?_ ?_ PassesOwn.never)
  · rintro G i d ρ' M' hd ⟨rfl, hb, x, y, z, rfl⟩
    obtain ⟨hi, rfl⟩ := enD_int hd
    refine ⟨_, _, g_tup2 rfl (gn 3 sc_zero.nd) (gn 4 sc_zero.nd), ?_⟩
    refine b_cons (st 5 (callB (a_cons (e_ofL' (xs := ((List.range crowd.length).map fun j => crowd.getD j 0 * (names.getD i []).getD j 0).map PyData.int) (l_lc (own := [("_law_kind", 6), ("_law_x", 7)]) (fun _ => M) (fun j => some (.d (.int (crowd.getD j 0 * (names.getD i []).getD j 0))))
      (i_enumT (xs := crowd.map PyData.int) (a_cons (v 2) a_nil) T.z_enumerate) (bk sc_zero (by decide +kernel)) sc_zero.nd (fun _ _ => trivial) (by simp [enD_len]; omega) fun j d hj => ?_) ?_) a_nil) (c_sumL rfl ls_lI) T.z_sum) ?_ sc_zero.nd)
    · obtain ⟨hj, rfl⟩ := enD_int hj
      have hm : crowd.getD j 0 ∈ crowd := getD_in (by assumption)
      have hr : (names.getD i []).length = crowd.length := hn _ (getD_in (by omega))
      refine ⟨true, _, _, M, ?_, fun s H C cl fp => g_tup2 rfl (gn 6 sc_zero.nd) (gn 7 sc_zero.nd), fun s H C cl fp G => ts_nil, fun _ => ⟨_, rfl, fun s H C cl fp G => bin (v 7) (ix (ix (v 1) (v 3) (ix_l ls_lL (atI_map _ names [] (by omega)))) (v 6) (ix_l ls_lI (atI_map (fun n => SV.d (.int n)) (names.getD i []) 0 (by omega)))) (mul_i (.inl ⟨?_, ?_⟩))⟩, fun z => nomatch z⟩
      · decide
      · have := (hx _ hm).1; omega
      · have := (hx _ hm).2; omega
    · rw [enD_len, List.length_map, outs_range (fun j => .int (crowd.getD j 0 * (names.getD i []).getD j 0))]
      simp
    have hi' : clocks.getD i 0 ∈ clocks := getD_in hi
    have hci := hc _ hi'
    refine b_one (s_if (t_ofW (w_and (tcmp (v 5) e_int ne_i) (fun _ => w_and1 (t_ofW (w_or (tcmp (v 4) e_int eq_i) (fun h => w_or1 (tcmp (bin (callT (a_cons (v 5) a_nil) c_int T.z_int) (v 4) (mod_i ?_)) e_int ne_i)) fun _ => rfl))) fun _ => rfl)) (fun h => b_one (ret e_bl ?_)) fun h => b_nil ⟨rfl, fun j hj => ?_, _, _, _, rfl⟩)
    · have := of_decide_eq_false h
      omega
    · have e : zeroR clocks names crowd = false := by
        unfold zeroR
        rw [List.all_eq_false]
        exact ⟨i, List.mem_range.mpr hi, by rw [show badR clocks names crowd i = true from h]; exact fun z => nomatch z⟩
      rw [e] at q
      exact q
    · rcases Nat.lt_succ_iff_lt_or_eq.mp hj with hj | rfl
      · exact hb j hj
      · exact h
  · rintro ρ' M' ⟨rfl, hb, x, y, z, rfl⟩
    refine b_one (ret e_bl ?_)
    have e : zeroR clocks names crowd = true := by
      unfold zeroR
      rw [List.all_eq_true]
      intro i hi
      rw [hb i (by rw [enD_len, List.length_map]; exact List.mem_range.mp hi)]
      rfl
    rw [e] at q
    exact q
def stuckR (bs : List (List Int)) (crowd : List Int) : Bool := (bs.filter fun b => withinR b crowd).isEmpty
theorem eq_nil {X : Cx} {G : Gh} {M : MM} {c : List D} (hu : X.A.units + 64 < cLine) (hc : okD 50 (.list c)) : J2 X G (compareOp .Eq) M (.d (.list c)) (.d (.list [])) (.d (.bool c.isEmpty)) M := by
  have q := eq_d (G := G) (M := M) hu hc.fine (d := .list []) (ok_nil (k := 0)).fine
  rw [eqv_nil] at q
  exact q
end
end K04
set_option Elab.async false
set_option linter.all false
set_option maxRecDepth 100000
set_option maxHeartbeats 1000000
namespace NL
open PySem PySem.Spec L2
open PyProof.Rows hiding St
theorem bkB {X : Cx} {scope0 scope : Scope} {s : Shared} {H : Hp} {C : Addr} {cl : List (Str × Addr)} {fp : List Addr} {N ps : List Str} {sc : Scope} {own : List (Str × Nat)} (_ : FnScope N ps sc) (h : blkC N (relS scope0 sc) scope own = true) (hN : X.N = N := by rfl) (hsc : X.env.scope = sc := by rfl) : BlkOk (blk X scope0 s H C cl fp).N (blk X scope0 s H C cl fp).env.scope scope own := by
  have e : (blk X scope0 s H C cl fp).env.scope = relS scope0 sc := by rw [← hsc]; rfl
  rw [e]
  show BlkOk X.N _ _ _
  rw [hN]
  exact blkOk_by h
end NL
namespace K04
open PySem PySem.Spec L2 NL
open PyProof.Rows hiding St
/-- batches of so many kinds -/
structure GoodB (k : Nat) (bs : List (List Int)) : Prop where
  len : ∀ t ∈ bs, t.length = k
  nn : ∀ t ∈ bs, ∀ n ∈ t, 0 ≤ n ∧ n ≤ 12
  nz : ∀ t ∈ bs, ∃ n ∈ t, 0 < n
  nd : bs.Nodup
theorem GoodB.nil {k : Nat} : GoodB k [] := ⟨(by simp), (by simp), (by simp), List.nodup_nil⟩
theorem GoodB.perm {k : Nat} {xs ys : List (List Int)} (h : GoodB k xs) (p : ys.Perm xs) : GoodB k ys :=
  ⟨fun t ht => h.len t (p.mem_iff.mp ht), fun t ht => h.nn t (p.mem_iff.mp ht), fun t ht => h.nz t (p.mem_iff.mp ht), p.nodup_iff.mpr h.nd⟩
theorem GoodB.sub {k : Nat} {xs ys : List (List Int)} (h : GoodB k xs) (p : ys.Sublist xs) : GoodB k ys :=
  ⟨fun t ht => h.len t (p.subset ht), fun t ht => h.nn t (p.subset ht), fun t ht => h.nz t (p.subset ht), h.nd.sublist p⟩
theorem GoodB.snoc {k : Nat} {xs : List (List Int)} {t : List Int} (h : GoodB k xs) (l : t.length = k) (n : ∀ n ∈ t, 0 ≤ n ∧ n ≤ 12) (z : ∃ n ∈ t, 0 < n) (nt : t ∉ xs) : GoodB k (xs ++ [t]) := by
  refine ⟨fun u hu => ?_, fun u hu => ?_, fun u hu => ?_, ?_⟩
  · rcases List.mem_append.mp hu with hu | hu
    · exact h.len u hu
    · rw [List.mem_singleton.mp hu]; exact l
  · rcases List.mem_append.mp hu with hu | hu
    · exact h.nn u hu
    · rw [List.mem_singleton.mp hu]; exact n
  · rcases List.mem_append.mp hu with hu | hu
    · exact h.nz u hu
    · rw [List.mem_singleton.mp hu]; exact z
  · rw [List.nodup_append]
    exact ⟨h.nd, by simp, fun a ha b hb => by rw [List.mem_singleton.mp hb]; exact fun e => nt (e ▸ ha)⟩
theorem GoodB.ne {k : Nat} {xs : List (List Int)} (h : GoodB k xs) {t : List Int} (ht : t ∈ xs) : t ≠ [] := fun e => by
  obtain ⟨n, hn, _⟩ := h.nz t ht
  rw [e] at hn; cases hn
theorem sum_nn : ∀ {l : List Int}, (∀ y ∈ l, 0 ≤ y) → 0 ≤ l.sum
  | [], _ => by simp
  | y :: l, h => by
    have h1 := h y (List.mem_cons_self ..)
    have h2 := sum_nn fun z hz => h z (List.mem_cons_of_mem _ hz)
    rw [List.sum_cons]; omega
theorem le_sum : ∀ {l : List Int}, (∀ y ∈ l, 0 ≤ y) → ∀ {x}, x ∈ l → x ≤ l.sum
  | [], _, _, h => nomatch h
  | y :: l, h, x, hx => by
    have h1 := h y (List.mem_cons_self ..)
    have h2 := sum_nn fun z hz => h z (List.mem_cons_of_mem _ hz)
    rw [List.sum_cons]
    rcases List.mem_cons.mp hx with rfl | hx
    · omega
    · have := le_sum (fun z hz => h z (List.mem_cons_of_mem _ hz)) hx
      omega
theorem pos_of_sum : ∀ {l : List Int}, (∀ y ∈ l, 0 ≤ y) → 0 < l.sum → ∃ n ∈ l, 0 < n
  | [], _, h => by simp at h
  | y :: l, h, hs => by
    rw [List.sum_cons] at hs
    have h1 := h y (List.mem_cons_self ..)
    by_cases hy : 0 < y
    · exact ⟨y, List.mem_cons_self .., hy⟩
    · obtain ⟨n, hn, hp⟩ := pos_of_sum (fun z hz => h z (List.mem_cons_of_mem _ hz)) (by omega)
      exact ⟨n, List.mem_cons_of_mem _ hn, hp⟩
theorem crowd_good {k s : Nat} {t : List Int} (h : t ∈ crowdsR k s) (h1 : 0 < s) (h8 : s ≤ 8) : t.length = k + 1 ∧ (∀ n ∈ t, 0 ≤ n ∧ n ≤ 12) ∧ ∃ n ∈ t, 0 < n := by
  obtain ⟨a, b, c⟩ := (crowdsR_mem k s t).mp h
  refine ⟨a, fun n hn => ⟨b n hn, ?_⟩, pos_of_sum b (by rw [c]; omega)⟩
  have := le_sum b hn
  rw [c] at this; omega
def five : List Int := [1, 2, -1, -2, 0]
def stepD (c : Int) (d : Deal) : Deal := if 0 < c then (anyR d c).2 else (anyR d 5).2
def valD (c : Int) (d : Deal) : Int := if 0 < c then (anyR d c).1 else five.getD (anyR d 5).1.toNat 0
def itD (c : Int) : Nat → Deal → Deal
  | 0, d => d
  | n + 1, d => stepD c (itD c n d)
theorem stepD_ok {c : Int} {d : Deal} (h : d.Ok) : (stepD c d).Ok := by
  unfold stepD
  split
  · exact (anyR_ok h (by assumption)).2.2
  · exact (anyR_ok h (by decide)).2.2
theorem itD_ok {c : Int} {d : Deal} (h : d.Ok) : ∀ n, (itD c n d).Ok
  | 0 => h
  | n + 1 => stepD_ok (itD_ok h n)
def itC (cs : List Int) (k : Nat) (d : Deal) : Nat → Deal
  | 0 => d
  | i + 1 => itD (cs.getD i 0) k (itC cs k d i)
theorem itC_ok {cs : List Int} {k : Nat} {d : Deal} (h : d.Ok) : ∀ i, (itC cs k d i).Ok
  | 0 => h
  | i + 1 => itD_ok (itC_ok h i) k
def rowD (c : Int) (k : Nat) (d : Deal) : List Int := (List.range k).map fun j => valD c (itD c j d)
def nmsD (cs : List Int) (k : Nat) (d : Deal) : List (List Int) := (List.range cs.length).map fun i => rowD (cs.getD i 0) k (itC cs k d i)
def clkR : List (List Int) := [[2], [3], [4], [2, 2], [0], [5]]
theorem eq_stuck {X : Cx} {G : Gh} {M : MM} {bs : List (List Int)} {c : List Int} (hu : X.A.units + 64 < cLine) : J2 X G (compareOp .Eq) M (.d (.list ((bs.filter fun u => withinR u c).map tI))) (.d (.list [])) (.d (.bool (stuckR bs c))) M := by
  have q := eq_nil (G := G) (M := M) (c := (bs.filter fun u => withinR u c).map tI) hu ((ok_lT _).mono (by decide))
  rw [show ((bs.filter fun u => withinR u c).map tI).isEmpty = stuckR bs c by simp [stuckR]] at q
  exact q
theorem e_int1 {X : Cx} {G : Gh} {ρ : List SV} {M : MM} {i : Int} {j : Nat} {p q : Pos} : jE X G (.List [.Constant (.int i) j p] q) ρ M (.d (lI [i])) M := e_ofL (xs := [.int i]) (e_lst (a_cons e_int a_nil))
theorem e_int2 {X : Cx} {G : Gh} {ρ : List SV} {M : MM} {i i2 : Int} {j j2 : Nat} {p p2 q : Pos} : jE X G (.List [.Constant (.int i) j p, .Constant (.int i2) j2 p2] q) ρ M (.d (lI [i, i2])) M := e_ofL (xs := [.int i, .int i2]) (e_lst (a_cons e_int (a_cons e_int a_nil)))
theorem e_clocks {X : Cx} {G : Gh} {ρ : List SV} {M : MM} {e1 e2 e3 e4 e5 e6 : Expr} {q : Pos} (h1 : jE X G e1 ρ M (.d (lI [2])) M) (h2 : jE X G e2 ρ M (.d (lI [3])) M) (h3 : jE X G e3 ρ M (.d (lI [4])) M) (h4 : jE X G e4 ρ M (.d (lI [2, 2])) M) (h5 : jE X G e5 ρ M (.d (lI [0])) M) (h6 : jE X G e6 ρ M (.d (lI [5])) M)
    (s1 : starEach [e1, e2, e3, e4, e5, e6] X.env = (false, eval e1 X.env) :: starEach [e2, e3, e4, e5, e6] X.env := by rfl) (s2 : starEach [e2, e3, e4, e5, e6] X.env = (false, eval e2 X.env) :: starEach [e3, e4, e5, e6] X.env := by rfl) (s3 : starEach [e3, e4, e5, e6] X.env = (false, eval e3 X.env) :: starEach [e4, e5, e6] X.env := by rfl)
    (s4 : starEach [e4, e5, e6] X.env = (false, eval e4 X.env) :: starEach [e5, e6] X.env := by rfl) (s5 : starEach [e5, e6] X.env = (false, eval e5 X.env) :: starEach [e6] X.env := by rfl) (s6 : starEach [e6] X.env = (false, eval e6 X.env) :: starEach [] X.env := by rfl) : jE X G (.List [e1, e2, e3, e4, e5, e6] q) ρ M (.d (.list (clkR.map lI))) M :=
  e_ofL (xs := clkR.map lI) (e_lst (a_cons h1 (a_cons h2 (a_cons h3 (a_cons h4 (a_cons h5 (a_cons h6 a_nil s6) s5) s4) s3) s2) s1))
section
variable {P : Program} {w : World} {K : PySem.W.Frag} {mg : Str → Option Value} {base : Heap}
def W_named : Wp := fun ds M R => ∃ (a b : Addr) (M0 : MM) (dl : Deal) (k : Nat), ds = [.o a, .d (.int (k + 1 : Nat))] ∧ k ≤ 3 ∧ b ≠ a ∧ M = dput M0 a b dl ∧ dl.Ok ∧ ∀ x y found dl', dl'.Ok → GoodB (k + 1) found → Srt found → R (.d (.tuple [x, y, lT found])) (dput M0 a b dl')
theorem ok_named (T : Txt K mg) : FnG P w K mg base CX0 6 T.named.f T.named.fd A_named (spN K 2 W_named) := by
  refine fn_ok T.named.F sc_named fun cdv A outer s H E G ds M R hr hl hW => ?_
  obtain ⟨a, b, M0, dl, k, rfl, hk, hba, rfl, hd, q⟩ := hW
  obtain ⟨f0, f1, hd1⟩ := anyR_ok hd (n := 6) (by decide)
  refine b_cons (st 2 (call T.any (ok_any T) (hr.mono (by decide)) (a_cons (v 0) (a_cons e_int a_nil)) fun R' h => ⟨a, b, M0, dl, _, rfl, hba, rfl, hd, by decide, by decide, h⟩) ?_ sc_named.nd)
  have hlt : (anyR dl 6).1.toNat < clkR.length := by show _ < 6; omega
  obtain ⟨cs, hcs, hmem⟩ : ∃ cs, clkR[(anyR dl 6).1.toNat]? = some cs ∧ cs ∈ clkR := ⟨_, List.getElem?_eq_getElem hlt, List.getElem_mem hlt⟩
  have hc0 : (∀ c ∈ cs, 0 ≤ c ∧ c < 10) ∧ cs.length ≤ 2 := by
    revert hmem
    unfold clkR
    intro hmem
    simp only [List.mem_cons, List.not_mem_nil, or_false] at hmem
    rcases hmem with rfl | rfl | rfl | rfl | rfl | rfl <;> exact ⟨by decide, by decide⟩
  refine b_cons (st 3 (d := .d (lI cs)) (ix (e_clocks e_int1 e_int1 e_int1 e_int2 e_int1 e_int1) (v 2) (ix_l (xs := (clkR.map lI).map SV.d) ls_d (atI_toNat f0 ?_))) ?_ sc_named.nd)
  · rw [List.getElem?_map, List.getElem?_map, hcs]; rfl
  refine b_cons (s_setLd (own := [("_law_clock", 8)]) (ys := (nmsD cs (k + 1) (anyR dl 6).2).map lI) 4 (fun i => dput M0 a b (itC cs (k + 1) (anyR dl 6).2 i)) (fun i => some (.d (lI (rowD (cs.getD i 0) (k + 1) (itC cs (k + 1) (anyR dl 6).2 i))))) (i_list (xs := cs.map PyData.int) (v 3)) (bk sc_named (by decide +kernel)) sc_named.nd (fun _ _ => trivial) (by simp; omega) (fun i d hd' => ?_) ?_ ?_)
  · obtain ⟨hi, rfl⟩ := int_at hd'
    have hci := hc0.1 _ (getD_in (z := 0) hi)
    have hok := itC_ok (cs := cs) (k := k + 1) hd1 i
    obtain ⟨c, hc⟩ : ∃ c, c = cs.getD i 0 := ⟨_, rfl⟩
    obtain ⟨di, hdi⟩ : ∃ di, di = itC cs (k + 1) (anyR dl 6).2 i := ⟨_, rfl⟩
    rw [← hc] at hci ⊢
    rw [← hdi] at hok ⊢
    have hnx : itC cs (k + 1) (anyR dl 6).2 (i + 1) = itD c (k + 1) di := by rw [hc, hdi]; rfl
    refine ⟨true, _, _, dput M0 a b di, ?_, fun s H C cl fp => gn 8 sc_named.nd, fun s H C cl fp G => hdi ▸ ts_nil, fun _ => ⟨_, rfl, fun s H C cl fp G => ?_⟩, fun z => nomatch z⟩
    · decide
    rw [hnx]
    have hz : (rgD 0 (k + 1)).length = k + 1 := by simp [rgD]
    have hM : dput M0 a b (itD c (k + 1) di) = dput M0 a b (itD c (rgD 0 (k + 1)).length di) := by rw [hz]
    rw [hM]
    refine e_ofL' (l_lc (xs := rgD 0 (k + 1)) (own := [("_law_kind", 9)]) (fun j => dput M0 a b (itD c j di)) (fun j => some (.d (.int (valD c (itD c j di))))) (i_range1 (j := ((k + 1 : Nat) : Int)) (a_cons (v 1) a_nil) (by omega) (by omega) T.z_range) (bkB sc_named (by decide +kernel)) sc_named.nd (fun _ _ => trivial) (by rw [hz]; omega) fun j d hj => ?_) ?_
    · obtain ⟨hj, rfl⟩ := rgD_at hj
      have hokj := itD_ok (c := c) hok j
      refine ⟨true, _, _, dput M0 a b (itD c j di), ?_, fun s H C cl fp => gn 9 sc_named.nd, fun s H C cl fp G => ts_nil, fun _ => ⟨_, rfl, fun s H C cl fp G => ?_⟩, fun z => nomatch z⟩
      · decide
      by_cases hp : 0 < c
      · have e1 : valD c (itD c j di) = (anyR (itD c j di) c).1 := if_pos hp
        have e2 : itD c (j + 1) di = (anyR (itD c j di) c).2 := if_pos hp
        rw [e1, e2]
        exact e_if (tcmp (v 8) e_int gt_i) (fun _ => call T.any (ok_any T) (hr.mono (by decide)) (a_cons (v 0) (a_cons (v 8) a_nil)) fun R' h => ⟨a, b, M0, _, _, rfl, hba, rfl, hokj, hp, by omega, h⟩) fun h => absurd hp (of_decide_eq_false h)
      · have e1 : valD c (itD c j di) = five.getD (anyR (itD c j di) 5).1.toNat 0 := if_neg hp
        have e2 : itD c (j + 1) di = (anyR (itD c j di) 5).2 := if_neg hp
        rw [e1, e2]
        obtain ⟨g0, g1, _⟩ := anyR_ok hokj (n := 5) (by decide)
        refine e_if (tcmp (v 8) e_int gt_i) (fun h => absurd (of_decide_eq_true h) hp) fun _ => call T.of (ok_of T) (hr.mono (by decide)) (a_cons (v 0) (a_cons (e_ofL (xs := five.map PyData.int) (e_lst (a_cons e_int (a_cons e_int (a_cons (un e_int neg_i) (a_cons (un e_int neg_i) (a_cons e_int a_nil))))))) a_nil)) fun R' h => ⟨a, b, M0, _, _, _, rfl, nofun, hba, rfl, hokj, fun _ => ls_d, by decide, by decide, fun d hd => ?_⟩
        have hlt5 : (anyR (itD c j di) 5).1.toNat < five.length := by show _ < 5; omega
        have : d = .d (.int (five.getD (anyR (itD c j di) 5).1.toNat 0)) := by
          have hd2 : ((five.map PyData.int).map SV.d)[(anyR (itD c j di) 5).1.toNat]? = some d := hd
          rw [List.getElem?_map, List.getElem?_map, List.getElem?_eq_getElem hlt5] at hd2
          rw [← Option.some.inj hd2]
          simp [List.getD, hlt5]
        rw [this]
        exact h
    · rw [hz, outs_range (fun j => .int (valD c (itD c j di)))]
      simp [rowD]
  · rw [List.length_map, List.length_map, outs_range (fun i => lI (rowD (cs.getD i 0) (k + 1) (itC cs (k + 1) (anyR dl 6).2 i)))]
    simp [nmsD]
  obtain ⟨d1, hd1e⟩ : ∃ d1, d1 = itC cs (k + 1) (anyR dl 6).2 cs.length := ⟨_, rfl⟩
  have hM1 : dput M0 a b (itC cs (k + 1) (anyR dl 6).2 ((cs.map PyData.int).map SV.d).length) = dput M0 a b d1 := by rw [List.length_map, List.length_map, hd1e]
  have hokd : d1.Ok := hd1e ▸ itC_ok hd1 cs.length
  obtain ⟨nm, hnm⟩ : ∃ nm, nm = nmsD cs (k + 1) (anyR dl 6).2 := ⟨_, rfl⟩
  have hnl : nm.length = cs.length := by rw [hnm]; simp [nmsD]
  have hnr : ∀ r ∈ nm, r.length = k + 1 := fun r hr => by
    rw [hnm] at hr
    obtain ⟨i, _, rfl⟩ := List.mem_map.mp hr
    simp [rowD]
  rw [hM1]
  show jB _ G _ ((((rho0 N_named [SV.o a, SV.d (PyData.int (k + 1 : Nat))]).set 2 _).set 3 _).set 4 (SV.d (lL (nmsD cs (k + 1) (anyR dl 6).2)))) _ _
  rw [← hnm]
  obtain ⟨J, hJ7, hJ5⟩ : ∃ J : Int, (k < 3 → J = 7) ∧ (3 ≤ k → J = 5) := ⟨if k < 3 then 7 else 5, fun h => if_pos h, fun h => if_neg (by omega)⟩
  have hJ : 5 ≤ J ∧ J ≤ 7 := by
    by_cases h : k < 3
    · rw [hJ7 h]; decide
    · rw [hJ5 (by omega)]; decide
  refine b_cons (stL 5 (e_lst a_nil) (fun p hp => ?_) sc_named.nd)
  refine b_cons (s_for (fun i ρ' M' => ∃ found x y, ρ' = [.o a, .d (.int (k + 1 : Nat)), .d (.int (anyR dl 6).1), .d (lI cs), .d (lL nm), .o p, x, y, .u, .u, .u] ∧ M' = mset (dput M0 a b d1) p (.lst (tsv found)) ∧ GoodB (k + 1) found ∧ found.length ≤ i * 400)
    (i_range2 (i := 1) (j := J) (a_cons e_int (a_cons (e_if (tcmp (v 1) e_int lt_i) (fun h => e_int.is (by rw [hJ7 (by have := of_decide_eq_true h; omega)])) (fun h => e_int.is (by rw [hJ5 (by have := of_decide_eq_false h; omega)]))) a_nil)) (by omega) T.z_range) ⟨[], _, _, rfl, rfl, .nil, by simp⟩ (fun _ _ _ _ => trivial) ?_ ?_ PassesOwn.never)
  · rintro G i d ρ' M' hi ⟨found, x, y, rfl, rfl, hg, hfl⟩
    obtain ⟨hi2, rfl⟩ := rgD_at hi
    have hi3 : i < 6 := by have : i < (J - 1).toNat := hi2; omega
    have hi4 : 3 ≤ k → i < 4 := fun h => by have : i < (J - 1).toNat := hi2; rw [hJ5 h] at this; exact this
    refine ⟨_, _, gn 6 sc_named.nd, ?_⟩
    have hsz : ((1 : Int) + (i : Nat)) = ((i + 1 : Nat) : Int) := by omega
    have hpw : (i + 1 + 1) ^ k ≤ 125 := by
      by_cases h : k < 3
      · exact Nat.le_trans (Nat.pow_le_pow_left (show i + 1 + 1 ≤ 7 by omega) k) (Nat.le_trans (Nat.pow_le_pow_right (by decide) (show k ≤ 2 by omega)) (by decide))
      · obtain rfl : k = 3 := by omega
        have := hi4 (by omega)
        exact Nat.le_trans (Nat.pow_le_pow_left (show i + 1 + 1 ≤ 5 by omega) 3) (by decide)
    have hcl := crowdsR_len k (i + 1)
    refine b_one (s_for (fun j ρ' M' => ∃ found x y, ρ' = [.o a, .d (.int (k + 1 : Nat)), .d (.int (anyR dl 6).1), .d (lI cs), .d (lL nm), .o p, x, y, .u, .u, .u] ∧ M' = mset (dput M0 a b d1) p (.lst (tsv found)) ∧ GoodB (k + 1) found ∧ found.length ≤ i * 400 + j)
      (i_list (xs := (crowdsR k (i + 1)).map tI) (call T.crowds (ok_crowds T k) (hr.mono (by omega)) (a_cons (v 1) (a_cons (v 6) a_nil)) fun R' h => ⟨i + 1, by rw [hsz], by omega, by omega, by omega, h⟩)) ⟨found, _, _, rfl, rfl, hg, by omega⟩ (fun _ _ _ _ => trivial) ?_ ?_ PassesOwn.never)
    · rintro G j d ρ' M' hj ⟨found, x, y, rfl, rfl, hg, hfl⟩
      obtain ⟨hj2, rfl⟩ := map_at [] hj
      refine ⟨_, _, gn 7 sc_named.nd, ?_⟩
      have hmem : (crowdsR k (i + 1)).getD j [] ∈ crowdsR k (i + 1) := getD_in hj2
      obtain ⟨c, hc⟩ : ∃ c, c = (crowdsR k (i + 1)).getD j [] := ⟨_, rfl⟩
      rw [← hc] at hmem ⊢
      obtain ⟨c1, c2, c3⟩ := crowd_good hmem (by omega) (by omega)
      have hlen : found.length ≤ 10000 := by omega
      refine b_one (s_if (t_ofW (w_and (k := zeroR cs nm c) (t_val (call T.zero (ok_zero T) (hr.mono (by decide)) (a_cons (v 3) (a_cons (v 4) (a_cons (v 7) a_nil))) fun R' h => ⟨cs, nm, c, rfl, fun z hz => (hc0.1 z hz).1, hnl, by omega, fun r hr => by rw [hnr r hr, c1], by omega, fun z hz => ⟨(c2 z hz).1, by have := (c2 z hz).2; omega⟩, h⟩))
        (fun _ => w_and1 (tcmp (k := stuckR found c) (e_ofL' (xs := (found.filter fun u => withinR u c).map tI) (l_lc (own := [("_law_one", 10)]) (fun _ => mset (dput M0 a b d1) p (.lst (tsv found))) (fun j => if withinR (found.getD j []) c then some (.d (tI (found.getD j []))) else none) (i_own (xs := tsv found) (v 5) mset_same) (bk sc_named (by decide +kernel)) sc_named.nd (fun _ _ => mset_same) (by simp [tsv]; omega) fun j d hj => ?_) ?_) e_nil ?_)) (fun _ => rfl))) (fun h => ?_) (fun h => b_nil ?_))
      · rw [tsv_eq] at hj
        obtain ⟨hj, rfl⟩ := map_at [] hj
        have hm2 : found.getD j [] ∈ found := getD_in (by assumption)
        refine ⟨withinR (found.getD j []) c, _, _, _, ?_, fun s H C cl fp => gn 10 sc_named.nd, fun s H C cl fp G => ts_one (t_val (call T.within (ok_within T) (hr.mono (by decide)) (a_cons (v 10) (a_cons (v 7) a_nil)) fun R' h => ⟨_, _, rfl, by rw [hg.len _ hm2, c1], by rw [hg.len _ hm2]; omega, h⟩)), fun h => ⟨_, if_pos h, fun s H C cl fp G => v 10⟩, fun h => ⟨if_neg (by rw [h]; exact fun z => nomatch z), rfl⟩⟩
        decide
      · rw [show (tsv found).length = found.length by simp [tsv], outs_filter found [] (fun b => withinR b c) (fun r => SV.d (tI r))]
        simp
      · exact eq_stuck hr.units
      · have hst : stuckR found c = true := by
          cases z : stuckR found c with
          | true => rfl
          | false => rw [z, Bool.and_false] at h; cases h
        have hnc : c ∉ found := fun hcf => by
          unfold stuckR at hst
          rw [List.isEmpty_iff, List.filter_eq_nil_iff] at hst
          refine hst c hcf ?_
          unfold withinR
          rw [List.all_map, List.all_eq_true]
          intro z _
          simp
        refine b_one (s_drop (e_append (v 5) mset_same (v 7) mset_same (by simp [tsv]; omega)) ⟨found ++ [c], _, _, rfl, ?_, hg.snoc c1 c2 c3 hnc, by simp; omega⟩)
        rw [mset_mset]
        simp [tsv]
      · exact ⟨found, _, _, rfl, rfl, hg, by omega⟩
    · rintro ρ' M' ⟨found, x, y, rfl, rfl, hg, hfl⟩
      refine ⟨found, _, _, rfl, rfl, hg, ?_⟩
      rw [List.length_map, List.length_map] at hfl
      omega
  · rintro ρ' M' ⟨found, x, y, rfl, rfl, hg, hfl⟩
    refine b_one (s_ret (e_tup (xs := [lI cs, lL nm, lT (sortT found)]) (a_cons (v 3) (a_cons (v 4) (a_cons (e_ofL' (callBL (a_cons (v 5) a_nil) (c_sortT hr.units (ls_o mset_same) fun t ht => hg.ne ht) T.z_sorted) (tsv_eq _)) a_nil)))) ⟨dput M0 a b d1, MLe.new hp (MLe.rfl' _), q _ _ _ d1 hokd (hg.perm (sortT_perm found)) (sortT_srt found)⟩)
end
end K04
set_option Elab.async false
set_option linter.all false
set_option maxRecDepth 100000
set_option maxHeartbeats 1000000
namespace K04
open PySem PySem.Spec L2 NL
open PyProof.Rows hiding St
theorem tsv_pick {xs : List (List Int)} {n : Nat} {d : SV} (h : (tsv xs)[n]? = some d) : n < xs.length ∧ d = .d (tI (xs.getD n [])) := by
  rw [tsv_eq] at h
  exact map_at [] h
theorem sum_more : ∀ n (f g : Nat → Int), ((List.range n).map fun i => f i + g i).sum = ((List.range n).map f).sum + ((List.range n).map g).sum
  | 0, _, _ => by simp
  | n + 1, f, g => by
    rw [List.range_succ, List.map_append, List.map_append, List.map_append, List.sum_append, List.sum_append, List.sum_append, sum_more n f g]
    simp only [List.map_cons, List.map_nil, List.sum_cons, List.sum_nil]
    omega
theorem getD_range (xs : List Int) : ((List.range xs.length).map fun i => xs.getD i 0) = xs := by
  refine List.ext_getElem (by simp) fun i h1 h2 => ?_
  simp at h1
  simp [h1]
theorem sum_moreR {xs ys : List Int} (h : xs.length = ys.length) : (moreR xs ys).sum = xs.sum + ys.sum := by
  unfold moreR
  rw [sum_more, getD_range, h, getD_range]
theorem moreR_len (xs ys : List Int) : (moreR xs ys).length = xs.length := by simp [moreR]
theorem moreR_nn {xs ys : List Int} (h1 : ∀ n ∈ xs, 0 ≤ n) (h2 : ∀ n ∈ ys, 0 ≤ n) : ∀ n ∈ moreR xs ys, 0 ≤ n := by
  intro n hn
  obtain ⟨i, hi, rfl⟩ := List.mem_map.mp hn
  have a : 0 ≤ xs.getD i 0 := by
    by_cases h : i < xs.length
    · exact h1 _ (getD_in h)
    · simp [List.getD, List.getElem?_eq_none (show xs.length ≤ i by omega)]
  have b : 0 ≤ ys.getD i 0 := by
    by_cases h : i < ys.length
    · exact h2 _ (getD_in h)
    · simp [List.getD, List.getElem?_eq_none (show ys.length ≤ i by omega)]
  omega
theorem tsv_erase : ∀ (xs : List (List Int)) (j : Nat), (tsv xs).eraseIdx j = tsv (xs.eraseIdx j)
  | [], _ => rfl
  | _ :: _, 0 => rfl
  | x :: xs, j + 1 => by
    have := tsv_erase xs j
    unfold tsv at this ⊢
    rw [List.map_cons, List.eraseIdx_cons_succ, List.eraseIdx_cons_succ, List.map_cons, this]
theorem crowdsR_pos (k s : Nat) : 0 < (crowdsR k s).length := by
  refine List.length_pos_of_mem (a := (s : Int) :: List.replicate k 0) ((crowdsR_mem k s _).mpr ⟨by simp, fun x hx => ?_, ?_⟩)
  · rcases List.mem_cons.mp hx with rfl | hx
    · omega
    · rw [List.eq_of_mem_replicate hx]; exact Int.le_refl _
  · simp
section
variable {P : Program} {w : World} {K : PySem.W.Frag} {mg : Str → Option Value} {base : Heap}
def W_book : Wp := fun ds M R => ∃ (a b : Addr) (M0 : MM) (dl : Deal) (m : Nat), ds = [.o a, .d (.int m)] ∧ 0 < m ∧ m ≤ 4 ∧ b ≠ a ∧ M = dput M0 a b dl ∧ dl.Ok ∧ ∀ (k : Nat) (bs : List (List Int)) dl', k < m → dl'.Ok → GoodB (k + 1) bs → Srt bs → bs.length ≤ 12 → R (.d (.tuple [.int (k + 1 : Nat), lT bs])) (dput M0 a b dl')
/-- between the parts -/
def Ibk (mo : Nat) (a b : Addr) (M0 : MM) (k : Nat) (f : Int) (m : Nat) (ρ' : List SV) (M' : MM) : Prop := ∃ bs dl q x, ρ' = [.o a, .d (.int mo), .d (.int (k + 1 : Nat)), .d (.int f), .o q, x, .u, .u] ∧ M' = dput (mset M0 q (.lst (tsv bs))) a b dl ∧ M0 q = none ∧ q ≠ a ∧ q ≠ b ∧ dl.Ok ∧ GoodB (k + 1) bs ∧ Srt bs ∧ bs.length ≤ m
theorem ok_book (T : Txt K mg) : FnG P w K mg base CX0 7 T.book.f T.book.fd A_book (spN K 2 W_book) := by
  refine fn_ok T.book.F sc_book fun cdv A outer s H E G ds M R hr hl hW => ?_
  obtain ⟨a, b, M0, dl, m, rfl, hm0, hm4, hba, rfl, hd, q⟩ := hW
  obtain ⟨f0, f1, hd1⟩ := anyR_ok hd (n := (m : Nat)) (by omega)
  obtain ⟨g0, g1, hd2⟩ := anyR_ok hd1 (n := 5) (by decide)
  obtain ⟨k, hk⟩ : ∃ k : Nat, 1 + (anyR dl (m : Nat)).1 = (k + 1 : Nat) := ⟨(anyR dl (m : Nat)).1.toNat, by omega⟩
  have hkm : k < m := by omega
  have hk2 : k ≤ 3 := by omega
  obtain ⟨f, hf⟩ : ∃ f, f = (anyR (anyR dl (m : Nat)).2 5).1 := ⟨_, rfl⟩
  obtain ⟨d2, hd2e⟩ : ∃ d2, d2 = (anyR (anyR dl (m : Nat)).2 5).2 := ⟨_, rfl⟩
  rw [← hd2e] at hd2
  refine b_cons (s_pair 2 3 (d := .d (.int (k + 1 : Nat))) (d2 := .d (.int f)) (M2 := dput M0 a b d2) ((bin e_int (call T.any (ok_any T) (hr.mono (by decide)) (a_cons (v 0) (a_cons (v 1) a_nil)) fun R' h => ⟨a, b, M0, dl, _, rfl, hba, rfl, hd, by omega, by omega, h⟩) add_i).is (by rw [hk]))
    (call T.any (ok_any T) (hr.mono (by decide)) (a_cons (v 0) (a_cons e_int a_nil)) fun R' h => ⟨a, b, M0, _, _, rfl, hba, rfl, hd1, by decide, by decide, by rw [hf, hd2e] at h; exact h⟩) ?_ sc_book.nd)
  refine b_cons (s_if (tcmp (v 3) e_int lt_i) (fun _ => ?_) (fun _ => b_nil ?_))
  · -- by names
    refine b_cut (Ibk m a b M0 k f 11) (s_setN 4 (Φ := fun d M' => ∃ found dl' q, d = .o q ∧ M' = dput (mset M0 q (.lst (tsv found))) a b dl' ∧ M0 q = none ∧ q ≠ a ∧ q ≠ b ∧ dl'.Ok ∧ GoodB (k + 1) found ∧ Srt found ∧ found.length ≤ 11)
      (n_upto (h := 11) (Φ := fun d M' => ∃ found dl', d = .d (lT found) ∧ M' = dput M0 a b dl' ∧ dl'.Ok ∧ GoodB (k + 1) found ∧ Srt found)
        (n_ixT (i := 2) (Φ := fun d M' => ∃ x y found dl', d = .d (.tuple [x, y, lT found]) ∧ M' = dput M0 a b dl' ∧ dl'.Ok ∧ GoodB (k + 1) found ∧ Srt found)
          (n_call T.named (ok_named T) (hr.mono (by decide)) (a_cons (v 0) (a_cons (v 2) a_nil)) ⟨a, b, M0, d2, k, rfl, hk2, hba, rfl, hd2, fun x y found dl' h1 h2 h3 => ⟨x, y, found, dl', rfl, rfl, h1, h2, h3⟩⟩) (fun _ => e_int)
          (fun d M1 ⟨x, y, found, dl', h1, h2, h3, h4⟩ => ⟨_, _, h1, atI_2, found, dl', rfl, h2, h3, h4⟩)) (fun _ => e_int)
        (fun d M1 ⟨found, dl', h1, h2, h3, h4, h5⟩ => ⟨found.map tI, h1, fun q hq => by
          rw [h2] at hq ⊢
          obtain ⟨n1, n2, n3⟩ := dput_none hq
          refine ⟨found.take 11, dl', q, rfl, ?_, n3, n1, n2, h3, h4.sub (List.take_sublist _ _), h5.sub (List.take_sublist _ _), by rw [List.length_take]; omega⟩
          rw [dput_mset n1 n2, List.map_map, cutS_0 found (SV.d ∘ tI) 11 (by decide)]
          rfl⟩)) (fun d M' ⟨found, dl', q, h1, h2, h3, h4, h5, h6, h7, h9, h8⟩ => ⟨found, dl', q, .u, by rw [h1]; rfl, h2, h3, h4, h5, h6, h7, h9, h8⟩) sc_book.nd) ?_
    rintro ρ' M' ⟨bs, d3, p, x, rfl, rfl, hp, hpa, hpb, hd3, hg, hso, hbl⟩
    have hLs : ∀ dl', LsV (dput (mset M0 p (.lst (tsv bs))) a b dl') (.o p) (tsv bs) := fun dl' => ls_o (dput_at hpa hpb)
    have htl : (tsv bs).length = bs.length := by simp [tsv]
    refine b_cut (Ibk m a b M0 k f 12) (s_if (t_ofW (w_and (tcmp (v 3) e_int eq_i) (fun _ => w_and1 (tcmp (callB (a_cons (v 4) a_nil) (c_len (hLs _)) T.z_len) e_int gt_i)) fun _ => rfl)) (fun h => ?_) fun h => b_nil ⟨bs, d3, p, x, rfl, rfl, hp, hpa, hpb, hd3, hg, hso, by omega⟩) ?_
    · -- a sum put in
      rw [Bool.and_eq_true, decide_eq_true_eq, decide_eq_true_eq, htl] at h
      have hn : 0 < bs.length := by omega
      obtain ⟨u0, u1, hd4⟩ := anyR_ok hd3 (n := bs.length) (by omega)
      obtain ⟨v0, v1, hd5⟩ := anyR_ok hd4 (n := bs.length) (by omega)
      obtain ⟨t1, ht1⟩ : ∃ t1, t1 = bs.getD (anyR d3 bs.length).1.toNat [] := ⟨_, rfl⟩
      obtain ⟨t2, ht2⟩ : ∃ t2, t2 = bs.getD (anyR (anyR d3 bs.length).2 bs.length).1.toNat [] := ⟨_, rfl⟩
      have m1 : t1 ∈ bs := ht1 ▸ getD_in (by omega)
      have m2 : t2 ∈ bs := ht2 ▸ getD_in (by omega)
      have l1 := hg.len _ m1
      have l2 := hg.len _ m2
      obtain ⟨d4, hd4e⟩ : ∃ d4, d4 = (anyR d3 bs.length).2 := ⟨_, rfl⟩
      obtain ⟨d5, hd5e⟩ : ∃ d5, d5 = (anyR d4 bs.length).2 := ⟨_, rfl⟩
      rw [← hd4e] at hd4 hd5 v0 v1 ht2
      rw [← hd5e] at hd5
      refine b_cons (st 5 (d := .d (tI (moreR t1 t2))) (M1 := dput (mset M0 p (.lst (tsv bs))) a b d5) (call T.more (ok_more T) (hr.mono (by decide)) (a_cons (d := .d (tI t1)) (M1 := dput (mset M0 p (.lst (tsv bs))) a b d4) (call T.of (ok_of T) (hr.mono (by decide)) (a_cons (v 0) (a_cons (v 4) a_nil)) fun R' h => ⟨a, b, _, d3, .o p, tsv bs, rfl, nofun, hba, rfl, hd3, hLs, by omega, by omega, fun d hd => ?_⟩)
        (a_cons (d := .d (tI t2)) (M1 := dput (mset M0 p (.lst (tsv bs))) a b d5) (call T.of (ok_of T) (hr.mono (by decide)) (a_cons (v 0) (a_cons (v 4) a_nil)) fun R' h => ⟨a, b, _, d4, .o p, tsv bs, rfl, nofun, hba, rfl, hd4, hLs, by omega, by omega, fun d hd => ?_⟩) a_nil)) fun R' h => ⟨t1, t2, rfl, by omega, by omega, h⟩) ?_ sc_book.nd)
      · have := (tsv_pick hd).2
        rw [htl] at this ⊢
        rw [this, ← ht1, ← hd4e]; exact h
      · have := (tsv_pick hd).2
        rw [htl] at this ⊢
        rw [this, ← ht2, ← hd5e]; exact h
      have nn1 : ∀ n ∈ moreR t1 t2, 0 ≤ n := moreR_nn (fun n hn => (hg.nn _ m1 n hn).1) fun n hn => (hg.nn _ m2 n hn).1
      have sp : 0 < (moreR t1 t2).sum := by
        obtain ⟨n, hn, hp⟩ := hg.nz _ m1
        have s1 := le_sum (fun n hn => (hg.nn _ m1 n hn).1) hn
        have s2 := sum_nn fun n hn => (hg.nn _ m2 n hn).1
        rw [sum_moreR (by omega)]; omega
      have hat : ∀ dl', dput (mset M0 p (.lst (tsv bs))) a b dl' p = some (.lst (tsv bs)) := fun dl' => dput_at hpa hpb
      refine b_one (s_setN 4 (Φ := fun d M' => ∃ bs2 q2, d = .o q2 ∧ M' = dput (mset M0 q2 (.lst (tsv bs2))) a b d5 ∧ M0 q2 = none ∧ q2 ≠ a ∧ q2 ≠ b ∧ GoodB (k + 1) bs2 ∧ Srt bs2 ∧ bs2.length ≤ 12) (n_if (t_ofW (w_and (tcmp (v 5) (v 4) (nin_ot (hat d5) hr.u65)) (fun _ => w_and1 (tcmp (callB (a_cons (v 5) a_nil) (c_sumT rfl rfl) T.z_sum) e_int lt_i)) fun _ => rfl)) (fun h => ?_) fun h => n_of (v 4) ⟨bs, p, rfl, rfl, hp, hpa, hpb, hg, hso, by omega⟩)
        (fun d M' ⟨bs2, q2, h1, h2, h3, h4, h5, h6, h8, h7⟩ => ⟨bs2, d5, q2, .d (tI (moreR t1 t2)), by rw [h1]; rfl, h2, h3, h4, h5, hd5, h6, h8, h7⟩) sc_book.nd)
      rw [Bool.and_eq_true, Bool.not_eq_true', decide_eq_false_iff_not, decide_eq_true_eq] at h
      have hg2 : GoodB (k + 1) (bs ++ [moreR t1 t2]) := hg.snoc (by rw [moreR_len]; exact l1) (fun n hn => ⟨nn1 n hn, by have := le_sum nn1 hn; omega⟩) (pos_of_sum nn1 sp) h.1
      refine nE.less (Φ := fun d M' => ∃ q2, d = .o q2 ∧ dput (mset M0 p (.lst (tsv bs))) a b d5 q2 = none ∧ M' = mset (dput (mset M0 p (.lst (tsv bs))) a b d5) q2 (.lst (tsv (sortT (bs ++ [moreR t1 t2]))))) (n_ofL (callBL (a_cons (e_ofL' (xs := (bs ++ [moreR t1 t2]).map tI) (binL (v 4) (e_ofL (xs := [tI (moreR t1 t2)]) (e_lst (a_cons (v 5) a_nil))) (cat_l (hLs d5) ls_d (by rw [htl]; simp; omega))) (by simp [tsv])) a_nil) (c_sortT hr.units ls_lT fun t ht => hg2.ne ht) T.z_sorted) fun q2 hq2 => ⟨q2, rfl, hq2, rfl⟩) fun d M' ⟨q2, h1, h2, h3⟩ => ?_
      obtain ⟨n1, n2, n3⟩ := dput_none h2
      have n4 : M0 q2 = none := by
        by_cases e : q2 = p
        · rw [e]; exact hp
        · rw [mset_ne e] at n3; exact n3
      refine ⟨dput (mset M0 q2 (.lst (tsv (sortT (bs ++ [moreR t1 t2]))))) a b d5, ?_, _, q2, h1, rfl, n4, n1, n2, hg2.perm (sortT_perm _), sortT_srt _, ?_⟩
      · rw [h3, ← dput_mset n1 n2]
        exact MLe.mset (mle_own hpa hpb hp)
      · rw [(sortT_perm _).length_eq]
        rw [List.length_append, List.length_singleton]; omega
    -- a batch struck
    rintro ρ' M' ⟨bs, d3, p, x, rfl, rfl, hp, hpa, hpb, hd3, hg, hso, hbl⟩
    have hat : ∀ dl', dput (mset M0 p (.lst (tsv bs))) a b dl' p = some (.lst (tsv bs)) := fun dl' => dput_at hpa hpb
    have htl : (tsv bs).length = bs.length := by simp [tsv]
    refine b_cut (Ibk m a b M0 k f 12) (s_if (t_ofW (w_and (tcmp (v 3) e_int eq_i) (fun _ => w_and1 (tcmp (v 4) e_nil (ne_nil (c := bs.map tI) (by rw [← tsv_eq]; exact hat _) hr.units ((ok_lT bs).mono (by decide))))) fun _ => rfl)) (fun h => ?_) fun h => b_nil ⟨bs, d3, p, x, rfl, rfl, hp, hpa, hpb, hd3, hg, hso, hbl⟩) ?_
    · have hn : 0 < bs.length := by
        rw [Bool.and_eq_true] at h
        have h2 := h.2
        cases bs with
        | nil => simp at h2
        | cons => simp
      obtain ⟨u0, u1, hd4⟩ := anyR_ok hd3 (n := bs.length) (by omega)
      obtain ⟨d4, hd4e⟩ : ∃ d4, d4 = (anyR d3 bs.length).2 := ⟨_, rfl⟩
      rw [← hd4e] at hd4
      obtain ⟨j, hj⟩ : ∃ j : Nat, (anyR d3 bs.length).1 = j := ⟨_, (Int.toNat_of_nonneg u0).symm⟩
      have hj2 : j < bs.length := by omega
      refine b_one (s_drop (e_popAt (i := (anyR d3 bs.length).1) (k := j) (v 4) (hat d3) (M2 := dput (mset M0 p (.lst (tsv bs))) a b d4) (call T.any (ok_any T) (hr.mono (by decide)) (a_cons (v 0) (a_cons (callB (a_cons (v 4) a_nil) (c_len (ls_o (hat d3))) T.z_len) a_nil)) fun R' h => ⟨a, b, _, d3, _, rfl, hba, rfl, hd3, by rw [htl]; omega, by rw [htl]; omega, by rw [htl, ← hd4e]; exact h⟩) (hat d4) hj (by rw [htl]; omega) (d := .d (tI (bs.getD j []))) ?_) ⟨bs.eraseIdx j, d4, p, x, rfl, ?_, hp, hpa, hpb, hd4, hg.sub (List.eraseIdx_sublist ..), hso.sub (List.eraseIdx_sublist ..), ?_⟩)
      · simp [tsv, hj2]
      · rw [mset_dput hpa hpb]
        rw [tsv_erase]
      · rw [List.length_eraseIdx]; split <;> omega
    rintro ρ' M' ⟨bs, d3, p, x, rfl, rfl, hp, hpa, hpb, hd3, hg, hso, hbl⟩
    exact b_one (s_ret (e_tup (xs := [.int (k + 1 : Nat), lT bs]) (a_cons (v 2) (a_cons (e_frz (xs := bs.map tI) (v 4) (by rw [← tsv_eq]; exact dput_at hpa hpb)) a_nil))) ⟨dput M0 a b d3, mle_frz hpa hpb hp, q k bs d3 hkm hd3 hg hso hbl⟩)
  · -- any
    refine b_cons (stL 4 (e_lst a_nil) (fun p hp => ?_) sc_book.nd)
    obtain ⟨hpa, hpb, hp0⟩ := dput_none hp
    rw [dput_mset hpa hpb]
    obtain ⟨r0, r1, hd3⟩ := anyR_ok hd2 (n := 5) (by decide)
    refine b_cons (s_for (fun i ρ' M' => ∃ bs d3 x y, ρ' = [.o a, .d (.int m), .d (.int (k + 1 : Nat)), .d (.int f), .o p, .u, x, y] ∧ M' = dput (mset M0 p (.lst (tsv bs))) a b d3 ∧ d3.Ok ∧ GoodB (k + 1) bs ∧ bs.length ≤ i)
      (i_range1 (j := (anyR d2 5).1) (M1 := dput (mset M0 p (.lst [])) a b (anyR d2 5).2) (a_cons (call T.any (ok_any T) (hr.mono (by decide)) (a_cons (v 0) (a_cons e_int a_nil)) fun R' h => ⟨a, b, _, d2, _, rfl, hba, rfl, hd2, by decide, by decide, h⟩) a_nil) (by omega) (by omega) T.z_range) ⟨[], _, _, _, rfl, rfl, hd3, .nil, by simp⟩ (fun _ _ _ _ => trivial) ?_ ?_ PassesOwn.never)
    · rintro G i d ρ' M' hi ⟨bs, d3, x, y, rfl, rfl, hd3, hg, hbl⟩
      obtain ⟨hi2, rfl⟩ := rgD_at hi
      refine ⟨_, _, gn 6 sc_book.nd, ?_⟩
      obtain ⟨u0, u1, hd4⟩ := anyR_ok hd3 (n := 4) (by decide)
      obtain ⟨sz, hsz⟩ : ∃ sz : Nat, 1 + (anyR d3 4).1 = sz := ⟨(1 + (anyR d3 4).1).toNat, by omega⟩
      have hs1 : 1 ≤ sz := by omega
      have hs4 : sz ≤ 4 := by omega
      obtain ⟨d4, hd4e⟩ : ∃ d4, d4 = (anyR d3 4).2 := ⟨_, rfl⟩
      rw [← hd4e] at hd4
      have hpw : (sz + 1) ^ k ≤ 125 := Nat.le_trans (Nat.pow_le_pow_left (show sz + 1 ≤ 5 by omega) k) (Nat.le_trans (Nat.pow_le_pow_right (by decide) hk2) (by decide))
      have hcl := crowdsR_len k sz
      have hcp := crowdsR_pos k sz
      have htl : (tsv (crowdsR k sz)).length = (crowdsR k sz).length := by simp [tsv]
      obtain ⟨w0, w1, hd5⟩ := anyR_ok hd4 (n := (crowdsR k sz).length) (by omega)
      obtain ⟨d5, hd5e⟩ : ∃ d5, d5 = (anyR d4 (crowdsR k sz).length).2 := ⟨_, rfl⟩
      rw [← hd5e] at hd5
      obtain ⟨t, ht⟩ : ∃ t, t = (crowdsR k sz).getD (anyR d4 (crowdsR k sz).length).1.toNat [] := ⟨_, rfl⟩
      have htm : t ∈ crowdsR k sz := ht ▸ getD_in (by omega)
      obtain ⟨t1, t2, t3⟩ := crowd_good htm hs1 (by omega)
      have hat : ∀ dl', dput (mset M0 p (.lst (tsv bs))) a b dl' p = some (.lst (tsv bs)) := fun dl' => dput_at hpa hpb
      have hbl2 : bs.length ≤ 10 := by
        have : i < (anyR d2 5).1.toNat := hi2
        omega
      refine b_cons (st 7 (d := .d (tI t)) (M1 := dput (mset M0 p (.lst (tsv bs))) a b d5) (call T.of (ok_of T) (hr.mono (by decide)) (a_cons (v 0) (a_cons (M1 := dput (mset M0 p (.lst (tsv bs))) a b d4) (call T.crowds (ok_crowds T k) (hr.mono (by omega)) (a_cons (v 2) (a_cons (M1 := dput (mset M0 p (.lst (tsv bs))) a b d4) (bin e_int (call T.any (ok_any T) (hr.mono (by decide)) (a_cons (v 0) (a_cons e_int a_nil)) fun R' h => ⟨a, b, _, d3, _, rfl, hba, rfl, hd3, by decide, by decide, by rw [← hd4e]; exact h⟩) add_i) a_nil))
        fun R' h => ⟨sz, by rw [hsz], by omega, by omega, by omega, h⟩) a_nil)) fun R' h => ⟨a, b, _, d4, _, tsv (crowdsR k sz), rfl, nofun, hba, rfl, hd4, fun _ => ls_lT, by omega, by omega, fun d hd => ?_⟩) ?_ sc_book.nd)
      · have := (tsv_pick hd).2
        rw [htl] at this ⊢
        rw [this, ← ht, ← hd5e]; exact h
      refine b_one (s_if (tcmp (v 7) (v 4) (nin_ot (hat d5) hr.u65)) (fun h => ?_) fun h => b_nil ⟨bs, d5, _, _, rfl, rfl, hd5, hg, by omega⟩)
      rw [Bool.not_eq_true', decide_eq_false_iff_not] at h
      refine b_one (s_drop (e_append (v 4) (hat d5) (v 7) (hat d5) (by simp [tsv]; omega)) ⟨bs ++ [t], d5, _, _, rfl, ?_, hd5, hg.snoc t1 t2 t3 h, by simp; omega⟩)
      rw [mset_dput hpa hpb]
      simp [tsv]
    · rintro ρ' M' ⟨bs, d3, x, y, rfl, rfl, hd3, hg, hbl⟩
      have hbl2 : bs.length ≤ 12 := by
        have : bs.length ≤ (rgD 0 (anyR d2 5).1.toNat).length := hbl
        simp [rgD] at this
        omega
      exact b_one (s_ret (e_tup (xs := [.int (k + 1 : Nat), lT (sortT bs)]) (a_cons (v 2) (a_cons (e_ofL' (callBL (a_cons (v 4) a_nil) (c_sortT hr.units (ls_o (dput_at hpa hpb)) fun t ht => hg.ne ht) T.z_sorted) (tsv_eq _)) a_nil))) ⟨dput M0 a b d3, mle_own hpa hpb hp0, q k _ d3 hkm hd3 (hg.perm (sortT_perm _)) (sortT_srt _) (by rw [(sortT_perm _).length_eq]; exact hbl2)⟩)
end
end K04
set_option Elab.async false
set_option linter.all false
set_option maxRecDepth 100000
set_option maxHeartbeats 1000000
namespace K04
open PySem PySem.Spec L2 NL
open PyProof.Rows hiding St
section
variable {P : Program} {w : World} {K : PySem.W.Frag} {mg : Str → Option Value} {base : Heap}
def isIntD : D → Bool
  | .int _ => true
  | _ => false
def W_is_integer : Wp := fun ds M R => ∃ d, ds = [.d d] ∧ R (.d (.bool (isIntD d))) M
theorem ok_is_integer (T : Txt K mg) : FnG P w K mg base CX0 1 T.p_is_integer.f T.p_is_integer.fd A_p_is_integer (spN K 1 W_is_integer) := by
  refine fn_ok T.p_is_integer.F sc_p_is_integer fun cdv A outer s H E G ds M R hr hl hW => ?_
  obtain ⟨d, rfl, q⟩ := hW
  have go : ∀ (t : String) {b1 b2 : Bool}, kindD d = t → kitB t "int" = some b1 → kitB t "bool" = some b2 → (b1 && !b2) = isIntD d → jB (cxOf CX0 P w K mg base N_p_is_integer "is_integer" (defScope s_p_is_integer) T.p_is_integer.f cdv A outer s H E).nox G (defBody s_p_is_integer) (rho0 N_p_is_integer [.d d]) M (pEnd R) := fun t {b1 b2} ht h1 h2 h3 => by
    subst ht
    refine b_one (ret (d := .d (.bool (b1 && !b2))) (e_and (callB (a_cons (v 0) (a_cons (e_ty T.z_int) a_nil)) (c_isi rfl h1) T.z_isinstance) (fun _ => e_one (e_not (callB (a_cons (v 0) (a_cons (e_ty T.z_bool) a_nil)) (c_isi rfl h2) T.z_isinstance))) fun _ => rfl) ?_)
    rw [h3]; exact q
  cases d with
  | none => exact go "NoneType" (b1 := false) (b2 := false) rfl (by decide +kernel) (by decide +kernel) rfl
  | bool b => exact go "bool" (b1 := true) (b2 := true) rfl (by decide +kernel) (by decide +kernel) rfl
  | int i => exact go "int" (b1 := true) (b2 := false) rfl (by decide +kernel) (by decide +kernel) rfl
  | str i => exact go "str" (b1 := false) (b2 := false) rfl (by decide +kernel) (by decide +kernel) rfl
  | list i => exact go "list" (b1 := false) (b2 := false) rfl (by decide +kernel) (by decide +kernel) rfl
  | tuple i => exact go "tuple" (b1 := false) (b2 := false) rfl (by decide +kernel) (by decide +kernel) rfl
  | dict i => exact go "dict" (b1 := false) (b2 := false) rfl (by decide +kernel) (by decide +kernel) rfl
def W_is_number : Wp := fun ds M R => ∃ i : Int, ds = [.d (.int i)] ∧ R (.d (.bool (decide (0 ≤ i)))) M
theorem ok_is_number (T : Txt K mg) : FnG P w K mg base CX0 2 T.p_is_number.f T.p_is_number.fd A_p_is_number (spN K 1 W_is_number) := by
  refine fn_ok T.p_is_number.F sc_p_is_number fun cdv A outer s H E G ds M R hr hl hW => ?_
  obtain ⟨i, rfl, q⟩ := hW
  exact b_one (ret (d := .d (.bool (true && decide (0 ≤ i)))) (e_and (call T.p_is_integer (ok_is_integer T) (hr.mono (by decide)) (a_cons (v 0) a_nil) fun R' h => ⟨.int i, rfl, h⟩) (fun _ => e_one (cmp (v 0) e_int ge_i)) fun h => nomatch h) q)
def W_is_sequence : Wp := fun ds M R => ∃ s t, ds = [s] ∧ s ≠ .u ∧ kindS M s = some t ∧ (t = "list" ∨ t = "tuple") ∧ R (.d (.bool true)) M
theorem ok_is_sequence (T : Txt K mg) : FnG P w K mg base CX0 1 T.p_is_sequence.f T.p_is_sequence.fd A_p_is_sequence (spN K 1 W_is_sequence) := by
  refine fn_ok T.p_is_sequence.F sc_p_is_sequence fun cdv A outer s H E G ds M R hr hl hW => ?_
  obtain ⟨s, t, rfl, hs, hk, ht, q⟩ := hW
  rcases ht with rfl | rfl
  · exact b_one (ret (e_isi2 (A := "list") (B := "tuple") (r1 := true) (r2 := false) (v 0 (hd := hs)) hk (by decide +kernel) (by decide +kernel) T.z_isinstance T.z_list T.z_tuple) q)
  · exact b_one (ret (e_isi2 (A := "list") (B := "tuple") (r1 := false) (r2 := true) (v 0 (hd := hs)) hk (by decide +kernel) (by decide +kernel) T.z_isinstance T.z_list T.z_tuple) q)
def areR (t : List Int) (n : Int) : Bool := decide ((t.length : Int) = n) && (t.map fun x => decide (0 ≤ x)).all id
def W_are_numbers : Wp := fun ds M R => ∃ (t : List Int) (n : Int), ds = [.d (tI t), .d (.int n)] ∧ t.length ≤ 1000 ∧ R (.d (.bool (areR t n))) M
theorem ok_are_numbers (T : Txt K mg) : FnG P w K mg base CX0 3 T.p_are_numbers.f T.p_are_numbers.fd A_p_are_numbers (spN K 2 W_are_numbers) := by
  refine fn_ok T.p_are_numbers.F sc_p_are_numbers fun cdv A outer s H E G ds M R hr hl hW => ?_
  obtain ⟨t, n, rfl, hn, q⟩ := hW
  refine b_one (ret (d := .d (.bool (true && (decide ((t.length : Int) = n) && (t.map fun x => decide (0 ≤ x)).all id)))) (e_and (callB (a_cons (v 0) (a_cons (e_ty (T := "tuple") T.z_tuple) a_nil)) (c_isi (t := "tuple") rfl (by decide +kernel)) T.z_isinstance) (fun _ => e_and (k := decide ((t.length : Int) = n)) ((cmp (callB (a_cons (v 0) a_nil) c_lenT T.z_len) (v 1) eq_i).is (by simp)) (fun _ => e_one (callB (a_cons (e_ofL' (xs := (t.map fun x => decide (0 ≤ x)).map PyData.bool)
    (l_lc (own := [("entry", 2)]) (fun _ => M) (fun j => some (.d (.bool (decide (0 ≤ t.getD j 0))))) (i_tup (xs := t.map PyData.int) (v 0)) (bk sc_p_are_numbers (by decide +kernel)) sc_p_are_numbers.nd (fun _ _ => trivial) (by simp; omega) fun j d hj => ?_) ?_) a_nil) (c_all rfl ls_bs) T.z_all)) fun _ => rfl) fun h => nomatch h) q)
  · obtain ⟨hj', rfl⟩ := map_at 0 hj
    refine ⟨true, _, _, M, ?_, fun s H C cl fp => gn 2 sc_p_are_numbers.nd, fun s H C cl fp G => ts_nil, fun _ => ⟨_, rfl, fun s H C cl fp G => call T.p_is_number (ok_is_number T) hr (a_cons (v 2) a_nil) fun R' h => ⟨_, rfl, h⟩⟩, fun z => nomatch z⟩
    decide
  · rw [List.length_map, List.length_map, outs_map t 0 (fun x => SV.d (.bool (decide (0 ≤ x))))]
    simp
end
end K04
set_option Elab.async false
set_option linter.all false
set_option maxRecDepth 100000
set_option maxHeartbeats 1000000
namespace K04
open PySem PySem.Spec L2 NL
open PyProof.Rows hiding St
section
variable {P : Program} {w : World} {K : PySem.W.Frag} {mg : Str → Option Value} {base : Heap}
def bookF (k : Nat) (ys : List (List Int)) : List (Str × D) := [("kinds", .int (k : Nat)), ("batches", .tuple (ys.map tI))]
def bookV (C : Addr) (k : Nat) (ys : List (List Int)) : SV := .ins C (bookF k ys)
def W_is_batch : Wp := fun ds M R => ∃ (t : List Int) (n : Int), ds = [.d (.int n), .d (tI t)] ∧ t.length ≤ 1000 ∧ R (.d (.bool (areR t n && t.any (· != 0)))) M
theorem ok_is_batch (T : Txt K mg) : FnG P w K mg base CX0 4 T.p_is_batch.f T.p_is_batch.fd A_p_is_batch (spN K 2 W_is_batch) := by
  refine fn_ok T.p_is_batch.F sc_p_is_batch fun cdv A outer s H E G ds M R hr hl hW => ?_
  obtain ⟨t, n, rfl, hn, q⟩ := hW
  exact b_one (ret (e_and (k := areR t n) (call T.p_are_numbers (ok_are_numbers T) hr (a_cons (v 1) (a_cons (v 0) a_nil)) fun R' h => ⟨t, n, rfl, hn, h⟩) (fun _ => e_one (callB (a_cons (v 1) a_nil) (c_anyT rfl rfl) T.z_any)) fun _ => rfl) q)
theorem good_batch {k : Nat} {bs : List (List Int)} (h : GoodB k bs) {t : List Int} (ht : t ∈ bs) : (areR t (k : Nat) && t.any (· != 0)) = true := by
  rw [Bool.and_eq_true]
  constructor
  · unfold areR
    rw [h.len t ht]
    simp only [decide_true, Bool.true_and, List.all_map, List.all_eq_true, Function.comp, id, decide_eq_true_eq]
    exact fun n hn => (h.nn t ht n hn).1
  · obtain ⟨n, hn, hp⟩ := h.nz t ht
    rw [List.any_eq_true]
    exact ⟨n, hn, by simp; omega⟩
def W_init (P : Program) (w : World) (T : Txt K mg) : Wp := fun ds M R => ∃ (q dx : Addr) (k : Nat) (bs : List (List Int)), ds = [.o q, .d (.int (k : Nat)), .d (lT bs)] ∧ M q = some (mIns T.Book.C dx []) ∧ 1 ≤ k ∧ k ≤ 100 ∧ GoodB k bs ∧ bs.length ≤ 30 ∧ R (.d .none) (mset M q (mIns T.Book.C dx (bookF k (sortT bs))))
theorem ok_init (T : Txt K mg) : FnG P w K mg base CX0 5 T.Book.f T.Book.fd A_Book_init (spN K 3 (W_init P w T)) := by
  refine fn_ok T.Book.F sc_Book_init fun cdv A outer s H E G ds M R hr hl hW => ?_
  obtain ⟨q, dx, k, bs, rfl, hM, hk, hk2, hg, hbl, qq⟩ := hW
  refine b_cons (s_if (t_ofW (w_or (k := false) ((t_not (t_val (call T.p_is_integer (ok_is_integer T) (hr.mono (by decide)) (a_cons (v 1) a_nil) fun R' h => ⟨.int (k : Nat), rfl, h⟩))).is rfl) (fun _ => w_or1 (tcmp (v 1) e_int lt_i)) fun h => nomatch h)) (fun h => ?_) fun _ => b_nil ?_)
  · exfalso
    simp at h; omega
  refine b_cons (s_if ((t_not (t_val (call T.p_is_sequence (ok_is_sequence T) (hr.mono (by decide)) (a_cons (v 2) a_nil) fun R' h => ⟨.d (lT bs), "list", rfl, nofun, rfl, .inl rfl, h⟩))).is (k' := false) rfl) (fun h => nomatch h) fun _ => b_nil ?_)
  refine b_cons (s_set0 (i := 3) (fun p hp => ?_) T.z_set sc_Book_init.nd)
  have hpq : p ≠ q := ne_new hM hp
  refine b_cons (s_for (fun i ρ' M' => ∃ L x y, ρ' = [.o q, .d (.int (k : Nat)), .d (lT bs), .o p, x, y] ∧ M' = mset M p (mSet P w p L) ∧ L.Perm (bs.take i)) (i_enumL (xs := bs.map tI) (a_cons (v 2) a_nil) T.z_enumerate) ⟨[], _, _, rfl, rfl, .nil⟩ (fun _ _ _ _ => trivial) ?_ ?_ PassesOwn.never)
  · rintro G i d ρ' M' hd ⟨L, x, y, rfl, rfl, hL⟩
    have hi : i < bs.length := by
      have := (List.getElem?_eq_some_iff.mp hd).1
      simpa [enD_len] using this
    have ed : d = .d (.tuple [.int (i : Nat), tI bs[i]]) := by
      rw [enD_at (by simpa using hi)] at hd
      rw [← Option.some.inj hd]
      simp
    subst ed
    refine ⟨_, _, g_tup2 rfl (gn 4 sc_Book_init.nd) (gn 5 sc_Book_init.nd), ?_⟩
    have hm : bs[i] ∈ bs := List.getElem_mem hi
    have hnl : bs[i] ∉ L := fun z => by
      have z2 := hL.mem_iff.mp z
      have nd := hg.nd.sublist (List.take_sublist (i + 1) bs)
      rw [List.take_succ_eq_append_getElem hi, List.nodup_append] at nd
      exact nd.2.2 _ z2 _ (List.mem_singleton.mpr rfl) rfl
    have hLl : L.length = i := by rw [hL.length_eq, List.length_take]; omega
    have hl1 := hg.len _ hm
    refine b_cons (s_if (t_ofW (w_or (k := false) ((t_not (t_val (call T.p_is_batch (ok_is_batch T) (hr.mono (by decide)) (a_cons (v 1) (a_cons (v 5) a_nil)) fun R' h => ⟨bs[i], _, rfl, ?_, by rw [good_batch hg hm]; exact h⟩))).is rfl) (fun _ => w_or1 ((tcmp (callT (a_cons (v 5) a_nil) c_tupleT T.z_tuple) (v 3) (in_set hr.units mset_same)).is (k' := false) (decide_eq_false hnl))) fun h => nomatch h)) (fun h => nomatch h) fun _ => b_nil ?_)
    · rw [hl1]; omega
    refine b_one (s_drop (e_sadd hr.units (v 3) mset_same (callT (a_cons (v 5) a_nil) c_tupleT T.z_tuple) mset_same (by omega) hnl) ⟨bs[i] :: L, _, _, rfl, mset_mset, ?_⟩)
    rw [List.take_succ_eq_append_getElem hi]
    exact (List.Perm.cons _ hL).trans (List.perm_append_singleton _ _).symm
  · rintro ρ' M' ⟨L, x, y, rfl, rfl, hL⟩
    rw [enD_len, List.length_map, List.take_length] at hL
    have hqM : mset M p (mSet P w p L) q = some (mIns T.Book.C dx []) := by rw [mset_ne (Ne.symm hpq)]; exact hM
    refine b_cons (s_fld (C := T.Book.C) (dx := dx) (q := q) (v 1) (v 0) hqM ?_ T.Book.cl T.nKinds)
    have hpM : mset (mset M p (mSet P w p L)) q (mIns T.Book.C dx [("kinds", .int (k : Nat))]) p = some (mSet P w p L) := by rw [mset_ne hpq, mset_same]
    refine b_one (s_fldN (C := T.Book.C) (dx := dx) (q := q) (fs := [("kinds", .int (k : Nat))]) (Φ := fun d M' => ∃ ys, d = .d (.tuple (ys.map tI)) ∧ ys = sortT bs ∧ ∃ r, mset (mset M p (mSet P w p L)) q (mIns T.Book.C dx [("kinds", .int (k : Nat))]) r = none ∧ M' = mset (mset (mset M p (mSet P w p L)) q (mIns T.Book.C dx [("kinds", .int (k : Nat))])) r (.lst (tsv ys)))
      (n_callT1 (T := "tuple") (n_callB1 (id := "sorted") (Φ := fun d M' => d = .o p ∧ M' = mset (mset M p (mSet P w p L)) q (mIns T.Book.C dx [("kinds", .int (k : Nat))])) (Ψ := fun d M' => ∃ ys r, d = .o r ∧ ys = sortT bs ∧ mset (mset M p (mSet P w p L)) q (mIns T.Book.C dx [("kinds", .int (k : Nat))]) r = none ∧ M' = mset (mset (mset M p (mSet P w p L)) q (mIns T.Book.C dx [("kinds", .int (k : Nat))])) r (.lst (tsv ys))) (n_of (v 3) ⟨rfl, rfl⟩) (fun d M1 ⟨h1, h2⟩ => ?_) T.z_sorted) (fun d M1 ⟨ys, r, h1, h2, h3, h4⟩ => ?_) T.z_tuple)
      (fun d M1 ⟨ys, h1, h2, r, h3, h4⟩ => ?_) T.Book.cl T.nBatches (by show 1 < 1000; decide))
    · subst h1 h2
      exact c_sortedS rfl hpM hk (B := 13) (fun t ht => ⟨hg.len t (hL.mem_iff.mp ht), fun n hn => by have := hg.nn t (hL.mem_iff.mp ht) n hn; omega⟩) fun ys hp _ hc r hr => ⟨ys, r, rfl, srt_unique ((hp.trans hL).trans (sortT_perm bs).symm) (srt_code (k := k) (B := 13) hc fun t ht => ⟨hg.len t ((hp.trans hL).mem_iff.mp ht), fun n hn => by have := hg.nn t ((hp.trans hL).mem_iff.mp ht) n hn; omega⟩) (sortT_srt bs), hr, rfl⟩
    · subst h1 h4
      exact jcn_of (c_tupleL (xs := ys.map tI) (by rw [← tsv_eq]; exact ls_o mset_same)) ⟨ys, rfl, h2, r, h3, rfl⟩
    · subst h2
      have hrq : r ≠ q := fun e => by rw [e, mset_same] at h3; cases h3
      have hrp : r ≠ p := fun e => by rw [e, hpM] at h3; cases h3
      have hr0 : M r = none := by rw [mset_ne hrq, mset_ne hrp] at h3; exact h3
      subst h1 h4
      refine ⟨_, rfl, v 0, by rw [mset_ne (Ne.symm hrq), mset_same], ?_⟩
      refine ⟨mset M q (mIns T.Book.C dx (bookF k (sortT bs))), fun x m z => ?_, qq⟩
      by_cases e : x = q
      · subst e
        rw [mset_same] at z ⊢
        exact z
      · have e1 : x ≠ r := fun e2 => by rw [mset_ne e, e2, hr0] at z; cases z
        have e2 : x ≠ p := fun e2 => by rw [mset_ne e, e2, hp] at z; cases z
        rw [mset_ne e] at z
        rw [mset_ne e, mset_ne e1, mset_ne e, mset_ne e2]
        exact z
end
end K04
set_option Elab.async false
set_option linter.all false
set_option maxRecDepth 100000
set_option maxHeartbeats 4000000
namespace NL
open PySem PySem.Spec L2
open PyProof.Rows hiding St
end NL
set_option Elab.async false
set_option linter.all false
set_option maxRecDepth 100000
set_option maxHeartbeats 4000000
namespace NL
open PySem PySem.Spec L2
open PyProof.Rows hiding St
end NL
set_option Elab.async false
set_option linter.all false
set_option maxRecDepth 100000
set_option maxHeartbeats 4000000
namespace NL
open PySem PySem.Spec L2
open PyProof.Rows hiding St
def nA (X : Cx) (G : Gh) (es : List Expr) (ρ : List SV) (M : MM) (Ψ : List SV → MM → Prop) : Prop := ∀ S H σ, Sta X.K G S H σ ρ M → ∀ Q : List V → Hp → Prop,
  (∀ ds M' vs S' H', Ψ ds M' → Sub S S' → Sta X.K G S' H' σ ρ M' → RelA X.K S' ds vs → Q vs H') → semA X es σ H Q
section
variable {X : Cx} {G : Gh} {ρ : List SV} {M M1 M2 M3 : MM} {z d : SV} {ds : List SV} {e a b c : Expr} {es : List Expr} {pos p p' : Pos} {Φ Ψ Ξ : SV → MM → Prop} {Γ Δ : List SV → MM → Prop} {P : Post} {k : Bool}
theorem nA.imp (h : nA X G es ρ M Γ) (k : ∀ ds M', Γ ds M' → Δ ds M') : nA X G es ρ M Δ := fun S H σ st Q q => h S H σ st Q fun ds M' vs S' H' f => q ds M' vs S' H' (k ds M' f)
theorem nE.never (h : nE X G e ρ M fun _ _ => False) : nE X G e ρ M Φ := h.imp fun _ _ z => z.elim
end
end NL
set_option Elab.async false
set_option linter.all false
set_option maxRecDepth 100000
set_option maxHeartbeats 4000000
namespace NL
open PySem PySem.Spec L2
open PyProof.Rows hiding St
section
variable {X : Cx} {G : Gh} {ρ : List SV} {M M1 M2 : MM} {d : SV} {ds zs : List SV} {e e2 : Expr} {kws : List Keyword} {pos p p' : Pos} {Φ Ψ : SV → MM → Prop} {P : Post}
theorem n_kwX {k n : Nat} {W : WpX} {x : Str} {st : Stmt} {ps ks : List Str} {EX : EPost} {TW : WX} {g : List Value → List Value → List Value} {gV : List V → List V → List V} {gS : List SV → List SV} (T : Def X.K X.mg x st ps) (F : FnG X.prog X.w X.K X.mg X.base (L2.CX X.prog X.w) k T.f T.fd ps (spX X.K n W)) (hr : Rm k X.A) (tk : Takes X TW) (fx : FitsX X.K G EX TW)
    (hb : KBn X.K T.fd ps 0 ks g gV) (ha : jK X G kws ρ M zs M1) (hgs : ∀ {S : Hp} {vs : List V}, RelA X.K S zs vs → RelA X.K S (gS zs) (gV [] vs)) (hzl : zs.length = ks.length) (hW : W (gS zs) M1 Φ fun C d M' => EX C d ρ M') (hl : (gS zs).length = n := by rfl)
    (hg : Gl X x := by rfl) (hall : (backToKw pos (keywordEach kws X.env)).all (·.1.isSome) = true := by rfl) (hks : (backToKw pos (keywordEach kws X.env)).filterMap (·.1) = ks := by rfl) (hdb : (x == ("__debug__" : Str)) = false := by decide)
    (hpl : ((backTo pos (starEach [] X.env)).any (·.1) || (backToKw pos (keywordEach kws X.env)).any (·.1.isNone)) = false := by rfl) : nE X G (.Call (.Name x p) [] kws pos) ρ M Φ := fun S H σ st Q q => by
  have ar := ha S H σ st (fun vs H1 => spX X.K n W (gV [] vs) H1 Q fun cls dd H2 => TW cls dd σ H2) fun vs S1 H1 e1 st1 r1 =>
    ⟨S1, gS zs, M1, Φ, fun C d M' => EX C d ρ M', hgs r1, hl, st1.hst.enter, hW, fun d M' v S' H' h' r' q' => q d M' v S' H' q' (e1.tr h'.g1) ⟨st1.hst.leave h', st1.sl.mono h'.g1⟩ r', fun C d M' dx v S' H' h' e' r' q' => fx S' H' σ ρ M' C dx d v ⟨st1.hst.leave h', st1.sl.mono h'.g1⟩ e' r' q'⟩
  have len := ha S H σ st (fun vs _ => vs.length = ks.length) fun vs S1 H1 e1 st1 r1 => by rw [r1.len, hzl]
  refine ⟨fun pins s I => wpAny_Call_Name_kw (ld_glob I hg T.g ?_ hdb)⟩
  have both := ha S H σ st (fun vs H1 => vs.length = ks.length ∧ spX X.K n W (gV [] vs) H1 Q fun cls dd H2 => TW cls dd σ H2) fun vs S1 H1 e1 st1 r1 =>
    ⟨by rw [r1.len, hzl], S1, gS zs, M1, Φ, fun C d M' => EX C d ρ M', hgs r1, hl, st1.hst.enter, hW, fun d M' v S' H' h' r' q' => q d M' v S' H' q' (e1.tr h'.g1) ⟨st1.hst.leave h', st1.sl.mono h'.g1⟩ r', fun C d M' dx v S' H' h' e' r' q' => fx S' H' σ ρ M' C dx d v ⟨st1.hst.leave h', st1.sl.mono h'.g1⟩ e' r' q'⟩
  refine PySem.W.callWith_KW0 (h₀ := X.base) I.ok.mod.kin T.F.kp hall (thn (both.run pos pins s I) fun ws s2 z => ?_) hpl
  obtain ⟨vs, H2, I2, rz, l2, sp⟩ := z
  refine ⟨I2.kIn, ?_⟩
  rw [hks]
  have r2 := hb.rel (vs := []) (us := []) .nil rz
  refine wpAny_call (codeAny_mono (F.run X.A X.stack s2 H2 ⟨[], ks.zip ws⟩ (g [] ws) (gV [] vs) Q _ hr.gd hr.room I2.env0 (hb.to s2 [] ws I2.kIn rfl (rz.length.symm.trans l2)) r2 sp) fun r s3 c => ?_)
  cases r with
  | error u => exact tk u s3 (XE.of_call I2 (fun _ _ _ y => y) c)
  | ok fl =>
    cases fl with
    | ret u => exact I2.after c
    | next => exact c.elim
    | brk => exact c.elim
    | cont => exact c.elim
end
end NL
set_option Elab.async false
set_option linter.all false
set_option maxRecDepth 100000
set_option maxHeartbeats 4000000
namespace NL
open PySem PySem.Spec L2
open PyProof.Rows hiding St
section
variable {prog : Program} {w : World} {A : Around} {E : Value → Shared → Prop} {s : Shared} {K : PySem.W.Frag} {x C L f : Addr} {h₀ : Heap} {m : Str → Option Value} {ox : Obj} {od : Option Obj} {b tb : Value}
theorem tryNe_K {Q : Option Value → Shared → Prop} (hu : A.units + 1 < cLine) (X : K.In s.heap) (I : PySem.W.InstAt s.heap x ox C od) (hn : PySem.W.findIn K (.ref C) "__ne__" = some (some (.builtin "object.__ne__"))) (he : PySem.W.findIn K (.ref C) "__eq__" = some (some (.ref f))) (hf : PySem.W.isFn K (.ref f) = true)
    (ho : PySem.W.mroIn K C (.type "object") = some true) (h : wpAny (model prog w) A.in1 (PySem.call (.ref f) [.ref x, b]) (fun v s' => ∃ r, v = .bool r ∧ Q (some (.bool (!r))) s') E s) : wpAny (model prog w) A (tryCompare (.ref x) "__ne__" b) Q E s := by
  have one : wpAny (model prog w) A (PySem.call (.builtin "object.__ne__") [.ref x, b]) (fun v s' => ∃ r, v = .bool r ∧ Q (some (.bool r)) s') E s := by
    refine wpAny_call (codeAny_call_builtin PySem.F.cmp_object.ne.plain PySem.F.cmpEntry_ne (PySem.W.check_slot PySem.F.cmpKind_ne PySem.F.cmpSplit_ne (I.type.andThen (PySem.W.looks_mroIn X ho)) (PySem.F.cmpArgs_ne _ _) ?_))
    obtain ⟨hh, g, d, t, os⟩ := s
    unfold Builtin.«object.__ne__»
    repeat (first
      | with_reducible refine wpAny_cRoomFor hu ?_
      | (refine wpAny_bind (m := callSpecialIfBound? (.ref x) (Str.ofString "__eq__") [b])
          (PySem.W.ifBound_K X I he hf (wpAny_mono h (fun r s' hr => by
            obtain ⟨b, rfl, hq⟩ := hr
            repeat (first | exact ⟨_, rfl, hq⟩ | exact wpAny_pure ⟨_, rfl, hq⟩ | exact wpAny_truthy_bool ⟨_, rfl, hq⟩ | (refine wpAny_bind (m := truthy (.bool _)) (wpAny_truthy_bool ?_)) | wp_step)) fun _ _ e => e)))
      | wp_step)
  simp only [tryCompare, callSpecialIfBound?, bindSpecialIfBound?]
  refine wpAny_bind (wpAny_holding (wpAny_bind (wpAny_bind (wpAny_bind (I.type.here ((PySem.W.looks_findIn X hn).here ?_))))))
  simp only [PySem.F.cmp_object.ne.bind]
  refine wpAny_bind (wpAny_askSetting (wpAny_ite ?_))
  have fin : ∀ {Q' : Option Value → Shared → Prop}, (∀ r s', Q (some (.bool r)) s' → Q' (some (.bool r)) s') → wpAny (model prog w) A (PySem.call (.builtin "object.__ne__") ([.ref x] ++ [b]) >>= fun v => pure (some v)) Q' E s := fun hq => wpAny_bind (wpAny_mono one (fun v s' ⟨r, e, h'⟩ => by subst e; exact wpAny_pure (hq r s' h')) fun _ _ e => e)
  split
  · exact wpAny_bind (wpAny_pure (wpAny_pure (fin fun r s' hq => wpAny_pure hq)))
  · exact wpAny_tryCatch (wpAny_bind (wpAny_pure (wpAny_pure (fin fun r s' hq => wpAny_pure hq))))
theorem ne_K {Q : Value → Shared → Prop} (hu : A.units + 1 < cLine) (X : K.In s.heap) (I : PySem.W.InstAt s.heap x ox C od) (hb : PySem.W.Looks (model prog w) s.heap (typeOf b) tb) (hnf : PySem.W.notFirst K C tb = true) (hn : PySem.W.findIn K (.ref C) "__ne__" = some (some (.builtin "object.__ne__"))) (he : PySem.W.findIn K (.ref C) "__eq__" = some (some (.ref f))) (hf : PySem.W.isFn K (.ref f) = true)
    (ho : PySem.W.mroIn K C (.type "object") = some true) (h : wpAny (model prog w) A.in1 (PySem.call (.ref f) [.ref x, b]) (fun v s' => ∃ r, v = .bool r ∧ Q (.bool (!r)) s') E s) : wpAny (model prog w) A (compareOp .NotEq (.ref x) b) Q E s := by
  have one : wpAny (model prog w) A (tryCompare (.ref x) (cmpInfo .NotEq).2.1 b) (fun r s' => ∃ v, r = some v ∧ Q v s') E s := by
    rw [cmpInfo_NotEq]
    exact tryNe_K hu X I hn he hf ho (wpAny_mono h (fun v s' ⟨r, e, q⟩ => ⟨r, e, _, rfl, q⟩) fun _ _ e => e)
  unfold compareOp
  show wpAny (model prog w) A (richCompare .NotEq (.ref x) b) Q E s
  unfold richCompare
  simp only [oneThing_ref]
  refine wpAny_holding (wpAny_bind (wpAny_cRoomFor (Nat.lt_of_succ_lt hu) ?_))
  refine wpAny_bind (I.type.here (wpAny_bind (hb.here ?_)))
  split
  · rename_i q
    have e : PySem.W.subIn K tb (.ref C) = some false := by
      rcases Bool.or_eq_true_iff.mp hnf with e | e
      · rw [beq_iff_eq.mp e] at q; simp at q
      · exact beq_iff_eq.mp e
    refine wpAny_bind ((PySem.W.looks_subIn X e).here ?_)
    simp only [Bool.false_eq_true, if_false]
    refine wpAny_bind (wpAny_mono one (fun r s' z => ?_) fun _ _ e => e)
    obtain ⟨v, rfl, hq⟩ := z
    exact wpAny_pure hq
  · refine wpAny_bind (wpAny_pure ?_)
    simp only [Bool.false_eq_true, if_false]
    refine wpAny_bind (wpAny_mono one (fun r s' z => ?_) fun _ _ e => e)
    obtain ⟨v, rfl, hq⟩ := z
    exact wpAny_pure hq
end
/-- the class's own == -/
structure OwnEq (K : PySem.W.Frag) (C f : Addr) : Prop where
  eq : PySem.W.findIn K (.ref C) "__eq__" = some (some (.ref f))
  fn : PySem.W.isFn K (.ref f) = true
  ne : PySem.W.findIn K (.ref C) "__ne__" = some (some (.builtin "object.__ne__"))
  ob : PySem.W.mroIn K C (.type "object") = some true
/-- a value whose type is told -/
def Lk (H : Hp) (y : V) (t : Value) : Prop := (∃ b dx fs C, y = .ref b ∧ H b = some (.ins C dx fs) ∧ t = .ref C) ∨ (∃ b xs, y = .ref b ∧ H b = some (.tup xs) ∧ t = .type "tuple") ∨ (∃ z, y = .str z ∧ t = .type "str")
theorem Lk.look {X : Cx} {pins : List (Addr × Obj)} {σ : L2.St} {H : Hp} {s : Shared} {y : V} {u t : Value} (I : Inv X pins σ H s) (ry : RelV y u) (h : Lk H y t) : PySem.W.Looks (model X.prog X.w) s.heap (typeOf u) t := by
  rcases h with ⟨b, dx, fs, C, rfl, hb, rfl⟩ | ⟨b, xs, rfl, hb, rfl⟩ | ⟨z, rfl, rfl⟩
  · obtain rfl : u = .ref b := ry
    obtain ⟨mA, O, _⟩ := ins_get I.hok hb
    obtain ⟨od, J, _⟩ := O.look
    exact J.type
  · obtain rfl : u = .ref b := ry
    obtain ⟨_, _, _, o, h1, h2, _⟩ := (show ObjOk X.prog X.w H s.heap b (.tup xs) from I.hok b _ hb)
    exact h2 ▸ (PySem.W.Looks.ld h1).andThen .now
  · obtain ⟨t, rfl⟩ := (show ∃ t, u = Value.str z t from ry)
    exact PySem.W.Looks.of_pure rfl
def rOwn (K : PySem.W.Frag) (C : Addr) (W : Wp) (neg : Bool) : R2 := fun x y H Q => ∃ (a dx : Addr) (fs : List (Str × V)) (t : Value), x = .ref a ∧ H a = some (.ins C dx fs) ∧ Lk H y t ∧ PySem.W.notFirst K C t = true ∧ spN K 2 W [x, y] H (fun v H' => ∃ r, v = .bl r ∧ Q (.bl (neg != r)) H') E0
section
variable {X : Cx} {G : Gh} {M M1 : MM} {k : Nat} {C f : Addr} {fd : FuncData} {ps : List Str} {W : Wp}
theorem op_eqOwn (F : FnG X.prog X.w X.K X.mg X.base CX0 k f fd ps (spN X.K 2 W)) (hb : Binds X.K fd ps []) (hr : Rm k X.A) (o : OwnEq X.K C f) : OpR X (compareOp .Eq) (rOwn X.K C W false) := by
  intro pins s σ H x y v u Q I rx ry h
  obtain ⟨a, dx, fs, t, rfl, ha, hl, hnf, hsp⟩ := h
  obtain rfl : v = .ref a := rx
  obtain ⟨mA, J, _⟩ := ins_get I.hok ha
  obtain ⟨od, J, _⟩ := J.look
  obtain ⟨m, hF⟩ := I.fr
  show wpAny (model X.prog X.w) X.A (richCompare .Eq (.ref a) u) (EP X pins σ Q) X.xe s
  refine PySem.W.cmp_K (op := .Eq) (tb := t) hr.room.units0 hF I.ok.mod.kin J (hl.look I ry) hnf o.eq o.fn ?_
  refine wpAny_mono (runG (us := [.ref a, u]) (vs := [V.ref a, y]) F hr.gd hr.room hb .nil pass0 I (.cons rfl (.cons ry .nil)) (by rw [List.append_nil]; exact hsp)) (fun r s' q => ?_) fun _ _ e => e
  obtain ⟨v, H', I', rv, r2, rfl, q9⟩ := q
  obtain rfl : r = Value.bool r2 := rv
  exact ⟨.bl r2, H', I', rfl, by simpa using q9⟩
theorem op_neOwn (F : FnG X.prog X.w X.K X.mg X.base CX0 k f fd ps (spN X.K 2 W)) (hb : Binds X.K fd ps []) (hr : Rm (k + 1) X.A) (o : OwnEq X.K C f) : OpR X (compareOp .NotEq) (rOwn X.K C W true) := by
  intro pins s σ H x y v u Q I rx ry h
  obtain ⟨a, dx, fs, t, rfl, ha, hl, hnf, hsp⟩ := h
  obtain rfl : v = .ref a := rx
  obtain ⟨mA, J, _⟩ := ins_get I.hok ha
  obtain ⟨od, J, _⟩ := J.look
  refine ne_K (by have := hr.room.un; omega) I.kIn J (hl.look I ry) hnf o.ne o.eq o.fn o.ob ?_
  have e0 : Env0 X.prog X.w X.K X.mg X.base X.A.in1 X.stack s H := by
    have e := I.env0
    exact ⟨e.frames, e.mod, e.bs, e.bsz, e.funs, e.frf, e.hok, e.bare⟩
  have r2 : Vals [V.ref a, y] [Value.ref a, u] := .cons rfl (.cons ry .nil)
  refine wpAny_call (codeAny_mono (F.run X.A.in1 X.stack s H ⟨[.ref a, u], []⟩ [.ref a, u] [.ref a, y] _ E0 (show X.A.in1.guards = some [] from hr.gd) hr.room.in1 e0 (by
    have := hb s [.ref a, u] I.kIn (r2.length.symm.trans (F.len _ _ _ _ hsp))
    simpa using this) r2 hsp) fun r s' q => ?_)
  have := CR.back I pass0 q
  cases r with
  | error e => exact this
  | ok fl =>
    cases fl with
    | ret z =>
      obtain ⟨v, H', I', rv, r2, rfl, q9⟩ := this
      obtain rfl : z = Value.bool r2 := rv
      exact ⟨r2, rfl, .bl (!r2), H', I', rfl, by simpa using q9⟩
    | next => exact this
    | brk => exact this
    | cont => exact this
/-- of what kind the right side is -/
def tyS2 : SV → Option Value
  | .ins C _ => some (.ref C)
  | .d (.tuple _) => some (.type "tuple")
  | .d (.str _) => some (.type "str")
  | _ => none
theorem lk_of {S H : Hp} {y : SV} {v : V} {t : Value} {K : PySem.W.Frag} (e : Sub S H) (r : Rel K S y v) (h : tyS2 y = some t) : Lk H v t := by
  cases y with
  | ins C fs =>
    cases h
    obtain ⟨q, dx, vs, rfl, hq, _⟩ := r
    exact .inl ⟨q, dx, vs, C, rfl, e _ _ hq, rfl⟩
  | d d =>
    cases d with
    | tuple ds =>
      cases h
      obtain ⟨a, xs, rfl, ha, _⟩ := r
      exact .inr (.inl ⟨a, xs, rfl, e _ _ ha, rfl⟩)
    | str z =>
      cases h
      obtain rfl : v = .str z := r
      exact .inr (.inr ⟨z, rfl, rfl⟩)
    | _ => cases h
  | _ => cases h
theorem own_j2 {fs : List (Str × D)} {y : SV} {t : Value} {r neg : Bool} (ht : tyS2 y = some t) (hnf : PySem.W.notFirst X.K C t = true) (hW : ∀ R : SV → MM → Prop, R (.d (.bool r)) M1 → W [.ins C fs, y] M R) : j2 X G (rOwn X.K C W neg) M (.ins C fs) y (.d (.bool (neg != r))) M1 := fun S H σ ρ u v st ru rv Q q => by
  obtain ⟨a, dx, vs, rfl, ha, hf⟩ := id ru
  refine ⟨a, dx, vs, t, rfl, st.hst.sub _ _ ha, lk_of st.hst.sub rv ht, hnf, S, [.ins C fs, y], M, fun d M' => d = .d (.bool r) ∧ M' = M1, ⟨_, _, rfl, ru, _, _, rfl, rv, rfl⟩, rfl, st.hst.enter, hW _ ⟨rfl, rfl⟩, fun d M' v' S' H' h' r' q' => ?_⟩
  obtain ⟨rfl, rfl⟩ := q'
  obtain rfl : v' = .bl r := r'
  exact ⟨r, rfl, q _ S' H' h'.g1 ⟨st.hst.leave h', st.sl.mono h'.g1⟩ rfl⟩
theorem eq_own {fs : List (Str × D)} {y : SV} {t : Value} {r : Bool} (F : FnG X.prog X.w X.K X.mg X.base CX0 k f fd ps (spN X.K 2 W)) (hb : Binds X.K fd ps []) (hr : Rm k X.A) (o : OwnEq X.K C f) (ht : tyS2 y = some t) (hnf : PySem.W.notFirst X.K C t = true)
    (hW : ∀ R : SV → MM → Prop, R (.d (.bool r)) M1 → W [.ins C fs, y] M R) : J2 X G (compareOp .Eq) M (.ins C fs) y (.d (.bool r)) M1 := ⟨_, op_eqOwn F hb hr o, by have := own_j2 (X := X) (G := G) (neg := false) ht hnf hW; simpa using this⟩
theorem ne_own {fs : List (Str × D)} {y : SV} {t : Value} {r : Bool} (F : FnG X.prog X.w X.K X.mg X.base CX0 k f fd ps (spN X.K 2 W)) (hb : Binds X.K fd ps []) (hr : Rm (k + 1) X.A) (o : OwnEq X.K C f) (ht : tyS2 y = some t) (hnf : PySem.W.notFirst X.K C t = true)
    (hW : ∀ R : SV → MM → Prop, R (.d (.bool r)) M1 → W [.ins C fs, y] M R) : J2 X G (compareOp .NotEq) M (.ins C fs) y (.d (.bool (!r))) M1 := ⟨_, op_neOwn F hb hr o, by have := own_j2 (X := X) (G := G) (neg := true) ht hnf hW; simpa using this⟩
end
end NL
set_option Elab.async false
set_option linter.all false
set_option maxRecDepth 100000
set_option maxHeartbeats 4000000
namespace NL
open PySem PySem.Spec L2
open PyProof.Rows hiding St
section
variable {X : Cx} {G : Gh} {ρ : List SV} {M M1 : MM} {e : Expr} {es : List Expr} {kws : List Keyword} {pos p : Pos} {ds : List SV} {Φ : SV → MM → Prop} {k n : Nat} {W : WpX} {x qual : Str} {st : Stmt} {ps ks : List Str} {EX : EPost} {TW : WX}
/-- nothing comes out -/
def TW0 : WX := fun _ _ _ _ => False
def EX0 : EPost := fun _ _ _ _ => False
theorem takes0 : Takes X TW0 := fun _ _ ⟨_, _, _, _, _, _, _, _, _, _, _, _, _, _, _, _, z⟩ => z.elim
theorem fits0 {K : PySem.W.Frag} : FitsX K G EX0 TW0 := fun _ _ _ _ _ _ _ _ _ _ _ _ z => z
end
end NL
set_option Elab.async false
set_option linter.all false
set_option maxRecDepth 100000
set_option maxHeartbeats 4000000
namespace NL
open PySem PySem.Spec L2
open PyProof.Rows hiding St
section
variable {X : Cx} {G : Gh} {e e2 : Expr} {es : List Expr} {ρ : List SV} {M M1 : MM} {pos p tpos : Pos} {elts : List Expr} {kk : Nat}
/-- what is asked of a class for isinstance of its instances -/
theorem c_isiI {C : Addr} {C2 : Addr} {fs : List (Str × D)} {b : Bool} (cl : Cls X.K C) (I : IsX X.K C) (h : PySem.W.kitOne X.K (.ref C) (.ref C2) = some b) : JC X G (.builtin "isinstance") M [.ins C fs, .v (.ref C2)] (.d (.bool b)) M := ⟨_, call_isi, fun S H σ ρ us st r Q q => by
  obtain ⟨v, r1, rfl, hv, w, r2, rfl, hw, rfl⟩ := r
  obtain rfl : w = .ref C2 := hw
  obtain ⟨a, dx, vs, rfl, ha, hf⟩ := hv
  exact ⟨.ref a, .ref C2, _, _, b, rfl, .own C2, .base (.ins (st.hst.sub _ _ ha) cl I.cc I.ge I.tk I.mr), h, q _ S H (Sub.rfl' S) st rfl⟩⟩
end
end NL
set_option Elab.async false
set_option linter.all false
set_option maxRecDepth 100000
set_option maxHeartbeats 4000000
namespace NL
open PySem PySem.Spec L2
open PyProof.Rows hiding St
theorem FitsX.inner {K : PySem.W.Frag} {G : Gh} {S H : Hp} {M : MM} {EX : EPost} {W : WX} (h : Hst K G S H M) (f : FitsX K G EX W) : FitsX K (gh S H M) EX W := fun S1 H1 σ ρ M1 C dx d v st e r q => f S1 H1 σ ρ M1 C dx d v (st.leave h) e r q
section
variable {X : Cx} {G : Gh} {tg e : Expr} {ρ : List SV} {M M1 : MM} {pos p : Pos}
theorem s_forX {it : Expr} {body : List Stmt} {P : Post} {xs : List SV} {need : MM → Prop} (I : Nat → List SV → MM → Prop) (hi : jI X G tg it ρ M xs need M1) (h0 : I 0 ρ M1) (hneed : ∀ i ρ' M', I i ρ' M' → need M')
    (step : ∀ G2 i d ρ' M', (∀ EX W, FitsX X.K G EX W → FitsX X.K G2 EX W) → xs[i]? = some d → I i ρ' M' → ∃ own f, jG X tg d own f ∧ jB X G2 body (f ρ') M' { P with nx := I (i + 1), ct := I (i + 1), bk := P.nx }) (done : ∀ ρ' M', I xs.length ρ' M' → P.nx ρ' M')
    (hp : PassesOwn (model X.prog X.w) X.A X.env X.xe) (hc : X.calm = true := by rfl) (hs : ∀ x, foldedSetIterable it X.env x = pure x := by intro _; rfl) : jS X G (.For tg it body [] pos) ρ M P := fun S H σ st D ft =>
  PS.go (ps_for hp hc piS pgS pbS hs) (hi S H σ st _ fun J S1 H1 e1 st1 w => by
    refine ⟨fun i m σ' H' => m = xs.length - i ∧ i ≤ xs.length ∧ ∃ S' ρ' M', Sub S1 S' ∧ Sta X.K G S' H' σ' ρ' M' ∧ I i ρ' M', ⟨xs.length, by simp, Nat.zero_le _, S1, ρ, M1, Sub.rfl' _, st1, h0⟩, ?_⟩
    rintro i m σ' H' ⟨rfl, hle, S', ρ', M', es, st', hI⟩
    have hn := hneed i ρ' M' hI
    by_cases hlt : i < xs.length
    · refine .inr ⟨w.go G i S' H' M' σ' ρ' es st' hn hlt, fun σ2 H2 => ∃ S2 ρ2 M2, Sub S1 S2 ∧ Sta X.K G S2 H2 σ2 ρ2 M2 ∧ I (i + 1) ρ2 M2, fun σ2 H2 h2 => ⟨xs.length - (i + 1), by omega, rfl, hlt, h2⟩, fun x H2 y => ?_⟩
      obtain ⟨_, S2, d, hd, e2, _, st2, r2⟩ := w.yld G i S' H' M' σ' ρ' x H2 es st' hn hlt y
      obtain ⟨own, f, hg, hb⟩ := step (gh S2 H2 M') i d ρ' M' (fun EX W f => f.inner st2.hst) hd hI
      refine hg S2 H2 σ' ρ' M' G x st2 r2 _ fun σ3 st3 _ => ?_
      have e3 : Sub S1 S2 := es.tr e2
      exact hb S2 H2 σ3 st3.enter _ (Fits.inner st3.hst (fun S4 H4 σ4 ρ4 M4 e4 s4 q => ⟨S4, ρ4, M4, e3.tr e4, s4, q⟩) ft.rt (fun S4 H4 σ4 ρ4 M4 e4 s4 q => ft.nx S4 H4 σ4 ρ4 M4 s4 q) (fun S4 H4 σ4 ρ4 M4 e4 s4 q => ⟨S4, ρ4, M4, e3.tr e4, s4, q⟩))
    · have e : i = xs.length := by omega
      subst e
      exact .inl ⟨w.stop G _ S' H' M' σ' ρ' es st' hn rfl, ft.nx S' H' σ' ρ' M' st' (done ρ' M' hI)⟩)
end
end NL
set_option Elab.async false
set_option linter.all false
set_option maxRecDepth 100000
set_option maxHeartbeats 4000000
namespace NL
open PySem PySem.Spec L2
open PyProof.Rows hiding St
abbrev TH := Value × (Addr → Value → Option Addr → TS)
inductive HdL (X : Cx) (n : Str) : List ExceptHandler → List TH → Prop
  | nil : HdL X n [] []
  | cons {x : Str} {c : Value} {np pp : Pos} {b0 : Stmt} {sb : List Stmt} {ts : Addr → Value → Option Addr → TS} {hds : List ExceptHandler} {l : List TH} (hc : Names X x c)
      (su : ∀ (a : Addr) (oe : Obj) (k : Value) (d : Option Addr) (pn : List (Addr × Obj)), Zc k d oe → (∃ vs, oe.data = .fields vs) → PSs (X.suite a ((a, oe) :: pn)) (b0 :: sb) (ts a k d)) (r : HdL X n hds l) :
      HdL X n (.ExceptHandler (some (.Name x np)) (some n) (b0 :: sb) pp :: hds) ((c, ts) :: l)
end NL
set_option Elab.async false
set_option linter.all false
set_option maxRecDepth 100000
set_option maxHeartbeats 4000000
namespace NL
open PySem PySem.Spec L2
open PyProof.Rows hiding St
section
variable {X : Cx} {G : Gh} {ρ : List SV} {M : MM} {P : Post} {pos : Pos}
abbrev tsB (X : Cx) (bs : List Stmt) : Addr → Value → Option Addr → TS := fun a k dd D σ H => ∀ (oe : Obj) (pn : List (Addr × Obj)), Zc k dd oe → (∃ vs, oe.data = .fields vs) → semB' (X.suite a ((a, oe) :: pn)) bs D σ H
theorem hd_cons {n x : Str} {c : Value} {np pp : Pos} {b0 : Stmt} {sb : List Stmt} {hds : List ExceptHandler} {l : List TH} (hc : Names X x c) (r : HdL X n hds l) : HdL X n (.ExceptHandler (some (.Name x np)) (some n) (b0 :: sb) pp :: hds) ((c, tsB X (b0 :: sb)) :: l) :=
  .cons hc (fun a oe k d pn z v => ⟨fun pins s σ H D I h => (h oe pn z v).run pins s I⟩) r
end
end NL
set_option Elab.async false
set_option linter.all false
set_option maxRecDepth 100000
set_option maxHeartbeats 4000000
namespace NL
open PySem PySem.Spec L2
open PyProof.Rows hiding St
section
variable {X : Cx} {G : Gh} {ρ : List SV} {M M1 M2 M3 : MM} {P : Post} {pos : Pos} {a b c : Expr} {x y z : SV} {k k2 : Bool} {op op' : CmpOp}
inductive Cls (X : Cx) (n : Str) : List ExceptHandler → List (Value × List Stmt) → Prop where
  | nil : Cls X n [] []
  | cons {x : Str} {c : Value} {np pp : Pos} {b0 : Stmt} {sb : List Stmt} {hds : List ExceptHandler} {l : List (Value × List Stmt)} (hc : Names X x c) (r : Cls X n hds l) : Cls X n (.ExceptHandler (some (.Name x np)) (some n) (b0 :: sb) pp :: hds) ((c, b0 :: sb) :: l)
theorem Cls.hd {n : Str} : ∀ {hds : List ExceptHandler} {l : List (Value × List Stmt)}, Cls X n hds l → HdL X n hds (l.map fun q => (q.1, tsB X q.2))
  | _, _, .nil => .nil
  | _, _, .cons hc r => hd_cons hc r.hd
end
end NL
set_option Elab.async false
set_option linter.all false
set_option maxRecDepth 100000
set_option maxHeartbeats 2000000
namespace NL
open PySem PySem.Spec L2
open PyProof.Rows hiding St
theorem cut_to {α : Type} {xs : List α} {j : Nat} (h : j ≤ xs.length) : (xs.drop (HT.sIx xs.length 0 none)).take (HT.sIx xs.length xs.length (some (j : Int)) - HT.sIx xs.length 0 none) = xs.take j := by
  rw [HT.sIx_none, HT.sIx_nat]
  simp [Nat.min_eq_left h]
theorem cut_from {α : Type} {xs : List α} {j : Nat} (h : j ≤ xs.length) : (xs.drop (HT.sIx xs.length 0 (some (j : Int)))).take (HT.sIx xs.length xs.length none - HT.sIx xs.length 0 (some (j : Int))) = xs.drop j := by
  rw [HT.sIx_none, HT.sIx_nat, Nat.min_eq_left h]
  rw [← List.length_drop, List.take_length]
section
variable {X : Cx} {G : Gh} {ρ : List SV} {M M1 : MM} {e e2 : Expr} {p2 pos : Pos} {k : Nat} {pk : Pos}
theorem l_to {xs : List D} {j : Nat} (he : jE X G e ρ M (.d (.list xs)) M) (hi : jE X G e2 ρ M (.d (.int (j : Nat))) M) (h : j ≤ xs.length) : jE X G (.Subscript e (.Slice none (some e2) none p2) pos) ρ M (.d (.list (xs.take j))) M :=
  e_ofL' (xs := xs.take j) (l_slice he o_none (o_some hi) ls_d) (by unfold NL.cutS; rw [cut_to (by simpa using h), List.map_take])
theorem l_from {xs : List D} {j : Nat} (he : jE X G e ρ M (.d (.list xs)) M) (hi : jE X G e2 ρ M (.d (.int (j : Nat))) M) (h : j ≤ xs.length) : jE X G (.Subscript e (.Slice (some e2) none none p2) pos) ρ M (.d (.list (xs.drop j))) M :=
  e_ofL' (xs := xs.drop j) (l_slice he (o_some hi) o_none ls_d) (by unfold NL.cutS; rw [cut_from (by simpa using h), List.map_drop])
theorem cat_ll {M2 : MM} {xs ys : List D} {p : Pos} (h1 : jE X G e ρ M (.d (.list xs)) M1) (h2 : jE X G e2 ρ M1 (.d (.list ys)) M2) (hz : xs.length + ys.length ≤ 100000) : jE X G (.BinOp e .Add e2 p) ρ M (.d (.list (xs ++ ys))) M2 :=
  e_ofL' (xs := xs ++ ys) (binL h1 h2 (cat_l ls_d ls_d (by simp; omega))) (by simp)
end
/-- one of some things -/
def pickD (L : List D) (dl : Deal) : D := L.getD (anyR dl (L.length : Nat)).1.toNat .none
def pickN (L : List D) (dl : Deal) : Deal := (anyR dl (L.length : Nat)).2
theorem pick_in {L : List D} {dl : Deal} (hd : dl.Ok) (hn : 0 < L.length) : pickD L dl ∈ L ∧ (pickN L dl).Ok := by
  obtain ⟨h0, h1, h2⟩ := anyR_ok hd (n := (L.length : Nat)) (by omega)
  exact ⟨getD_in (by omega), h2⟩
end NL
set_option Elab.async false
set_option linter.all false
set_option maxRecDepth 100000
set_option maxHeartbeats 2000000
namespace NL
open PySem PySem.Spec L2
open PyProof.Rows hiding St
end NL
set_option Elab.async false
set_option linter.all false
set_option maxRecDepth 100000
set_option maxHeartbeats 2000000
namespace NL
open PySem PySem.Spec L2
open PyProof.Rows hiding St
end NL
set_option Elab.async false
set_option linter.all false
set_option maxRecDepth 100000
set_option maxHeartbeats 1000000
namespace NL
abbrev Rw := List Int
/-- the integer of a row in a column -/
def rat (r : Rw) (i : Nat) : Int := r.getD i 0
/-- sums of the rows, each taken an integer of times -/
inductive Lat (A : List Rw) : (Nat → Int) → Prop where
  | zero : Lat A (fun _ => 0)
  | add {f : Nat → Int} {r : Rw} (h : Lat A f) (m : r ∈ A) (n : Int) : Lat A (fun i => f i + n * rat r i)
theorem Lat.cg {A : List Rw} {f g : Nat → Int} (h : Lat A f) (e : ∀ i, f i = g i) : Lat A g := by
  have : f = g := funext e
  rw [← this]; exact h
theorem Lat.plus {A : List Rw} {f g : Nat → Int} (hf : Lat A f) (hg : Lat A g) : Lat A (fun i => f i + g i) := by
  induction hg with
  | zero => exact hf.cg fun i => by dsimp only; omega
  | add h m n ih => exact (ih.add m n).cg fun i => by dsimp only; omega
theorem Lat.smul {A : List Rw} {f : Nat → Int} (k : Int) (hf : Lat A f) : Lat A (fun i => k * f i) := by
  induction hf with
  | zero => exact Lat.zero.cg fun i => by simp
  | add h m n ih => exact (ih.add m (k * n)).cg fun i => by dsimp only; rw [Int.mul_add, Int.mul_assoc]
theorem Lat.of {A : List Rw} {r : Rw} (m : r ∈ A) : Lat A (rat r) := (Lat.zero.add m 1).cg fun i => by omega
theorem Lat.mono {A B : List Rw} (h : ∀ r ∈ A, Lat B (rat r)) {f : Nat → Int} (hf : Lat A f) : Lat B f := by
  induction hf with
  | zero => exact .zero
  | add hh m n ih => exact ih.plus ((h _ m).smul n)
theorem Lat.nil {f : Nat → Int} (h : Lat [] f) : ∀ i, f i = 0 := by
  cases h with
  | zero => exact fun _ => rfl
  | add h m n => cases m
theorem Lat.cons {a : Rw} {A : List Rw} {f : Nat → Int} (h : Lat (a :: A) f) : ∃ (n : Int) (g : Nat → Int), Lat A g ∧ ∀ i, f i = n * rat a i + g i := by
  induction h with
  | zero => exact ⟨0, _, .zero, fun i => by simp⟩
  | @add f r hh m n ih =>
    obtain ⟨k, g, hg, e⟩ := ih
    rcases List.mem_cons.mp m with rfl | m
    · exact ⟨k + n, g, hg, fun i => by dsimp only; rw [e, Int.add_mul]; omega⟩
    · exact ⟨k, _, hg.add m n, fun i => by dsimp only; rw [e]; omega⟩
/-- the same sums -/
def SmL (A B : List Rw) : Prop := ∀ f, Lat A f ↔ Lat B f
theorem SmL.of {A B : List Rw} (h1 : ∀ r ∈ A, Lat B (rat r)) (h2 : ∀ r ∈ B, Lat A (rat r)) : SmL A B := fun f => ⟨Lat.mono h1, Lat.mono h2⟩
theorem SmL.rfl' (A : List Rw) : SmL A A := fun _ => Iff.rfl
theorem SmL.tr {A B C : List Rw} (h : SmL A B) (g : SmL B C) : SmL A C := fun f => (h f).trans (g f)
theorem SmL.mem {A B : List Rw} (h : ∀ r, r ∈ A ↔ r ∈ B) : SmL A B := .of (fun r m => .of ((h r).mp m)) fun r m => .of ((h r).mpr m)
/-- steps at the columns ps -/
inductive Stair : List Rw → List Nat → Prop where
  | nil : Stair [] []
  | cons {a : Rw} {p : Nat} {A : List Rw} {ps : List Nat} (h : Stair A ps) (lt : ∀ q ∈ ps, p < q) (z : ∀ j, j < p → rat a j = 0) (pos : 0 < rat a p) (zz : ∀ r ∈ A, ∀ j, j ≤ p → rat r j = 0) (red : ∀ x ∈ A.zip ps, 0 ≤ rat a x.2 ∧ rat a x.2 < rat x.1 x.2) : Stair (a :: A) (p :: ps)
theorem Stair.len {A : List Rw} {ps : List Nat} (h : Stair A ps) : A.length = ps.length := by
  induction h with
  | nil => rfl
  | cons h lt z pos zz red ih => simp [ih]
theorem zip_mem {A : List Rw} {ps : List Nat} {x : Rw × Nat} (h : x ∈ A.zip ps) : x.1 ∈ A ∧ x.2 ∈ ps := ⟨(List.of_mem_zip (a := x.1) (b := x.2) h).1, (List.of_mem_zip (a := x.1) (b := x.2) h).2⟩
/-- a row reduced at each step -/
def Rdd (A : List Rw) (ps : List Nat) (r : Rw) : Prop := ∀ x ∈ A.zip ps, 0 ≤ rat r x.2 ∧ rat r x.2 < rat x.1 x.2
theorem Stair.tail {a : Rw} {p : Nat} {A : List Rw} {ps : List Nat} (h : Stair (a :: A) (p :: ps)) : Stair A ps := by
  cases h with
  | cons h => exact h
end NL
set_option Elab.async false
set_option linter.all false
set_option maxRecDepth 100000
set_option maxHeartbeats 1000000
namespace NL
def Sg (c : Nat) (here : List Rw) : Prop := (∀ r ∈ here, 0 ≤ rat r c) ∨ (∀ r ∈ here, rat r c ≤ 0)
def Phs (c μ t m : Nat) (here : List Rw) : Prop :=
  t = 0 ∨ (∃ j, t ≤ 2 * j + 1 ∧ Sg c here ∧ 2 ^ j * m ≤ 2 ^ μ) ∨ (∃ (j : Nat) (h : Rw) (u : Nat), t ≤ 2 * j + 2 ∧ Sg c here ∧ 2 ^ j * m ≤ 2 ^ μ ∧ 2 ^ (j + 1) * u ≤ 2 ^ μ ∧ ∀ r ∈ here, r = h ∨ (rat r c).natAbs ≤ u) ∨ (t ≤ 2 * μ + 3 ∧ ∃ h, here = [h])
structure EI (N c μ R0 : Nat) (L0 : List Rw) (t : Nat) (rest here : List Rw) : Prop where
  len : ∀ r, r ∈ rest ∨ r ∈ here → r.length = N
  lat : SmL (rest ++ here) L0
  z : ∀ r ∈ rest, rat r c = 0
  nz : ∀ r ∈ here, rat r c ≠ 0
  pre : ∀ r, r ∈ rest ∨ r ∈ here → ∀ i, i < c → rat r i = 0
  ne : ∃ r, r ∈ here
  bd : ∃ m, 1 ≤ m ∧ m < 2 ^ μ ∧ (∀ r ∈ here, (rat r c).natAbs ≤ m) ∧ (∀ r, r ∈ rest ∨ r ∈ here → ∀ i, (rat r i).natAbs * m ≤ 3 ^ t * (R0 * 2 ^ μ)) ∧ Phs c μ t m here
/-- at first -/
theorem EI.start {N c μ R0 : Nat} {rows rest here : List Rw} (len : ∀ r ∈ rows, r.length = N) (pre : ∀ r ∈ rows, ∀ i, i < c → rat r i = 0) (hb : ∀ r ∈ rows, ∀ i, (rat r i).natAbs ≤ R0) (hc : ∀ r ∈ rows, (rat r c).natAbs < 2 ^ μ)
    (h1 : ∀ r, r ∈ rest ↔ r ∈ rows ∧ rat r c = 0) (h2 : ∀ r, r ∈ here ↔ r ∈ rows ∧ rat r c ≠ 0) (ne : ∃ r, r ∈ here) : EI N c μ R0 rows 0 rest here := by
  have sub : ∀ r, r ∈ rest ∨ r ∈ here → r ∈ rows := fun r h => h.elim (fun h => ((h1 r).mp h).1) fun h => ((h2 r).mp h).1
  refine ⟨fun r h => len r (sub r h), .mem fun r => ?_, fun r h => ((h1 r).mp h).2, fun r h => ((h2 r).mp h).2, fun r h => pre r (sub r h), ne, 2 ^ μ - 1, ?_, ?_, ?_, ?_, .inl rfl⟩
  · rw [List.mem_append, h1, h2]
    constructor
    · rintro (h | h) <;> exact h.1
    · intro h
      by_cases hz : rat r c = 0
      · exact .inl ⟨h, hz⟩
      · exact .inr ⟨h, hz⟩
  · obtain ⟨r, hr⟩ := ne
    obtain ⟨a, b⟩ := (h2 r).mp hr
    have := hc r a
    omega
  · exact Nat.sub_lt (Nat.two_pow_pos μ) Nat.one_pos
  · intro r h
    have := hc r ((h2 r).mp h).1
    omega
  · intro r h i
    rw [Nat.pow_zero, Nat.one_mul]
    exact Nat.mul_le_mul (hb r (sub r h) i) (Nat.sub_le _ _)
end NL
set_option Elab.async false
set_option linter.all false
set_option maxRecDepth 100000
set_option maxHeartbeats 1000000
namespace NL
structure ColS (N c B : Nat) (rows : List Rw) (o : Option Rw) (rest : List Rw) : Prop where
  len : ∀ r, r ∈ rest ∨ o = some r → r.length = N
  lat : SmL (rest ++ o.toList) rows
  z : ∀ r ∈ rest, ∀ i, i ≤ c → rat r i = 0
  pos : ∀ s, o = some s → 0 < rat s c ∧ ∀ i, i < c → rat s i = 0
  bd : ∀ r, r ∈ rest ∨ o = some r → ∀ i, (rat r i).natAbs ≤ 2 ^ B
theorem ColS.none {N c B B' : Nat} {rows rest : List Rw} (len : ∀ r ∈ rows, r.length = N) (pre : ∀ r ∈ rows, ∀ i, i < c → rat r i = 0) (hb : ∀ r ∈ rows, ∀ i, (rat r i).natAbs ≤ 2 ^ B) (hB : B ≤ B') (all : ∀ r ∈ rows, rat r c = 0) (h : ∀ r, r ∈ rest ↔ r ∈ rows) : ColS N c B' rows none rest := by
  refine ⟨fun r hr => ?_, ?_, fun r hr i hi => ?_, (fun s h => nomatch h), fun r hr i => ?_⟩
  · rcases hr with hr | hr
    · exact len r ((h r).mp hr)
    · cases hr
  · rw [Option.toList_none, List.append_nil]
    exact .mem h
  · rcases Nat.lt_or_eq_of_le hi with h2 | rfl
    · exact pre r ((h r).mp hr) i h2
    · exact all r ((h r).mp hr)
  · rcases hr with hr | hr
    · exact Nat.le_trans (hb r ((h r).mp hr) i) (Nat.pow_le_pow_right (by decide) hB)
    · cases hr
structure StS (N c B S : Nat) (rows0 steps : List Rw) (ps : List Nat) (rest : List Rw) : Prop where
  st : Stair steps ps
  lt : ∀ p ∈ ps, p < c
  lat : SmL (steps ++ rest) rows0
  ls : ∀ r ∈ steps, r.length = N
  lr : ∀ r ∈ rest, r.length = N
  z : ∀ r ∈ rest, ∀ i, i < c → rat r i = 0
  br : ∀ r ∈ rest, ∀ i, (rat r i).natAbs ≤ 2 ^ B
  bs : ∀ r ∈ steps, ∀ i, (rat r i).natAbs ≤ 2 ^ S
theorem StS.start {N B : Nat} {rows : List Rw} (len : ∀ r ∈ rows, r.length = N) (hb : ∀ r ∈ rows, ∀ i, (rat r i).natAbs ≤ 2 ^ B) : StS N 0 B 0 rows [] [] rows :=
  ⟨.nil, (fun _ h => nomatch h), SmL.rfl' _, (fun _ h => nomatch h), len, fun _ _ i hi => absurd hi (Nat.not_lt_zero i), hb, (fun _ h => nomatch h)⟩
theorem Stair.snoc {c : Nat} {s : Rw} {f : Rw → Rw} {A : List Rw} {ps : List Nat} (h : Stair A ps) (hp : ∀ p ∈ ps, p < c) (hz : ∀ i, i < c → rat s i = 0) (pos : 0 < rat s c) (f1 : ∀ r ∈ A, ∀ j, j < c → rat (f r) j = rat r j) (f2 : ∀ r ∈ A, 0 ≤ rat (f r) c ∧ rat (f r) c < rat s c) : Stair (A.map f ++ [s]) (ps ++ [c]) := by
  induction h with
  | nil => exact .cons .nil (fun _ h => nomatch h) hz pos (fun _ h => nomatch h) fun _ h => nomatch h
  | @cons a p A ps h lt z pos' zz red ih =>
    have pc := hp p (List.mem_cons_self ..)
    have fa := f1 a (List.mem_cons_self ..)
    have ih := ih (fun q m => hp q (List.mem_cons_of_mem _ m)) (fun r m => f1 r (List.mem_cons_of_mem _ m)) (fun r m => f2 r (List.mem_cons_of_mem _ m))
    refine .cons ih (fun q m => ?_) (fun j hj => ?_) ?_ (fun r m j hj => ?_) fun x hx => ?_
    · rcases List.mem_append.mp m with m | m
      · exact lt q m
      · rw [List.mem_singleton.mp m]; exact pc
    · rw [fa j (by omega), z j hj]
    · rw [fa p pc]; exact pos'
    · rcases List.mem_append.mp m with m | m
      · obtain ⟨r0, m0, rfl⟩ := List.mem_map.mp m
        rw [f1 r0 (List.mem_cons_of_mem _ m0) j (by omega), zz r0 m0 j hj]
      · rw [List.mem_singleton.mp m]; exact hz j (by omega)
    · have hx : x ∈ (A.map f ++ [s]).zip (ps ++ [c]) := hx
      rw [List.zip_append (by rw [List.length_map, h.len])] at hx
      rcases List.mem_append.mp hx with hx | hx
      · rw [List.zip_map_left] at hx
        obtain ⟨⟨r0, q⟩, m0, rfl⟩ := List.mem_map.mp hx
        have qc := hp q (List.mem_cons_of_mem _ (zip_mem m0).2)
        have := red _ m0
        show 0 ≤ rat (f a) q ∧ rat (f a) q < rat (f r0) q
        rw [fa q qc, f1 r0 (List.mem_cons_of_mem _ (zip_mem m0).1) q qc]
        exact this
      · rw [List.zip_cons_cons, List.zip_nil_left, List.mem_singleton] at hx
        subst hx
        exact f2 a (List.mem_cons_self ..)
/-- how great integers get -/
def gR (b : Nat) : Nat → Nat
  | 0 => b
  | c + 1 => 6 * gR b c + 11
def gS (b : Nat) : Nat → Nat
  | 0 => 0
  | c + 1 => gS b c + gR b (c + 1) + 2
theorem Stair.take {A : List Rw} {ps : List Nat} (h : Stair A ps) {i : Nat} (hi : i < A.length) : ∃ s p, A[i]? = some s ∧ ps[i]? = some p ∧ 0 < rat s p ∧ (∀ j, j < p → rat s j = 0) ∧ ∀ x ∈ (A.take i).zip (ps.take i), x.2 < p := by
  induction h generalizing i with
  | nil => simp at hi
  | @cons a p A ps h lt z pos zz red ih =>
    cases i with
    | zero => exact ⟨a, p, rfl, rfl, pos, z, fun x hx => by simp at hx⟩
    | succ i =>
      obtain ⟨s, q, h1, h2, h3, h4, h5⟩ := ih (i := i) (by simpa using hi)
      refine ⟨s, q, by simpa using h1, by simpa using h2, h3, h4, fun x hx => ?_⟩
      rw [List.take_succ_cons, List.take_succ_cons, List.zip_cons_cons] at hx
      rcases List.mem_cons.mp hx with rfl | hx
      · exact lt q (List.mem_of_getElem? h2)
      · exact h5 x hx
/-- brought down so far -/
structure Low (N b S i : Nat) (A : List Rw) (ps : List Nat) (r0 r : Rw) : Prop where
  len : r.length = N
  red : Rdd (A.take i) (ps.take i) r
  lat : Lat A (fun j => rat r0 j - rat r j)
  bd : ∀ j, (rat r j).natAbs ≤ 2 ^ (b + i * (S + 2))
theorem Low.start {N b S : Nat} {A : List Rw} {ps : List Nat} {r : Rw} (hl : r.length = N) (hb : ∀ j, (rat r j).natAbs ≤ 2 ^ b) : Low N b S 0 A ps r r :=
  ⟨hl, fun x hx => by simp at hx, Lat.zero.cg fun j => by omega, fun j => by simpa using hb j⟩
theorem take_zip_succ {A : List Rw} {ps : List Nat} {i : Nat} {s : Rw} {p : Nat} (h1 : A[i]? = some s) (h2 : ps[i]? = some p) : (A.take (i + 1)).zip (ps.take (i + 1)) = (A.take i).zip (ps.take i) ++ [(s, p)] := by
  obtain ⟨l1, e1⟩ := List.getElem?_eq_some_iff.mp h1
  obtain ⟨l2, e2⟩ := List.getElem?_eq_some_iff.mp h2
  rw [List.take_succ_eq_append_getElem l1, List.take_succ_eq_append_getElem l2, List.zip_append (by simp; omega), e1, e2]
  rfl
theorem Low.keep {N b S i : Nat} {A : List Rw} {ps : List Nat} {r0 r s : Rw} {p : Nat} (h : Low N b S i A ps r0 r) (h1 : A[i]? = some s) (h2 : ps[i]? = some p) (hr : 0 ≤ rat r p ∧ rat r p < rat s p) : Low N b S (i + 1) A ps r0 r := by
  refine ⟨h.len, fun x hx => ?_, h.lat, fun j => Nat.le_trans (h.bd j) (Nat.pow_le_pow_right (by decide) (Nat.add_le_add_left (Nat.mul_le_mul_right _ (Nat.le_succ i)) _))⟩
  rw [take_zip_succ h1 h2] at hx
  rcases List.mem_append.mp hx with hx | hx
  · exact h.red x hx
  · rw [List.mem_singleton.mp hx]; exact hr
theorem Low.all {N b S i : Nat} {A : List Rw} {ps : List Nat} {r0 r : Rw} (h : Low N b S i A ps r0 r) (hi : A.length ≤ i) (hp : ps.length ≤ i) : Rdd A ps r := by
  have := h.red
  rwa [List.take_of_length_le hi, List.take_of_length_le hp] at this
end NL
set_option Elab.async false
set_option linter.all false
set_option maxRecDepth 100000
set_option maxHeartbeats 2000000
namespace NL
open PySem PySem.Spec L2
open PyProof.Rows hiding St
end NL
set_option Elab.async false
set_option linter.all false
set_option maxRecDepth 100000
set_option maxHeartbeats 2000000
namespace NL
open PySem PySem.Spec L2
open PyProof.Rows hiding St
end NL
set_option Elab.async false
set_option linter.all false
set_option maxRecDepth 100000
set_option maxHeartbeats 2000000
namespace NL
open PySem PySem.Spec L2
open PyProof.Rows hiding St
end NL
set_option Elab.async false
set_option linter.all false
set_option maxRecDepth 100000
set_option maxHeartbeats 4000000
namespace NL
open PySem PySem.Spec L2
open PyProof.Rows hiding St
abbrev TM := Value × Nat × (Addr → Value → Option Addr → TS)
inductive HdM (X : Cx) : List ExceptHandler → List TM → Prop
  | nil : HdM X [] []
  | cons {x n : Str} {i : Nat} {c : Value} {np pp : Pos} {b0 : Stmt} {sb : List Stmt} {ts : Addr → Value → Option Addr → TS} {hds : List ExceptHandler} {l : List TM} (hc : Names X x c) (hi : X.N[i]? = some n) (hl : X.env.kindOf n = some .local)
      (su : ∀ (a : Addr) (oe : Obj) (k : Value) (d : Option Addr) (pn : List (Addr × Obj)), Zc k d oe → (∃ vs, oe.data = .fields vs) → PSs (X.suite a ((a, oe) :: pn)) (b0 :: sb) (ts a k d)) (r : HdM X hds l) :
      HdM X (.ExceptHandler (some (.Name x np)) (some n) (b0 :: sb) pp :: hds) ((c, i, ts) :: l)
section
variable {X : Cx} {G : Gh} {ρ : List SV} {M : MM} {P : Post} {pos : Pos}
/-- the clauses: class, slot of the name, suite -/
inductive Clm (X : Cx) : List ExceptHandler → List (Value × Nat × List Stmt) → Prop where
  | nil : Clm X [] []
  | cons {x n : Str} {i : Nat} {c : Value} {np pp : Pos} {b0 : Stmt} {sb : List Stmt} {hds : List ExceptHandler} {l : List (Value × Nat × List Stmt)} (hc : Names X x c) (hi : X.N[i]? = some n) (hl : X.env.kindOf n = some .local) (r : Clm X hds l) : Clm X (.ExceptHandler (some (.Name x np)) (some n) (b0 :: sb) pp :: hds) ((c, i, b0 :: sb) :: l)
theorem Clm.hd : ∀ {hds : List ExceptHandler} {l : List (Value × Nat × List Stmt)}, Clm X hds l → HdM X hds (l.map fun q => (q.1, q.2.1, tsB X q.2.2))
  | _, _, .nil => .nil
  | _, _, .cons hc hi hl r => .cons hc hi hl (fun a oe k d pn z v => ⟨fun pins s σ H D I h => (h oe pn z v).run pins s I⟩) r.hd
end
end NL
set_option Elab.async false
set_option linter.all false
set_option maxRecDepth 100000
set_option maxHeartbeats 2000000
namespace NL
open PySem PySem.Spec PySem.W L2
open PyProof.Rows hiding St
section
variable {X : Cx} {G : Gh} {ρ : List SV} {M M1 M2 M3 : MM} {pos : Pos} {a b c : Expr} {x y z : SV} {k k2 : Bool} {op op' : CmpOp}
/-- a < b < c, as a test -/
theorem t_chain (ha : jE X G a ρ M x M1) (hb : jE X G b ρ M1 y M2) (h1 : J2 X G (compareOp op) M2 x y (.d (.bool k)) M3) (hc : k = true → jE X G c ρ M3 z M3) (h2 : k = true → J2 X G (compareOp op') M3 y z (.d (.bool k2)) M3) (hm : lastMarks [op, op'] [b, c] = false := by with_unfolding_all rfl) :
    jT X G (.Compare a [op, op'] [b, c] pos) ρ M (k && k2) M3 := fun S H σ st Q q => by
  obtain ⟨r, ho, j1⟩ := h1
  cases k with
  | false =>
    refine PT.go (pt_chain (r' := fun _ _ _ _ => False) ho (fun _ _ _ _ _ _ _ _ _ _ _ _ z => z.elim) peS peS peS hm) (ha S H σ st _ fun u S1 H1 e1 st1 r1 => hb S1 H1 σ st1 _ fun v S2 H2 e2 st2 r2 => j1 S2 H2 σ ρ u v st2 (r1.mono e2) r2 _ fun w S3 H3 e3 st3 r3 => ⟨false, r3, ?_⟩)
    exact ⟨false, rfl, q S3 H3 ((e1.tr e2).tr e3) st3⟩
  | true =>
    obtain ⟨r', ho', j2⟩ := h2 rfl
    refine PT.go (pt_chain ho ho' peS peS peS hm) (ha S H σ st _ fun u S1 H1 e1 st1 r1 => hb S1 H1 σ st1 _ fun v S2 H2 e2 st2 r2 => j1 S2 H2 σ ρ u v st2 (r1.mono e2) r2 _ fun w S3 H3 e3 st3 r3 => ⟨true, r3, ?_⟩)
    exact hc rfl S3 H3 σ st3 _ fun t S4 H4 e4 st4 r4 => j2 S4 H4 σ ρ v t st4 (r2.mono (e3.tr e4)) r4 _ fun w2 S5 H5 e5 st5 r5 => ⟨k2, r5, q S5 H5 ((((e1.tr e2).tr e3).tr e4).tr e5) st5⟩
end
variable {X : Cx} {G : Gh} {M : MM}
end NL
set_option Elab.async false
set_option linter.all false
set_option maxRecDepth 100000
set_option maxHeartbeats 2000000
namespace NL
open PySem PySem.Spec PySem.W L2
open PyProof.Rows hiding St
end NL
set_option Elab.async false
set_option linter.all false
set_option maxRecDepth 100000
set_option maxHeartbeats 4000000
namespace NL
open PySem PySem.Spec L2
open PyProof.Rows hiding St
def FldV (K : PySem.W.Frag) (S : Hp) : List (Str × SV) → List (Str × V) → Prop
  | [], vs => vs = []
  | (n, d) :: fs, vs => ∃ v r, vs = (n, v) :: r ∧ Rel K S d v ∧ FldV K S fs r
section
variable {K : PySem.W.Frag} {S S' : Hp}
theorem FldV.mono (e : Sub S S') : ∀ {fs : List (Str × SV)} {vs : List (Str × V)}, FldV K S fs vs → FldV K S' fs vs
  | [], _, h => h
  | (_, d) :: _, _, ⟨v, r, h1, h2, h3⟩ => ⟨v, r, h1, h2.mono e, FldV.mono e h3⟩
theorem FldV.get {f : Str} {d : SV} : ∀ {fs : List (Str × SV)} {vs : List (Str × V)}, FldV K S fs vs → fs.lookup f = some d → ∃ v, vs.lookup f = some v ∧ Rel K S d v
  | [], _, _, e => by simp at e
  | (n, x) :: fs, _, ⟨v, r, h1, h2, h3⟩, e => by
    subst h1
    by_cases h : f = n
    · subst h
      simp [List.lookup] at e
      subst e
      exact ⟨v, by simp [List.lookup], h2⟩
    · have q : (f == n) = false := by simpa using h
      simp only [List.lookup, q] at e ⊢
      exact FldV.get h3 e
theorem FldV.no {f : Str} : ∀ {fs : List (Str × SV)} {vs : List (Str × V)}, FldV K S fs vs → fs.lookup f = none → vs.lookup f = none
  | [], _, h, _ => by
    have h' : _ = [] := h
    subst h'; rfl
  | (n, x) :: fs, _, ⟨v, r, h1, h2, h3⟩, e => by
    subst h1
    by_cases h : f = n
    · subst h
      simp [List.lookup] at e
    · have q : (f == n) = false := by simpa using h
      simp only [List.lookup, q] at e ⊢
      exact FldV.no h3 e
def putS (f : Str) (v : SV) : List (Str × SV) → List (Str × SV)
  | [] => [(f, v)]
  | (g, x) :: r => if g = f then (g, v) :: r else (g, x) :: putS f v r
theorem FldV.put {f : Str} {d : SV} {v : V} (r : Rel K S d v) : ∀ {fs : List (Str × SV)} {vs : List (Str × V)}, FldV K S fs vs → FldV K S (putS f d fs) (putF f v vs)
  | [], _, h => by
    have h' : _ = [] := h
    subst h'
    exact ⟨v, [], rfl, r, rfl⟩
  | (g, x) :: fs, _, ⟨w, t, h1, h2, h3⟩ => by
    subst h1
    by_cases e : g = f
    · subst e
      simp only [putS, putF, if_true]
      exact ⟨v, t, rfl, r, h3⟩
    · simp only [putS, putF, if_neg e]
      exact ⟨w, _, rfl, h2, h3.put r⟩
theorem FldV.len : ∀ {fs : List (Str × SV)} {vs : List (Str × V)}, FldV K S fs vs → vs.length = fs.length
  | [], _, h => by
    have h' : _ = [] := h
    subst h'; rfl
  | _ :: _, _, ⟨_, _, h1, _, h3⟩ => by subst h1; rw [List.length_cons, List.length_cons, h3.len]
end
abbrev NK := Nat × List Int
def nkey (k : NK) : NestedKey := .tup [.num (k.1 : Nat), .tup (k.2.map NestedKey.num)]
/-- the tuple at a is the key k -/
def NAt (H : Hp) (k : NK) (a : Addr) : Prop := ∃ c, H a = some (.tup [.int (k.1 : Nat), .ref c]) ∧ H c = some (.tup (k.2.map V.int))
theorem NAt.mono {S S' : Hp} (e : Sub S S') {k : NK} {a : Addr} (h : NAt S k a) : NAt S' k a := let ⟨c, h1, h2⟩ := h; ⟨c, e _ _ h1, e _ _ h2⟩
theorem nums_at {h : Heap} : ∀ {t : List Int} {us : List Value}, Vals (t.map V.int) us → NestedAll h (t.map NestedKey.num) us
  | [], _, .nil => .nil
  | n :: t, _, .cons r q => by
    obtain ⟨tk, rfl⟩ := r
    exact .cons (.int n tk) (nums_at q)
theorem nums_depth : ∀ t : List Int, NestedKey.depthAll (t.map NestedKey.num) = 0
  | [] => rfl
  | _ :: t => by simp [NestedKey.depthAll, NestedKey.depth, nums_depth t]
section
variable {X : Cx} {pins : List (Addr × Obj)} {σ : L2.St} {H : Hp} {s : Shared} {a q : Addr} {k : NK} {ks : List (NK × Addr)}
theorem NAt.is (I : Inv X pins σ H s) (h : NAt H k a) : (nestedKind X.prog X.w).is s.heap (nkey k) a := by
  obtain ⟨c, h1, h2⟩ := h
  obtain ⟨_, its1, r1, o1, ho1, hc1, n1, hd1⟩ := (show ObjOk X.prog X.w H s.heap a (.tup _) from I.hok a _ h1)
  obtain ⟨_, its2, r2, o2, ho2, hc2, n2, hd2⟩ := (show ObjOk X.prog X.w H s.heap c (.tup _) from I.hok c _ h2)
  refine ⟨.tup ho1 hc1 hd1 ?_, ?_⟩
  · cases r1 with
    | cons q1 r1 =>
      cases r1 with
      | cons q2 r1 =>
        cases r1
        obtain ⟨tk, rfl⟩ := q1
        cases q2
        exact .cons (.int _ tk) (.cons (.tup ho2 hc2 hd2 (nums_at r2)) .nil)
  · simp [nkey, NestedKey.depth, NestedKey.depthAll, nums_depth]
end
end NL
set_option Elab.async false
set_option linter.all false
set_option maxRecDepth 100000
set_option maxHeartbeats 4000000
namespace NL
open PySem PySem.Spec L2
open PyProof.Rows hiding St
end NL
set_option Elab.async false
set_option linter.all false
set_option maxRecDepth 100000
set_option maxHeartbeats 4000000
namespace NL
open PySem PySem.Spec L2
open PyProof.Rows hiding St
end NL
set_option Elab.async false
set_option linter.all false
set_option maxRecDepth 100000
set_option maxHeartbeats 4000000
namespace NL
open PySem PySem.Spec L2
open PyProof.Rows hiding St
section
variable {X : Cx} {G : Gh} {ρ : List SV} {M M1 M2 M3 : MM} {P : Post} {e o i : Expr} {d : SV} {pos p p' p1 p2 p3 pd : Pos} {Φ : SV → MM → Prop}
/-- isinstance(e, T) -/
theorem e_isi1 {T : String} {n : Str} {t : String} {b : Bool} (he : jE X G e ρ M d M1) (hk : kindS M1 d = some t) (hb : kitB t T = some b) (zi : X.mg "isinstance" = none) (zt : X.mg n = none) (hv : bootBuiltins n = some (.type T) := by decide +kernel) (g1 : Gl X "isinstance" := by rfl) (g2 : Gl X n := by rfl)
    (hn : n ≠ "__name__" := by decide) (hd : (n == ("__debug__" : Str)) = false := by decide) (hs : starEach (e :: [.Name n p2]) X.env = (false, eval e X.env) :: starEach [.Name n p2] X.env := by rfl) (hpl : (backTo pos (starEach [.Name n p2] X.env)).any (·.1) = false := by rfl) :
    jE X G (.Call (.Name "isinstance" p1) [e, .Name n p2] [] pos) ρ M (.d (.bool b)) M1 :=
  callB (a_cons he (a_cons (e_ty (T := T) zt hv g2 hn hd) a_nil) hs) (c_isi hk hb) zi (hg := g1) (he := hs) (hpl := hpl)
end
end NL
set_option Elab.async false
set_option linter.all false
set_option maxRecDepth 100000
set_option maxHeartbeats 4000000
namespace NL
open PySem PySem.Spec L2
open PyProof.Rows hiding St
end NL
set_option Elab.async false
set_option linter.all false
set_option maxRecDepth 100000
set_option maxHeartbeats 4000000
namespace NL
open PySem PySem.Spec L2
open PyProof.Rows hiding St
end NL
set_option Elab.async false
set_option linter.all false
set_option maxRecDepth 100000
set_option maxHeartbeats 4000000
namespace NL
open PySem PySem.Spec PySem.W L2
open PyProof.Rows hiding St
end NL
set_option Elab.async false
set_option linter.all false
set_option maxRecDepth 100000
set_option maxHeartbeats 4000000
namespace NL
open PySem PySem.Spec PySem.W L2
open PyProof.Rows hiding St
def signs (x : Str) : List D := x.cps.toList.map fun c => PyData.str ⟨#[c]⟩
theorem signs_len (x : Str) : (signs x).length = x.cps.size := by simp [signs]
theorem walks_str {K : PySem.W.Frag} {S : Hp} {x : Str} : Walks K (Its x) S ((signs x).map SV.d) any1 where
  go := fun G i S1 H1 M1 σ1 ρ1 e st _ hi => by
    rw [List.length_map, signs_len] at hi
    exact hi
  yld := fun G i S1 H1 M1 σ1 ρ1 v H' e st _ hi y => by
    rw [List.length_map, signs_len] at hi
    obtain ⟨rfl, c, hc, rfl⟩ := y
    refine ⟨Sub.rfl' _, S1, .d (.str ⟨#[c]⟩), ?_, Sub.rfl' _, fun _ q => .inl q, st, rfl⟩
    have : x.cps.toList[i]? = some c := by simpa using hc
    show ((signs x).map SV.d)[i]? = _
    unfold signs
    rw [List.getElem?_map, List.getElem?_map, this]
    rfl
  stop := fun G i S1 H1 M1 σ1 ρ1 e st _ hi => by
    rw [List.length_map, signs_len] at hi
    exact Nat.le_of_eq hi.symm
def rLeD (K : PySem.W.Frag) : R2 := fun x y H Q => ∃ d e, Dp K H x d ∧ Dp K H y e ∧ alike d e = true ∧ d ≠ .none ∧ d.depth ≤ 60 ∧ Q (.bl (!dataLt e d)) H
section
variable {X : Cx} {G : Gh} {ρ : List SV} {M M1 M2 : MM} {pos apos p1 p2 : Pos} {e o tg : Expr} {x y z : SV}
theorem i_str {s : Str} (h : jE X G e ρ M (.d (.str s)) M1) : jI X G tg e ρ M ((signs s).map SV.d) any1 M1 := fun S H σ st R q =>
  PI.go (pi_str peS) (h S H σ st _ fun v S1 H1 e1 st1 r1 => ⟨s, r1, q _ S1 H1 e1 st1 walks_str⟩)
theorem in_s {i j : Str} : J2 X G (compareOp .In) M (.d (.str i)) (.d (.str j)) (.d (.bool (!(Builtin.Str.occurrences j i 0 j.length 1).isEmpty))) M := ⟨_, op_in_str, fun S H σ ρ u v st ru rv Q q => ⟨i, j, ru, rv, q _ S H (Sub.rfl' S) st rfl⟩⟩
theorem cat_s {i j : Str} (h : i.length + j.length ≤ 1000000) : J2 X G (binaryOp .Add) M (.d (.str i)) (.d (.str j)) (.d (.str (i ++ j))) M := ⟨_, op_add_str, fun S H σ ρ u v st ru rv Q q => ⟨i, j, ru, rv, sz_le h, q _ S H (Sub.rfl' S) st rfl⟩⟩
theorem op_leD (hu : X.A.units + 64 < cLine) : OpR X (compareOp .LtE) (rLeD X.K) := by
  intro pins s σ H x y v u Q I rx ry h
  obtain ⟨d, e, hd, he, ha, hn, hdp, q⟩ := h
  obtain ⟨as, r1⟩ := Dp.reads I d x v hd rx
  obtain ⟨bs, r2⟩ := Dp.reads I e y u he ry
  exact le_data r1 r2 ha hn (by omega) ⟨.bl _, H, I, rfl, q⟩
theorem le_d {c d : D} (hu : X.A.units + 64 < cLine) (hc : nodct c = true) (hd : nodct d = true) (ha : alike c d = true) (hn : c ≠ .none) (hdp : c.depth ≤ 60) : J2 X G (compareOp .LtE) M (.d c) (.d d) (.d (.bool (!dataLt d c))) M := ⟨_, op_leD hu, fun S H σ ρ u v st ru rv Q q =>
  ⟨c, d, Rp.dp hc (Rp.mono st.hst.sub _ _ ru), Rp.dp hd (Rp.mono st.hst.sub _ _ rv), ha, hn, hdp, q _ S H (Sub.rfl' S) st rfl⟩⟩
theorem c_strI {i : Int} (h : i.natAbs.log2 < 1920) : JC X G (.type "str") M [.d (.int i)] (.d (.str (toString i))) M := ⟨_, call_str_int, fun S H σ ρ us st r Q q => by
  obtain ⟨v, r', rfl, hv, rfl⟩ := r
  obtain rfl : v = .int i := hv
  exact ⟨i, rfl, h, q _ S H (Sub.rfl' S) st rfl⟩⟩
theorem c_intS {a : Str} {n : Int} (h : PySem.intText? a = some n) (hl : a.length ≤ 640) : JC X G (.type "int") M [.d (.str a)] (.d (.int n)) M := ⟨_, call_int_str, fun S H σ ρ us st r Q q => by
  obtain ⟨v, r', rfl, hv, rfl⟩ := r
  obtain rfl : v = .str a := hv
  exact ⟨a, n, rfl, h, hl, q _ S H (Sub.rfl' S) st rfl⟩⟩
/-- x.split(y) -/
theorem e_split {a b : Str} (ho : jE X G o ρ M (.d (.str a)) M1) (he : jE X G e ρ M1 (.d (.str b)) M2) (hb : (b.length == 0) = false) (hl : a.length + 2 ≤ 1000000)
    (hs : starEach [e] X.env = [(false, eval e X.env)] := by rfl) (hbase : attributeBase o "split" X.env (eval o X.env) = eval o X.env := by rfl) (hline : (apos.endLine == pos.line) = true := by rfl) :
    jL X G (.Call (.Attribute o "split" apos) [e] [] pos) ρ M ((Txt.split a b).map fun s => .d (.str s)) M2 := fun S H σ st Q q =>
  PE.go (pe_split peS peS hs hbase hline) (ho S H σ st _ fun u S1 H1 e1 st1 r1 => ⟨⟨a, r1⟩, he S1 H1 σ st1 _ fun v S2 H2 e2 st2 r2 => by
    obtain rfl : u = .str a := r1
    obtain rfl : v = .str b := r2
    refine ⟨a, b, rfl, rfl, hb, sz_le hl, fun p np => ?_⟩
    refine q p S2 _ (e1.tr e2) (st2.hst.free np).2 ⟨st2.hst.newM np ⟨_, rfl, ?_⟩, st2.sl⟩
    generalize Txt.split a b = ys
    induction ys with
    | nil => exact rfl
    | cons y ys ih => exact ⟨.str y, _, rfl, rfl, ih⟩⟩)
/-- x.join(a list of texts) -/
theorem e_join {a : Str} {ys : List Str} (ho : jE X G o ρ M (.d (.str a)) M1) (he : jE X G e ρ M1 x M2) (hx : LsV M2 x (ys.map fun s => SV.d (.str s))) (hz : (ys.map (·.length)).sum + ys.length * a.length ≤ 16777216)
    (hs : starEach [e] X.env = [(false, eval e X.env)] := by rfl) (hbase : attributeBase o "join" X.env (eval o X.env) = eval o X.env := by rfl) (hline : (apos.endLine == pos.line) = true := by rfl) :
    jE X G (.Call (.Attribute o "join" apos) [e] [] pos) ρ M (.d (.str (Txt.join a ys))) M2 := fun S H σ st Q q =>
  PE.go (pe_join peS peS hs hbase hline) (ho S H σ st _ fun u S1 H1 e1 st1 r1 => ⟨⟨a, r1⟩, he S1 H1 σ st1 _ fun v S2 H2 e2 st2 r2 => by
    obtain rfl : u = .str a := r1
    obtain ⟨p, vs, rfl, hp, hr⟩ := lsv_at st2 hx r2
    have hvs : vs = ys.map V.str := by
      clear hz hx hp q r2
      induction ys generalizing vs with
      | nil => exact hr
      | cons y ys ih =>
        obtain ⟨w, r, rfl, hw, hr⟩ := hr
        have hw : w = .str y := hw
        rw [hw, ih _ hr]; rfl
    subst hvs
    exact ⟨a, p, ys, rfl, rfl, .inl (SqL.of hp), hz, q _ S2 H2 (e1.tr e2) st2 rfl⟩⟩)
/-- f'..{a number}' -/
theorem e_fstr {a : Str} {n : Int} {j : Nat} (he : jE X G e ρ M (.d (.int n)) M1) (hn : n.natAbs.log2 < 1920) (hl : a.length + (toString n : Str).length ≤ 1000000) :
    jE X G (.JoinedStr [.Constant (.str a) j p1, .FormattedValue e (-1) none p2] pos) ρ M (.d (.str (a ++ toString n))) M1 := fun S H σ st Q q =>
  PE.go (pe_joined (.cons pe_str (.cons (pe_fmt peS) .nil))) (by
    have e0 : Str.empty ++ a = a := Str.empty_append a
    refine ⟨a, rfl, ?_, ?_⟩
    · rw [e0]; exact sz_le (by omega)
    · refine he S H σ st _ fun v S1 H1 e1 st1 r1 => .inr ⟨n, r1, hn, toString n, rfl, ?_, ?_⟩
      · rw [e0]
        rw [Str.length_append]
        exact sz_le hl
      · rw [e0]
        exact q _ S1 H1 e1 st1 rfl)
/-- any(..) of a list of numbers -/
theorem c_anyI {ns : List Int} (hc : X.calm = true) : JC X G (.builtin "any") M [.d (.list (ns.map PyData.int))] (.d (.bool (ns.any (· != 0)))) M := ⟨_, cr_anyD hc, fun S H σ ρ us st r Q q => by
  obtain ⟨v, r, rfl, ⟨a, vs, rfl, h1, hr⟩, rfl⟩ := r
  refine ⟨a, ns.map PyData.int, vs, rfl, .inr (SqL.of (st.hst.sub _ _ h1)), RpA.dp (nodct_ints ns) (RpA.mono st.hst.sub _ _ hr), plain_ints ns, fun x hx => ?_, ?_⟩
  · obtain ⟨n, _, rfl⟩ := List.mem_map.mp hx
    trivial
  · rw [any_truthy]
    exact q _ S H (Sub.rfl' S) st rfl⟩
end
end NL
set_option Elab.async false
set_option linter.all false
set_option maxRecDepth 100000
set_option maxHeartbeats 4000000
namespace NL
open PySem PySem.Spec PySem.W L2
open PyProof.Rows hiding St
section
variable {X : Cx} {G : Gh} {ρ : List SV} {M : MM} {pos : Pos} {n : Str}
theorem e_gstr {z : Str} (h : ∃ t, X.mg n = some (.str z t)) (hg : Gl X n := by rfl) (hd : (n == ("__debug__" : Str)) = false := by decide) : jE X G (.Name n pos) ρ M (.d (.str z)) M := fun S H σ st Q q => by
  obtain ⟨t, h⟩ := h
  exact PE.go (pe_glob hg h (v := .str z) ⟨t, rfl⟩ hd) (q _ S H (Sub.rfl' S) st rfl)
theorem e_gint {z : Int} (h : ∃ t, X.mg n = some (.int z t)) (hg : Gl X n := by rfl) (hd : (n == ("__debug__" : Str)) = false := by decide) : jE X G (.Name n pos) ρ M (.d (.int z)) M := fun S H σ st Q q => by
  obtain ⟨t, h⟩ := h
  exact PE.go (pe_glob hg h (v := .int z) ⟨t, rfl⟩ hd) (q _ S H (Sub.rfl' S) st rfl)
theorem c_lenS {z : Str} (h : z.length ≤ 1000000) : JC X G (.builtin "len") M [.d (.str z)] (.d (.int (z.length : Nat))) M := ⟨_, call_len_str, fun S H σ ρ us st r Q q => by
  obtain ⟨v, r', rfl, hv, rfl⟩ := r
  obtain rfl : v = .str z := hv
  exact ⟨z, rfl, sz_le h, q _ S H (Sub.rfl' S) st rfl⟩⟩
end
end NL
namespace K04
open PySem PySem.Spec L2 NL
open PyProof.Rows hiding St
def FIG : Str := "0123456789"
def SP : Str := " "
def NLs : Str := "\n"
def isFig (c : Nat) : Bool := !(Builtin.Str.occurrences FIG ⟨#[c]⟩ 0 FIG.length 1).isEmpty
def figs (w : Str) : Bool := (w.cps.toList.map isFig).all id
def lenOk (w : Str) : Bool := decide (1 ≤ w.length) && decide (w.length ≤ 2)
def ntF (w : Str) : Option Int := if lenOk w && figs w then (match PySem.intText? w with | some n => if (Str.ofString (toString n)) = w then some n else none | none => none) else none
/-- what int() of it is, where it is asked -/
def ok1 (w : Str) : Bool := decide (w.length ≤ 100) && (!lenOk w || (!figs w || (match PySem.intText? w with | some n => decide (n.natAbs < 1000) | none => false)))
def optD : Option Int → D
  | none => .none
  | some n => .int n
/-- what the text asks of the module's constants -/
structure Cn (K : PySem.W.Frag) (mg : Str → Option Value) : Prop where
  fig : ∃ t, mg "FIGURES" = some (.str FIG t)
  most : ∃ t, mg "MOST_FIGURES" = some (.int 2 t)
section
variable {P : Program} {w : World} {K : PySem.W.Frag} {mg : Str → Option Value} {base : Heap}
def W_nt : Wp := fun ds M R => ∃ (x : Str), ds = [.d (.str x), .d (.int 2)] ∧ ok1 x = true ∧ R (.d (optD (ntF x))) M
theorem ok_nt (T : Txt K mg) (C : Cn K mg) : FnG P w K mg base CX0 1 T.p_number_told.f T.p_number_told.fd A_p_number_told (spN K 2 W_nt) := by
  refine fn_ok T.p_number_told.F sc_p_number_told fun cdv A outer s H E G ds M R hr hl hW => ?_
  obtain ⟨x, rfl, hx, q⟩ := hW
  unfold ok1 at hx
  rw [Bool.and_eq_true, decide_eq_true_eq] at hx
  obtain ⟨hx1, hx⟩ := hx
  have hq : ∀ r, r = ntF x → R (.d (optD r)) M := fun r h => by rw [h]; exact q
  clear q
  refine b_cons (s_if (k := !(lenOk x && figs x)) ((t_ofW (w_or (k := !lenOk x) (k2 := !figs x) (t_not ((t_chain (x := .d (.int 1)) (y := .d (.int (x.length : Nat))) (z := .d (.int 2)) (k := decide ((1 : Int) ≤ (x.length : Nat))) (k2 := decide (((x.length : Nat) : Int) ≤ 2)) e_int (callB (a_cons (v 0) a_nil) (c_lenS (by omega)) T.z_len) le_i (fun _ => v 1) (fun _ => le_i) rfl).is ?_)) (fun hlo => w_or1 (t_not (t_val (callB (a_cons (e_ofL' (xs := (x.cps.toList.map isFig).map PyData.bool) (l_lc (own := [("sign", 2)]) (fun _ => M) (fun j => some (.d (.bool (isFig (x.cps.toList.getD j 0))))) (i_str (s := x) (v 0)) (bk sc_p_number_told (by decide +kernel)) sc_p_number_told.nd (fun _ _ => trivial) ?_ fun j d hj => ?_) ?_) a_nil) (c_all rfl ls_bs) T.z_all)))) fun _ => rfl)).is (by cases lenOk x <;> cases figs x <;> rfl)) (fun hb => b_one (ret e_non (hq none ?_))) fun hb => b_nil ?_)
  · unfold lenOk
    congr 1 <;> rw [decide_eq_decide] <;> omega
  · rw [List.length_map, NL.signs_len]
    have : x.length = x.cps.size := rfl
    omega
  · unfold NL.signs at hj
    obtain ⟨hj', rfl⟩ := map_at (f := fun c => PyData.str ⟨#[c]⟩) (xs := x.cps.toList) 0 hj
    refine ⟨true, _, _, M, by decide, fun s H C cl fp => gn 2 sc_p_number_told.nd, fun s H C cl fp G => ts_nil, fun _ => ⟨_, rfl, fun s H C' cl fp G => (cmp (v 2) (e_gstr C.fig) in_s).is rfl⟩, fun z => nomatch z⟩
  · rw [List.length_map, NL.signs_len, show x.cps.size = x.cps.toList.length from (Array.length_toList).symm, outs_map x.cps.toList 0 (fun c => SV.d (.bool (isFig c)))]
    simp
  · have e : (lenOk x && figs x) = false := by
      cases e : (lenOk x && figs x) with
      | true => rw [e] at hb; cases hb
      | false => rfl
    unfold ntF
    rw [e]; rfl
  · have hb' : (lenOk x && figs x) = true := by simpa using hb
    obtain ⟨h1, h2⟩ := Bool.and_eq_true_iff.mp hb'
    rw [h1, h2] at hx
    cases hn : PySem.intText? x with
    | none => rw [hn] at hx; cases hx
    | some n =>
      rw [hn] at hx
      have hn3 : n.natAbs < 1000 := of_decide_eq_true (by simpa using hx)
      have hlg : n.natAbs.log2 < 1920 := Nat.lt_of_le_of_lt (Nat.log2_le_self _) (by omega)
      have int : ∀ {X : Cx} {G : Gh} {M : MM}, JC X G (.type "int") M [.d (.str x)] (.d (.int n)) M := fun {X G M} => c_intS hn (by omega)
      have hnt : ntF x = if (Str.ofString (toString n)) = x then some n else none := by
        unfold ntF
        rw [if_pos hb', hn]
      by_cases he : (Str.ofString (toString n)) = x
      · refine b_cons (s_if (k := false) ((tcmp (callT (a_cons (callT (a_cons (v 0) a_nil) int T.z_int) a_nil) (c_strI hlg) T.z_str) (v 0) ne_s).is (by show (!decide (Str.ofString (toString n) = x)) = false; rw [decide_eq_true he]; rfl)) (fun z => nomatch z) fun _ => b_nil ?_)
        exact b_one (ret (callT (a_cons (v 0) a_nil) int T.z_int) (hq (some n) (by rw [hnt, if_pos he])))
      · exact b_cons (s_if (k := true) ((tcmp (callT (a_cons (callT (a_cons (v 0) a_nil) int T.z_int) a_nil) (c_strI hlg) T.z_str) (v 0) ne_s).is (by show (!decide (Str.ofString (toString n) = x)) = true; rw [decide_eq_false he]; rfl)) (fun _ => b_one (ret e_non (hq none (by rw [hnt, if_neg he])))) fun z => nomatch z)
def ktF (line : Str) : Option Int := match Txt.split line SP with
  | [a, b] => if a = "kinds" then (if ntF b = some 0 then none else ntF b) else none
  | _ => none
def W_kt : Wp := fun ds M R => ∃ (x : Str), ds = [.d (.str x)] ∧ x.length ≤ 1000 ∧ (Txt.split x SP).all ok1 = true ∧ R (.d (optD (ktF x))) M
theorem ok_kt (T : Txt K mg) (C : Cn K mg) : FnG P w K mg base CX0 2 T.p_kinds_told.f T.p_kinds_told.fd A_p_kinds_told (spN K 1 W_kt) := by
  refine fn_ok T.p_kinds_told.F sc_p_kinds_told fun cdv A outer s H E G ds M R hr hl hW => ?_
  obtain ⟨x, rfl, hx1, hx, q⟩ := hW
  have hq : ∀ r, r = ktF x → R (.d (optD r)) M := fun r h => by rw [h]; exact q
  clear q
  unfold ktF at hq
  obtain ⟨ws, hws⟩ : ∃ ws, ws = Txt.split x SP := ⟨_, rfl⟩
  refine b_cons (st 1 (d := .d (.list (ws.map PyData.str))) (M1 := M) (e_ofL' (xs := ws.map PyData.str) (e_split (v 0) e_str (by decide +kernel) (by omega)) (by rw [hws]; simp [SP])) ?_ sc_p_kinds_told.nd)
  rw [← hws] at hx hq
  have hsn : ∀ a : Str, okD 50 (.str a) → True := fun _ _ => trivial
  rcases (Classical.em (ws.length = 2)).symm with h2 | h2
  · refine b_cons (s_if (k := true) (t_ofW (w_or (k := true) (k2 := true) ((tcmp (callB (a_cons (v 1) a_nil) (c_len (ls_d (ds := ws.map PyData.str))) T.z_len) e_int ne_i).is (by simp; omega)) (fun z => nomatch z) fun _ => rfl)) (fun _ => b_one (ret e_non (hq none ?_))) fun z => nomatch z)
    match ws, h2 with
    | [], _ => rfl
    | [_], _ => rfl
    | [_, _], h => simp at h
    | _ :: _ :: _ :: _, _ => rfl
  obtain ⟨a, b, rfl⟩ : ∃ a b, ws = [a, b] := by
    match ws, h2 with
    | [a, b], _ => exact ⟨a, b, rfl⟩
  have hb : ok1 b = true := by simpa using (Bool.and_eq_true_iff.mp (by simpa using hx : (ok1 a && ok1 b) = true)).2
  have hq2 : ∀ r, r = (if a = "kinds" then (if ntF b = some 0 then none else ntF b) else none) → R (.d (optD r)) M := hq
  by_cases ha : a = "kinds"
  · refine b_cons (s_if (k := false) (t_ofW (w_or (k := false) (k2 := false) ((tcmp (callB (a_cons (v 1) a_nil) (c_len (ls_d (ds := [PyData.str a, .str b]))) T.z_len) e_int ne_i).is rfl) (fun _ => w_or1 ((tcmp (ix (v 1) e_int (ix_l (ls_d (ds := [PyData.str a, .str b])) (d := .d (.str a)) rfl)) e_str ne_s).is (by simp [ha]))) fun z => nomatch z)) (fun z => nomatch z) fun _ => b_nil ?_)
    refine b_cons (st 2 (d := .d (optD (ntF b))) (M1 := M) (call T.p_number_told (ok_nt T C) (hr.mono (by decide)) (a_cons (ix (v 1) e_int (ix_l (ls_d (ds := [PyData.str a, .str b])) (d := .d (.str b)) rfl)) (a_cons (e_gint C.most) a_nil)) fun R' h => ⟨b, rfl, hb, h⟩) ?_ sc_p_kinds_told.nd)
    have hf : ∀ r : Option Int, fine (optD r) = true := fun r => by cases r <;> rfl
    have he : ∀ r : Option Int, PyData.eqv (optD r) (.int 0) = decide (r = some 0) := fun r => by
      cases r with
      | none => rfl
      | some n =>
        show (n == 0) = _
        rw [Bool.eq_iff_iff]; simp
    by_cases h0 : ntF b = some 0
    · exact b_cons (s_if (k := true) ((tcmp (v 2 (hd := by rw [h0]; exact fun q => nomatch q)) e_int (eq_d hr.units (hf _) rfl)).is (by rw [he, decide_eq_true h0])) (fun _ => b_one (ret e_non (hq2 none (by rw [if_pos ha, if_pos h0])))) fun z => nomatch z)
    · refine b_cons (s_if (k := false) ((tcmp (v 2) e_int (eq_d hr.units (hf _) rfl)).is (by rw [he, decide_eq_false h0])) (fun z => nomatch z) fun _ => b_nil ?_)
      exact b_one (ret (v 2) (hq2 (ntF b) (by rw [if_pos ha, if_neg h0])))
  · exact b_cons (s_if (k := true) (t_ofW (w_or (k := false) (k2 := true) ((tcmp (callB (a_cons (v 1) a_nil) (c_len (ls_d (ds := [PyData.str a, .str b]))) T.z_len) e_int ne_i).is rfl) (fun _ => w_or1 ((tcmp (ix (v 1) e_int (ix_l (ls_d (ds := [PyData.str a, .str b])) (d := .d (.str a)) rfl)) e_str ne_s).is (by simpa using ha))) fun z => nomatch z)) (fun _ => b_one (ret e_non (hq2 none (by rw [if_neg ha])))) fun z => nomatch z)
def getI : Option Int → Int
  | none => 0
  | some n => n
def btF (k : Nat) (line : Str) : Option Rw := if ((Txt.split line SP).map ntF).length = k ∧ ((Txt.split line SP).map ntF).all Option.isSome = true ∧ ((Txt.split line SP).map fun x => getI (ntF x)).any (· != 0) = true then some ((Txt.split line SP).map fun x => getI (ntF x)) else none
def brD : Option Rw → D
  | none => .none
  | some b => tI b
def W_bt : Wp := fun ds M R => ∃ (k : Nat) (x : Str), ds = [.d (.int (k : Nat)), .d (.str x)] ∧ x.length ≤ 1000 ∧ (Txt.split x SP).length ≤ 100 ∧ (Txt.split x SP).all ok1 = true ∧ R (.d (brD (btF k x))) M
theorem ok_bt (T : Txt K mg) (C : Cn K mg) : FnG P w K mg base CX0 2 T.p_batch_told.f T.p_batch_told.fd A_p_batch_told (spN K 2 W_bt) := by
  refine fn_ok T.p_batch_told.F sc_p_batch_told fun cdv A outer s H E G ds M R hr hl hW => ?_
  obtain ⟨k, x, rfl, hx1, hx2, hx, q⟩ := hW
  have hq : ∀ r, r = btF k x → R (.d (brD r)) M := fun r h => by rw [h]; exact q
  clear q
  unfold btF at hq
  obtain ⟨ws, hws⟩ : ∃ ws, ws = Txt.split x SP := ⟨_, rfl⟩
  rw [← hws] at hx hq hx2
  have hf : ∀ r : Option Int, fine (optD r) = true := fun r => by cases r <;> rfl
  refine b_cons (s_setLd (own := [("word", 3)]) (xs := (ws.map PyData.str).map SV.d) (ys := (ws.map ntF).map optD) 2 (fun _ => M) (fun j => some (.d (optD (ntF (ws.getD j ""))))) (i_list (xs := ws.map PyData.str) (e_ofL' (xs := ws.map PyData.str) (e_split (v 1) e_str (by decide +kernel) (by omega)) (by rw [hws]; simp [SP]))) (bk sc_p_batch_told (by decide +kernel)) sc_p_batch_told.nd (fun _ _ => trivial) (by simp; omega) (fun j d hj => ?_) ?_ ?_)
  · obtain ⟨hj', rfl⟩ := map_at (f := PyData.str) (xs := ws) "" hj
    have hw : ok1 (ws.getD j "") = true := List.all_eq_true.mp hx _ (getD_in hj')
    exact ⟨true, _, _, M, by decide, fun s H C cl fp => gn 3 sc_p_batch_told.nd, fun s H C cl fp G => ts_nil, fun _ => ⟨_, rfl, fun s H C' cl fp G => call T.p_number_told (ok_nt T C) (hr.mono (by decide)) (a_cons (v 3) (a_cons (e_gint C.most) a_nil)) fun R' h => ⟨_, rfl, hw, h⟩⟩, fun z => nomatch z⟩
  · rw [List.length_map, List.length_map, outs_map ws "" (fun x => SV.d (optD (ntF x)))]
    simp
  have hfl : fine (.list ((ws.map ntF).map optD)) = true := by
    have key : ∀ rs : List (Option Int), fine (.list (rs.map optD)) = true := fun rs => by
      have := (ok_list (k := 0) (ds := rs.map optD) fun d hd => by
        obtain ⟨r, _, rfl⟩ := List.mem_map.mp hd
        cases r
        · exact ok_none
        · exact ok_int).fine
      exact this
    exact key _
  rcases (Classical.em ((ws.map ntF).length = k)).symm with hlk | hlk
  · exact b_cons (s_if (k := true) (t_ofW (w_or (k := true) (k2 := true) ((tcmp (callB (a_cons (v 2) a_nil) (c_len (ls_d (ds := (ws.map ntF).map optD))) T.z_len) (v 0) ne_i).is (by
      rw [List.length_map] at hlk
      simp; omega)) (fun z => nomatch z) fun _ => rfl)) (fun _ => b_one (ret e_non (hq none (by rw [if_neg fun z => hlk z.1])))) fun z => nomatch z)
  have hin : (((ws.map ntF).map optD).any fun z => PyData.eqv z .none) = !((ws.map ntF).all Option.isSome) := by
    generalize ws.map ntF = rs
    induction rs with
    | nil => rfl
    | cons r rs ih =>
      rw [List.map_cons, List.any_cons, ih, List.all_cons]
      cases r <;> rfl
  have t1 : ∀ {X : Cx} {G : Gh} {ρ : List SV} {M : MM} {b : Bool}, b = b → True := fun _ => trivial
  rcases Bool.eq_false_or_eq_true ((ws.map ntF).all Option.isSome) with hal | hal
  rotate_left
  · exact b_cons (s_if (k := true) (t_ofW (w_or (k := false) (k2 := true) ((tcmp (callB (a_cons (v 2) a_nil) (c_len (ls_d (ds := (ws.map ntF).map optD))) T.z_len) (v 0) ne_i).is (by
      rw [List.length_map] at hlk
      simp [hlk])) (fun _ => w_or (k := true) (k2 := true) ((tcmp e_non (v 2) (in_d hr.u65 rfl hfl)).is (by rw [hin, hal]; rfl)) (fun z => nomatch z) fun _ => rfl) fun z => nomatch z)) (fun _ => b_one (ret e_non (hq none (by rw [if_neg fun z => by rw [hal] at z; cases z.2.1])))) fun z => nomatch z)
  have hmap : (ws.map ntF).map optD = (ws.map fun x => getI (ntF x)).map PyData.int := by
    rw [List.map_map, List.map_map]
    refine List.map_congr_left fun x hx => ?_
    have := List.all_eq_true.mp hal (ntF x) (List.mem_map.mpr ⟨x, hx, rfl⟩)
    show optD (ntF x) = .int (getI (ntF x))
    cases e : ntF x with
    | none => rw [e] at this; cases this
    | some n => rfl
  rw [hmap] at hin hfl
  have hlk2 : ws.length = k := by simpa using hlk
  rw [hmap]
  rcases Bool.eq_false_or_eq_true ((ws.map fun x => getI (ntF x)).any (· != 0)) with han | han
  · refine b_cons (s_if (k := false) (t_ofW (w_or (k := false) (k2 := false) ((tcmp (callB (a_cons (v 2) a_nil) (c_len (ls_d (ds := (ws.map fun x => getI (ntF x)).map PyData.int))) T.z_len) (v 0) ne_i).is (by simp [hlk2])) (fun _ => w_or (k := false) (k2 := false) ((tcmp e_non (v 2) (in_d hr.u65 rfl hfl)).is (by rw [hin, hal]; rfl)) (fun _ => w_or1 ((t_not (t_val (callB (a_cons (v 2) a_nil) (c_anyI rfl) T.z_any))).is (by rw [han]; rfl))) fun z => nomatch z) fun z => nomatch z)) (fun z => nomatch z) fun _ => b_nil ?_)
    exact b_one (ret (callT (a_cons (v 2) a_nil) (c_tupleL (xs := (ws.map fun x => getI (ntF x)).map PyData.int) ls_d) T.z_tuple) (hq (some _) (by rw [if_pos ⟨hlk, hal, han⟩])))
  · exact b_cons (s_if (k := true) (t_ofW (w_or (k := false) (k2 := true) ((tcmp (callB (a_cons (v 2) a_nil) (c_len (ls_d (ds := (ws.map fun x => getI (ntF x)).map PyData.int))) T.z_len) (v 0) ne_i).is (by simp [hlk2])) (fun _ => w_or (k := false) (k2 := true) ((tcmp e_non (v 2) (in_d hr.u65 rfl hfl)).is (by rw [hin, hal]; rfl)) (fun _ => w_or1 ((t_not (t_val (callB (a_cons (v 2) a_nil) (c_anyI rfl) T.z_any))).is (by rw [han]; rfl))) fun z => nomatch z) fun z => nomatch z)) (fun _ => b_one (ret e_non (hq none (by rw [if_neg fun z => by rw [han] at z; cases z.2.2])))) fun z => nomatch z)
end
end K04
set_option Elab.async false
set_option linter.all false
set_option maxRecDepth 100000
set_option maxHeartbeats 4000000
namespace NL
open PySem PySem.Spec L2
open PyProof.Rows hiding St
end NL
set_option Elab.async false
set_option linter.all false
set_option maxRecDepth 100000
set_option maxHeartbeats 4000000
namespace NL
open PySem PySem.Spec L2
open PyProof.Rows hiding St
end NL
set_option Elab.async false
set_option linter.all false
set_option maxRecDepth 100000
set_option maxHeartbeats 4000000
namespace NL
open PySem PySem.Spec L2
open PyProof.Rows hiding St
end NL
set_option Elab.async false
set_option linter.all false
set_option maxRecDepth 100000
set_option maxHeartbeats 4000000
namespace NL
open PySem PySem.Spec L2
open PyProof.Rows hiding St
end NL
set_option Elab.async false
set_option linter.all false
set_option maxRecDepth 100000
set_option maxHeartbeats 4000000
namespace NL
open PySem PySem.Spec L2
open PyProof.Rows hiding St
section
variable {X : Cx} {G : Gh} {ρ : List SV} {M : MM} {P : Post} {b : List Stmt}
/-- a list of one's own in a slot, from here on never written: data -/
theorem b_frz {p : Addr} {xs : List D} (i : Nat) (hi : ρ[i]? = some (.o p)) (hp : M p = some (.lst (xs.map SV.d))) (k : jB X G b (ρ.set i (.d (.list xs))) (mdel M p) P) : jB X G b ρ M P := fun S H σ s D f => by
  obtain ⟨nS, o, ho, vs, rfl, r⟩ := s.hst.own p _ hp
  have e2 : Sub S (upd S p (.lst vs)) := Evl.Ex.new nS
  refine k _ H σ ⟨s.hst.freeze hp ho, ?_⟩ D f
  obtain ⟨v, hv, rv⟩ := s.sl.at hi
  obtain ⟨w, rfl, rw⟩ := RelS.to (s := .o p) (fun z => nomatch z) rv
  obtain rfl : w = .ref p := rw
  have h1 := (s.sl.mono e2).set (s := .d (.list xs)) (v := some (.ref p)) (show RelS X.K (upd S p (.lst vs)) (.d (.list xs)) (some (.ref p)) from ⟨p, vs, rfl, upd_same, RpA.mono e2 _ _ r.ds⟩) i
  have h2 : σ.set i (some (.ref p)) = σ := by
    obtain ⟨hlt, e⟩ := List.getElem?_eq_some_iff.mp hv
    refine List.ext_getElem (by simp) fun n h1 h2 => ?_
    rw [List.getElem_set]
    split
    · rename_i h; subst h; exact e.symm
    · rfl
  rwa [h2] at h1
end
end NL
set_option Elab.async false
set_option linter.all false
set_option maxRecDepth 100000
set_option maxHeartbeats 4000000
namespace K04
open PySem PySem.Spec L2 NL
open PyProof.Rows hiding St
def wN (n : Int) : Str := Str.ofString (toString n)
def lB (b : Rw) : Str := Txt.join SP (b.map wN)
def l0F (k : Nat) : Str := "kinds " ++ wN (k : Nat)
def linesF (k : Nat) (bs : List Rw) : List Str := l0F k :: bs.map lB
def textF (k : Nat) (bs : List Rw) : Str := Txt.join NLs (linesF k bs)
theorem wN_len {n : Int} (h : 0 ≤ n ∧ n ≤ 99) : (wN n).length ≤ 2 := by
  have key : ∀ m : Nat, m < 100 → (wN (m : Nat)).length ≤ 2 := by decide +kernel
  obtain ⟨m, rfl⟩ : ∃ m : Nat, n = m := ⟨n.toNat, by omega⟩
  exact key m (by omega)
theorem lens {B : Nat} : ∀ ys : List Str, (∀ y ∈ ys, y.length ≤ B) → (ys.map (·.length)).sum ≤ ys.length * B
  | [], _ => by simp
  | y :: ys, h => by
    have h1 := lens ys fun z hz => h z (List.mem_cons_of_mem _ hz)
    have h2 := h y (List.mem_cons_self ..)
    rw [List.map_cons, List.sum_cons, List.length_cons, Nat.add_mul]
    omega
theorem join_le {B : Nat} {s : Str} {ys : List Str} (h : ∀ y ∈ ys, y.length ≤ B) : (Txt.join s ys).length ≤ ys.length * B + ys.length * s.length := by
  have h1 := StrLaws.join_length_le s ys
  rw [TL.join_eq]
  have := lens ys h
  omega
theorem lB_len {b : Rw} (h : ∀ n ∈ b, 0 ≤ n ∧ n ≤ 99) : (lB b).length ≤ 3 * b.length := by
  have h1 := join_le (B := 2) (s := SP) (ys := b.map wN) fun y hy => by
    obtain ⟨n, hn, rfl⟩ := List.mem_map.mp hy
    exact wN_len (h n hn)
  have e : SP.length = 1 := by decide
  rw [List.length_map, e] at h1
  unfold lB
  omega
theorem good99 {k : Nat} {bs : List Rw} (hg : GoodB k bs) {b : Rw} (hb : b ∈ bs) : ∀ n ∈ b, 0 ≤ n ∧ n ≤ 99 := fun n hn => by have := hg.nn b hb n hn; omega
section
variable {P : Program} {w : World} {K : PySem.W.Frag} {mg : Str → Option Value} {base : Heap}
def W_btx (T : Txt K mg) : Wp := fun ds M R => ∃ (k : Nat) (bs : List Rw), ds = [bookV T.Book.C k bs] ∧ 1 ≤ k ∧ k ≤ 90 ∧ GoodB k bs ∧ bs.length ≤ 30 ∧ R (.d (.str (textF k bs))) M
theorem ok_btx (T : Txt K mg) : FnG P w K mg base CX0 1 T.p_book_text.f T.p_book_text.fd A_p_book_text (spN K 1 (W_btx T)) := by
  refine fn_ok T.p_book_text.F sc_p_book_text fun cdv A outer s H E G ds M R hr hl hW => ?_
  obtain ⟨k, bs, rfl, hk1, hk, hg, hbl, q⟩ := hW
  have hkl : ((k : Nat) : Int).natAbs.log2 < 1920 := Nat.lt_of_le_of_lt (Nat.log2_le_self _) (by omega)
  have hwk : (wN (k : Nat)).length ≤ 2 := wN_len ⟨by omega, by omega⟩
  have hl0 : (l0F k).length ≤ 8 := by
    unfold l0F
    rw [Str.length_append]
    have : ("kinds " : Str).length = 6 := by decide
    omega
  refine b_cons (stL 1 (e_lst (a_cons (e_fstr (a := "kinds ") (e_fld (fs := bookF k bs) (v 0) T.Book.cl T.nKinds rfl) hkl (by
    have : ("kinds " : Str).length = 6 := by decide
    show ("kinds " : Str).length + (wN (k : Nat)).length ≤ 1000000
    omega)) a_nil)) (fun p hp => ?_) sc_p_book_text.nd)
  refine b_cons (s_for (fun i ρ' M' => ∃ x2 x3, ρ' = [bookV T.Book.C k bs, .o p, x2, x3] ∧ M' = mset M p (.lst ((l0F k :: (bs.take i).map lB).map fun s => SV.d (.str s)))) (i_tup (xs := bs.map tI) (e_fld (fs := bookF k bs) (v 0) T.Book.cl T.nBatches rfl)) ⟨_, _, rfl, rfl⟩ (fun _ _ _ _ => trivial) ?_ ?_ PassesOwn.never)
  · rintro G i d ρ' M' hd ⟨x2, x3, rfl, rfl⟩
    obtain ⟨hi, rfl⟩ := map_at [] hd
    obtain ⟨b, hb⟩ : ∃ b, b = bs.getD i [] := ⟨_, rfl⟩
    have hbm : b ∈ bs := by rw [hb]; exact getD_in (z := []) hi
    rw [← hb]
    have hnext : bs.take (i + 1) = bs.take i ++ [b] := by
      rw [List.take_succ_eq_append_getElem hi, hb]
      simp [List.getD, hi]
    have h99 := good99 hg hbm
    have hbk := hg.len b hbm
    refine ⟨_, _, gn 2 sc_p_book_text.nd, ?_⟩
    refine b_one (s_drop (e_append (v 1) mset_same (e_join (a := SP) (ys := b.map wN) e_str (e_ofL' (xs := (b.map wN).map PyData.str) (l_lc (own := [("number", 3)]) (fun _ => _) (fun j => some (.d (.str (wN (b.getD j 0))))) (i_tup (xs := b.map PyData.int) (v 2)) (bk sc_p_book_text (by decide +kernel)) sc_p_book_text.nd (fun _ _ => trivial) (by simp; omega) fun j d hj => ?_) ?_) ?_ ?_) mset_same (by simp; omega)) ⟨_, _, rfl, ?_⟩)
    · obtain ⟨hj', rfl⟩ := map_at (f := PyData.int) (xs := b) 0 hj
      have hn := h99 _ (getD_in (z := 0) hj')
      exact ⟨true, _, _, _, by decide, fun s H C cl fp => gn 3 sc_p_book_text.nd, fun s H C cl fp G => ts_nil, fun _ => ⟨_, rfl, fun s H C cl fp G => callT (a_cons (v 3) a_nil) (c_strI (Nat.lt_of_le_of_lt (Nat.log2_le_self _) (by omega))) T.z_str⟩, fun z => nomatch z⟩
    · rw [List.length_map, List.length_map, outs_map b 0 (fun n => SV.d (.str (wN n)))]
      simp
    · have h := ls_d (M := mset M p (.lst ((l0F k :: (bs.take i).map lB).map fun s => SV.d (.str s)))) (ds := (b.map wN).map PyData.str)
      rwa [show ((b.map wN).map PyData.str).map SV.d = (b.map wN).map fun s => SV.d (.str s) from by rw [List.map_map]; rfl] at h
    · have := lens (B := 2) (b.map wN) fun y hy => by
        obtain ⟨n, hn, rfl⟩ := List.mem_map.mp hy
        exact wN_len (h99 n hn)
      have e : SP.length = 1 := by decide
      rw [List.length_map] at this ⊢
      rw [e]
      omega
    · rw [mset_mset, hnext]
      simp [lB]
  · rintro ρ' M' ⟨x2, x3, rfl, rfl⟩
    rw [List.length_map, List.length_map, List.take_length]
    refine b_one (s_ret (e_join (a := NLs) (ys := linesF k bs) e_str (v 1) (ls_o mset_same) ?_) ⟨M, MLe.new hp (MLe.rfl' M), q⟩)
    have := lens (B := 270) (linesF k bs) fun y hy => by
      rcases List.mem_cons.mp hy with rfl | hy
      · omega
      · obtain ⟨b, hb, rfl⟩ := List.mem_map.mp hy
        have := lB_len (good99 hg hb)
        rw [hg.len b hb] at this
        omega
    have e : NLs.length = 1 := by decide
    have e2 : (linesF k bs).length = bs.length + 1 := by simp [linesF]
    rw [e2] at this ⊢
    rw [e]
    omega
def badAft (acc : List Rw) (b : Rw) : Bool := !acc.isEmpty && !decide (acc.getLastD [] < b)
def rbGo (k : Nat) : List Rw → List Str → Int ⊕ List Rw
  | acc, [] => .inr acc
  | acc, l :: ls => match btF k l with
    | none => .inl (1 + acc.length : Nat)
    | some b => if badAft acc b = true then .inl (1 + acc.length : Nat) else rbGo k (acc ++ [b]) ls
theorem rbGo_cons (k : Nat) (acc : List Rw) (l : Str) (ls : List Str) : rbGo k acc (l :: ls) = (match btF k l with
    | none => .inl (1 + acc.length : Nat)
    | some b => if badAft acc b = true then .inl (1 + acc.length : Nat) else rbGo k (acc ++ [b]) ls) := by rw [rbGo]
def okL (l : Str) : Prop := l.length ≤ 1000 ∧ (Txt.split l SP).length ≤ 100 ∧ (Txt.split l SP).all ok1 = true
def W_rb (T : Txt K mg) (C : Addr) : WpX := fun ds M R RE => ∃ (d : D), ds = [.d d] ∧ (((∀ s, d ≠ .str s) ∧ RE C (.int 0) M) ∨ ∃ (x l0 : Str) (ls : List Str), d = .str x ∧ x.length ≤ 100000 ∧ Txt.split x NLs = l0 :: ls ∧ okL l0 ∧ (∀ l ∈ ls, okL l) ∧ ls.length ≤ 30 ∧
  ((ktF l0 = none ∧ RE C (.int 0) M) ∨ ∃ k : Nat, ktF l0 = some (k : Int) ∧ 1 ≤ k ∧ k ≤ 100 ∧ ((∃ i, rbGo k [] ls = .inl i ∧ RE C (.int i) M) ∨ ∃ bs, rbGo k [] ls = .inr bs ∧ GoodB k bs ∧ R (bookV T.Book.C k (sortT bs)) M)))
theorem kit_str {d : D} (h : ∀ s, d ≠ .str s) : kitB (kindD d) "str" = some false := by cases d <;> first | exact absurd rfl (h _) | (simp only [kindD]; decide +kernel)
theorem dlt_rows (x y : Rw) : PySem.W.dataLt (tI x) (tI y) = decide (x < y) := by
  rw [show PySem.W.dataLt (tI x) (tI y) = PySem.W.rowLt (x.map .int) (y.map .int) from PySem.W.dataLt_tuple _ _, PySem.W.dataLt_ints]
theorem ok_rb (T : Txt K mg) (CN : Cn K mg) {q0 : Str} {sq : Stmt} (TE : ExcD K mg "InvalidText" q0 sq) (FE : FnOk P w K mg base CX0 1 TE.f TE.fd ["self", "at"] (spAt TE.C)) : FnG P w K mg base (L2.CX P w) 8 T.p_read_book.f T.p_read_book.fd A_p_read_book (spX K 1 (W_rb T TE.C)) := by
  refine fn_okX T.p_read_book.F sc_p_read_book fun cdv A outer s0 H E G ds M R RE TW hr hl hW fx tk => ?_
  obtain ⟨d, rfl, hW⟩ := hW
  rcases hW with ⟨hd, hre⟩ | ⟨x, l0, ls, rfl, hxl, hsp, h0, hls, hll, hW⟩
  · exact b_cons (s_if (k := true) ((t_not (t_val (e_isi1 (T := "str") (b := false) (v 0) rfl (kit_str hd) T.z_isinstance T.z_str))).is rfl) (fun _ => b_one (s_raise TE FE (hr.mono (by decide)) tk fx (a_cons e_int a_nil) ⟨M, MLe.rfl' _, hre⟩)) fun z => nomatch z)
  refine b_cons (s_if (k := false) ((t_not (t_val (e_isi1 (T := "str") (t := "str") (b := true) (v 0) rfl (by decide +kernel) T.z_isinstance T.z_str))).is rfl) (fun z => nomatch z) fun _ => b_nil ?_)
  refine b_cons (st 1 (d := .d (.list ((l0 :: ls).map PyData.str))) (M1 := M) (e_ofL' (xs := (l0 :: ls).map PyData.str) (e_split (v 0) e_str (by decide +kernel) (by omega)) (by rw [← hsp]; simp [NLs])) ?_ sc_p_read_book.nd)
  refine b_cons (st 2 (d := .d (optD (ktF l0))) (M1 := M) (call T.p_kinds_told (ok_kt T CN) (hr.mono (by decide)) (a_cons (ix (v 1) e_int (ix_l (ls_d (ds := (l0 :: ls).map PyData.str)) (d := .d (.str l0)) atI_0)) a_nil) fun R' h => ⟨l0, rfl, h0.1, h0.2.2, h⟩) ?_ sc_p_read_book.nd)
  rcases hW with ⟨hk0, hre⟩ | ⟨k, hk0, hk1, hk2, hW⟩
  · rw [hk0]
    exact b_cons (s_if (k := true) ((tcmp (v 2) e_non is_non).is rfl) (fun _ => b_one (s_raise TE FE (hr.mono (by decide)) tk fx (a_cons e_int a_nil) ⟨M, MLe.rfl' _, hre⟩)) fun z => nomatch z)
  rw [hk0]
  refine b_cons (s_if (k := false) ((tcmp (v 2) e_non is_non).is rfl) (fun z => nomatch z) fun _ => b_nil ?_)
  refine b_cons (stL 3 (e_lst a_nil) (fun p hp => ?_) sc_p_read_book.nd)
  have hm0 : MLe M (mset M p (.lst [])) := MLe.new hp (MLe.rfl' M)
  refine b_cons (s_forX (fun i ρ' M' => ∃ (acc : List Rw) (x4 x5 x6 : SV), acc.length = i ∧ rbGo k [] ls = rbGo k acc (ls.drop i) ∧ ρ' = [.d (.str x), .d (.list ((l0 :: ls).map PyData.str)), .d (.int (k : Nat)), .o p, x4, x5, x6] ∧ M' = mset M p (.lst (tsv acc))) (i_enumL (xs := ls.map PyData.str) (a_cons ((l_from (j := 1) (v 1) e_int (by simp)).is (d' := .d (.list (ls.map PyData.str))) (by simp)) a_nil) T.z_enumerate) ⟨[], _, _, _, rfl, rfl, rfl, rfl⟩ (fun _ _ _ _ => trivial) ?_ ?_ (passes_of rfl))
  · rintro G2 i d ρ' M' fxx hd ⟨acc, x4, x5, x6, hal, hgo, rfl, rfl⟩
    have hi : i < ls.length := by
      have := (List.getElem?_eq_some_iff.mp hd).1
      rw [enD_len, List.length_map] at this
      exact this
    rw [enD_at (by rw [List.length_map]; exact hi)] at hd
    cases hd
    have e1 : (ls.map PyData.str)[i]'(by rw [List.length_map]; exact hi) = .str ls[i] := by simp
    rw [e1]
    obtain ⟨l, hl'⟩ : ∃ l, l = ls[i] := ⟨_, rfl⟩
    have hlo := hls l (by rw [hl']; exact List.getElem_mem hi)
    rw [List.drop_eq_getElem_cons hi, ← hl'] at hgo
    rw [← hl']
    rw [rbGo_cons] at hgo
    refine ⟨_, _, g_tup2 rfl (gn 4 sc_p_read_book.nd) (gn 5 sc_p_read_book.nd), ?_⟩
    refine b_cons (st 6 (d := .d (brD (btF k l))) (M1 := mset M p (.lst (tsv acc))) (call T.p_batch_told (ok_bt T CN) (hr.mono (by decide)) (a_cons (v 2) (a_cons (v 5) a_nil)) fun R' h => ⟨k, l, rfl, hlo.1, hlo.2.1, hlo.2.2, h⟩) ?_ sc_p_read_book.nd)
    have hcount : (1 : Int) + (i : Nat) = ((1 + acc.length : Nat) : Int) := by omega
    have hfail : rbGo k [] ls = .inl ((1 + acc.length : Nat) : Int) → ∃ RE', RE' = RE TE.C (.int (1 + (i : Nat))) M ∧ RE' := fun h => by
      rcases hW with ⟨j, hj, hre⟩ | ⟨bs, hb, _⟩
      · rw [h] at hj
        injection hj with hj
        exact ⟨_, rfl, by rw [hcount, hj]; exact hre⟩
      · rw [h] at hb; cases hb
    have tD : LsV (mset M p (.lst (tsv acc))) (.o p) (tsv acc) := ls_o mset_same
    cases hb : btF k l with
    | none =>
      rw [hb] at hgo
      simp only [] at hgo
      obtain ⟨_, rfl, hre⟩ := hfail hgo
      refine b_cons (s_if (k := true) (t_ofW (w_or (k := true) (k2 := true) ((tcmp (v 6) e_non is_non).is rfl) (fun z => nomatch z) fun _ => rfl)) (fun _ => b_one (s_raise TE FE (hr.mono (by decide)) tk (fxx _ _ fx) (a_cons (bin e_int (v 4) add_i) a_nil) ⟨M, MLe.new hp (MLe.rfl' M), hre⟩)) fun z => nomatch z)
    | some b =>
      rw [hb] at hgo
      simp only [] at hgo
      rcases Bool.eq_false_or_eq_true (badAft acc b) with hba | hba
      · rw [if_pos hba] at hgo
        obtain ⟨_, rfl, hre⟩ := hfail hgo
        unfold badAft at hba
        obtain ⟨g1, g2⟩ := Bool.and_eq_true_iff.mp hba
        have hne : acc ≠ [] := fun e => by rw [e] at g1; cases g1
        have hlast : (tsv acc).getLast? = some (.d (tI (acc.getLastD []))) := by
          unfold tsv
          rw [List.getLast?_map, List.getLast?_eq_getLast hne, List.getLastD_eq_getLast?, List.getLast?_eq_getLast hne]
          rfl
        refine b_cons (s_if (k := true) (t_ofW (w_or (k := false) (k2 := true) ((tcmp (v 6) e_non is_non).is rfl) (fun _ => w_or1 (t_ofW (w_and (k := true) (k2 := true) ((t_truth (v 3) (tru_l tD)).is (by cases acc with | nil => exact absurd rfl hne | cons => rfl)) (fun _ => w_and1 ((tcmp (v 6) (ix (v 3) (un e_int neg_i) (ix_l tD (last_at hlast))) (le_d hr.units (nodct_tI _) (nodct_tI _) (by simp [tI, PySem.W.alike, alike_ints]) nofun (Nat.le_trans (ok_tI b).dep (by decide)))).is (by rw [dlt_rows]; exact g2))) fun z => nomatch z))) fun z => nomatch z)) (fun _ => b_one (s_raise TE FE (hr.mono (by decide)) tk (fxx _ _ fx) (a_cons (bin e_int (v 4) add_i) a_nil) ⟨M, MLe.new hp (MLe.rfl' M), hre⟩)) fun z => nomatch z)
      · rw [if_neg (by rw [hba]; exact fun z => nomatch z)] at hgo
        refine b_cons (s_if (k := false) (M1 := mset M p (.lst (tsv acc))) ?_ (fun z => nomatch z) fun _ => b_nil ?_)
        · cases acc with
          | nil => exact t_ofW (w_or (k := false) (k2 := false) ((tcmp (v 6) e_non is_non).is rfl) (fun _ => w_or1 (t_ofW (w_and (k := false) (k2 := true) ((t_truth (v 3) (tru_l tD)).is rfl) (fun z => nomatch z) fun _ => rfl))) fun z => nomatch z)
          | cons a acc' =>
            have hne : a :: acc' ≠ [] := by simp
            have hlast : (tsv (a :: acc')).getLast? = some (.d (tI ((a :: acc').getLastD []))) := by
              unfold tsv
              rw [List.getLast?_map, List.getLast?_eq_getLast hne, List.getLastD_eq_getLast?, List.getLast?_eq_getLast hne]
              rfl
            exact t_ofW (w_or (k := false) (k2 := false) ((tcmp (v 6) e_non is_non).is rfl) (fun _ => w_or1 (t_ofW (w_and (k := true) (k2 := false) ((t_truth (v 3) (tru_l tD)).is rfl) (fun _ => w_and1 ((tcmp (v 6) (ix (v 3) (un e_int neg_i) (ix_l tD (last_at hlast))) (le_d hr.units (nodct_tI _) (nodct_tI _) (by simp [tI, PySem.W.alike, alike_ints]) nofun (Nat.le_trans (ok_tI b).dep (by decide)))).is (by rw [dlt_rows]; simpa [badAft] using hba))) fun z => nomatch z))) fun z => nomatch z)
        · refine b_one (s_drop (e_append (v 3) mset_same (v 6) mset_same (by simp [tsv]; omega)) ⟨acc ++ [b], _, _, _, by simp; omega, hgo, rfl, ?_⟩)
          rw [mset_mset]
          simp [tsv, brD]
  · rintro ρ' M' ⟨acc, x4, x5, x6, hal, hgo, rfl, rfl⟩
    rw [enD_len, List.length_map] at hal hgo
    rw [List.drop_length] at hgo
    have hgo : rbGo k [] ls = .inr acc := hgo
    obtain ⟨bs, hb, hg, q⟩ : ∃ bs, rbGo k [] ls = .inr bs ∧ GoodB k bs ∧ R (bookV T.Book.C k (sortT bs)) M := by
      rcases hW with ⟨j, hj, _⟩ | h
      · rw [hgo] at hj; cases hj
      · exact h
    rw [hgo] at hb
    injection hb with hb
    subst hb
    refine b_frz 3 rfl (xs := acc.map tI) (by rw [mset_same, tsv_eq]) ?_
    have hmd : mdel (mset M p (.lst (tsv acc))) p = M := by
      funext y
      by_cases e : y = p
      · subst e; rw [mdel_same, hp]
      · rw [mdel_ne e, mset_ne e]
    rw [hmd]
    exact b_one (s_retN (Φ := fun d M' => d = bookV T.Book.C k (sortT acc) ∧ M' = M) (n_new T.Book (ok_init T) (hr.mono (by decide)) (a_cons (v 2) (a_cons (v 3) a_nil)) rfl fun q dx h1 h2 h3 => ⟨q, dx, k, acc, rfl, mset_same, hk1, by omega, hg, by omega, ⟨rfl, bookF k (sortT acc), mset_mset, rfl, rfl⟩⟩) fun d M' hz => ⟨M, by rw [hz.2]; exact MLe.rfl' M, by rw [hz.1]; exact q⟩)
end
end K04
set_option Elab.async false
set_option linter.all false
set_option maxRecDepth 100000
set_option maxHeartbeats 4000000
namespace K04
open PySem PySem.Spec L2 NL
open PyProof.Rows hiding St
open TL (tl)
def wOk (n : Int) : Bool := (!(tl (wN n)).contains 32) && ((!(tl (wN n)).contains 10) && (decide (ntF (wN n) = some n) && ok1 (wN n)))
theorem w_ok {n : Int} (h : 0 ≤ n ∧ n ≤ 12) : 32 ∉ tl (wN n) ∧ 10 ∉ tl (wN n) ∧ ntF (wN n) = some n ∧ ok1 (wN n) = true := by
  have key : ∀ m : Nat, m < 13 → wOk (m : Nat) = true := by decide +kernel
  obtain ⟨m, rfl⟩ : ∃ m : Nat, n = m := ⟨n.toNat, by omega⟩
  have := key m (by omega)
  unfold wOk at this
  simp only [Bool.and_eq_true, Bool.not_eq_true', decide_eq_true_eq] at this
  obtain ⟨h1, h2, h3, h4⟩ := this
  exact ⟨(fun z => by rw [List.contains_iff_mem.mpr z] at h1; exact absurd h1 (by decide)), (fun z => by rw [List.contains_iff_mem.mpr z] at h2; exact absurd h2 (by decide)), h3, h4⟩
theorem mem_joinL {S : List Nat} {x : Nat} : ∀ {ps : List (List Nat)}, x ∈ TL.joinL S ps → x ∈ S ∨ ∃ p ∈ ps, x ∈ p
  | [], h => by cases h
  | [p], h => .inr ⟨p, List.mem_singleton.mpr rfl, h⟩
  | p :: q :: r, h => by
    have h : x ∈ p ++ (S ++ TL.joinL S (q :: r)) := h
    rcases List.mem_append.mp h with h | h
    · exact .inr ⟨p, List.mem_cons_self .., h⟩
    · rcases List.mem_append.mp h with h | h
      · exact .inl h
      · rcases mem_joinL h with h | ⟨y, h1, h2⟩
        · exact .inl h
        · exact .inr ⟨y, List.mem_cons_of_mem _ h1, h2⟩
theorem tl_SP : tl SP = [32] := by decide +kernel
theorem tl_NL : tl NLs = [10] := by decide +kernel
def Good13 (b : Rw) : Prop := ∀ n ∈ b, 0 ≤ n ∧ n ≤ 12
theorem split_lB {b : Rw} (hb : b ≠ []) (h : Good13 b) : Txt.split (lB b) SP = b.map wN :=
  TL.split_join tl_SP (by decide +kernel) (fun e => hb (List.map_eq_nil_iff.mp e)) fun p hp => by
    obtain ⟨n, hn, rfl⟩ := List.mem_map.mp hp
    exact (w_ok (h n hn)).1
theorem lB_no {b : Rw} (h : Good13 b) : 10 ∉ tl (lB b) := fun z => by
  unfold lB at z
  rw [TL.join_eq, TL.tl_join] at z
  rcases mem_joinL z with z | ⟨p, hp, z⟩
  · rw [tl_SP] at z; simp at z
  · obtain ⟨w, hw, rfl⟩ := List.mem_map.mp hp
    obtain ⟨n, hn, rfl⟩ := List.mem_map.mp hw
    exact (w_ok (h n hn)).2.1 z
theorem nt_map {b : Rw} (h : Good13 b) : (b.map wN).map ntF = b.map some := by
  rw [List.map_map]
  exact List.map_congr_left fun n hn => (w_ok (h n hn)).2.2.1
theorem btF_lB {k : Nat} {b : Rw} (hk : 1 ≤ k) (hl : b.length = k) (h : Good13 b) (hz : ∃ n ∈ b, 0 < n) : btF k (lB b) = some b := by
  have hb : b ≠ [] := fun e => by rw [e] at hl; simp at hl; omega
  unfold btF
  rw [split_lB hb h]
  have e1 := nt_map h
  have e2 : ((b.map wN).map fun x => getI (ntF x)) = b := by
    have : ((b.map wN).map fun x => getI (ntF x)) = ((b.map wN).map ntF).map getI := by rw [List.map_map, List.map_map, List.map_map]; rfl
    rw [this, e1, List.map_map]
    have : (getI ∘ some : Int → Int) = id := rfl
    rw [this, List.map_id]
  rw [e2, if_pos]
  refine ⟨by rw [e1, List.length_map, hl], ?_, ?_⟩
  · rw [e1, List.all_map, List.all_eq_true]
    exact fun _ _ => rfl
  · obtain ⟨n, hn, h0⟩ := hz
    rw [List.any_eq_true]
    exact ⟨n, hn, by simp; omega⟩
theorem okL_lB {b : Rw} (hb : b ≠ []) (hl : b.length ≤ 90) (h : Good13 b) : okL (lB b) := by
  refine ⟨?_, ?_, ?_⟩
  · have := lB_len (b := b) fun n hn => by have := h n hn; omega
    omega
  · rw [split_lB hb h, List.length_map]; omega
  · rw [split_lB hb h, List.all_map, List.all_eq_true]
    exact fun n hn => (w_ok (h n hn)).2.2.2
/-- what is asked of a line, as a check -/
def okLb (l : Str) : Bool := decide (l.length ≤ 1000) && (decide ((Txt.split l SP).length ≤ 100) && ((Txt.split l SP).all ok1 && !(tl l).contains 10))
theorem okLb_of {l : Str} (h : okLb l = true) : okL l ∧ 10 ∉ tl l := by
  unfold okLb at h
  simp only [Bool.and_eq_true, Bool.not_eq_true', decide_eq_true_eq] at h
  obtain ⟨h1, h2, h3, h4⟩ := h
  exact ⟨⟨h1, h2, h3⟩, (fun z => by rw [List.contains_iff_mem.mpr z] at h4; exact absurd h4 (by decide))⟩
theorem l0_ok {k : Nat} (h1 : 1 ≤ k) (h4 : k ≤ 4) : ktF (l0F k) = some (k : Int) ∧ okL (l0F k) ∧ 10 ∉ tl (l0F k) := by
  have key : ∀ m : Nat, m < 5 → 1 ≤ m → (decide (ktF (l0F m) = some (m : Int)) && okLb (l0F m)) = true := by decide +kernel
  have := key k (by omega) h1
  rw [Bool.and_eq_true, decide_eq_true_eq] at this
  exact ⟨this.1, okLb_of this.2⟩
theorem split_NL {ls : List Str} (hn : ls ≠ []) (h : ∀ l ∈ ls, 10 ∉ tl l) : Txt.split (Txt.join NLs ls) NLs = ls := TL.split_join tl_NL (by decide +kernel) hn h
structure GoodR (k : Nat) (b : Rw) : Prop where
  len : b.length = k
  g : Good13 b
  nz : ∃ n ∈ b, 0 < n
theorem GoodB.row {k : Nat} {bs : List Rw} (hg : GoodB k bs) {b : Rw} (hb : b ∈ bs) : GoodR k b := ⟨hg.len b hb, hg.nn b hb, hg.nz b hb⟩
theorem aft_ok {as : List Rw} {b : Rw} (h : (as ++ [b]).Pairwise (· < ·)) : badAft as b = false := by
  unfold badAft
  cases as with
  | nil => rfl
  | cons a as =>
    have hl : (a :: as).getLastD [] ∈ a :: as := by
      rw [List.getLastD_eq_getLast?, List.getLast?_eq_getLast (by simp)]
      exact List.getLast_mem _
    have := (List.pairwise_append.mp h).2.2 _ hl b (List.mem_singleton.mpr rfl)
    rw [decide_eq_true this]; rfl
theorem rb_go {k : Nat} (hk : 1 ≤ k) : ∀ (bs acc : List Rw) (ls : List Str), (∀ b ∈ bs, GoodR k b) → (acc ++ bs).Pairwise (· < ·) → rbGo k acc (bs.map lB ++ ls) = rbGo k (acc ++ bs) ls
  | [], acc, ls, _, _ => by simp
  | b :: bs, acc, ls, hg, hp => by
    have hb := hg b (List.mem_cons_self ..)
    have hp2 : ((acc ++ [b]) ++ bs).Pairwise (· < ·) := by rw [List.append_assoc]; exact hp
    rw [List.map_cons, List.cons_append, rbGo_cons, btF_lB hk hb.len hb.g hb.nz]
    simp only []
    rw [aft_ok (List.pairwise_append.mp hp2).1, if_neg (fun z => nomatch z), rb_go hk bs (acc ++ [b]) ls (fun x hx => hg x (List.mem_cons_of_mem _ hx)) hp2]
    simp
theorem rb_all {k : Nat} (hk : 1 ≤ k) {bs : List Rw} (hg : ∀ b ∈ bs, GoodR k b) (hp : bs.Pairwise (· < ·)) : rbGo k [] (bs.map lB) = .inr bs := by
  have := rb_go hk bs [] [] hg (by simpa using hp)
  rw [List.append_nil, List.nil_append] at this
  rw [this]; rfl
theorem rb_bad {k : Nat} (hk : 1 ≤ k) {bs : List Rw} {l : Str} {ls : List Str} (hg : ∀ b ∈ bs, GoodR k b) (hp : bs.Pairwise (· < ·)) (h : btF k l = none ∨ ∃ b, btF k l = some b ∧ badAft bs b = true) : rbGo k [] (bs.map lB ++ l :: ls) = .inl (1 + bs.length : Nat) := by
  rw [rb_go hk bs [] _ hg (by simpa using hp), List.nil_append, rbGo_cons]
  rcases h with h | ⟨b, h, h2⟩
  · rw [h]
  · rw [h]
    simp only []
    rw [if_pos h2]
theorem bad_last {as : List Rw} {a b : Rw} (h : ¬ a < b) : badAft (as ++ [a]) b = true := by
  unfold badAft
  have e : (as ++ [a]).getLastD [] = a := by rw [List.getLastD_eq_getLast?]; simp
  rw [e, decide_eq_false h]
  simp
theorem join_snoc {ls : List Str} (h : ls ≠ []) : Txt.join NLs ls ++ NLs = Txt.join NLs (ls ++ [("" : Str)]) := by
  have key : ∀ (S : List Nat) (ps : List (List Nat)), ps ≠ [] → TL.joinL S ps ++ S = TL.joinL S (ps ++ [[]]) := by
    intro S ps
    induction ps with
    | nil => exact fun h => absurd rfl h
    | cons p ps ih =>
      intro _
      cases ps with
      | nil => show p ++ S = p ++ (S ++ []); simp
      | cons q r =>
        show (p ++ (S ++ TL.joinL S (q :: r))) ++ S = p ++ (S ++ TL.joinL S (q :: r ++ [[]]))
        rw [← ih (by simp)]
        simp
  have ht : tl (Txt.join NLs ls ++ NLs) = tl (Txt.join NLs (ls ++ [("" : Str)])) := by
    rw [TL.tl_append, TL.join_eq, TL.join_eq, TL.tl_join, TL.tl_join, key _ _ (fun e => h (List.map_eq_nil_iff.mp e)), List.map_append]
    rfl
  exact TL.ext_tl ht
def Rd (d : D) (fail : Int → Prop) (good : Nat → List Rw → Prop) : Prop := ((∀ s, d ≠ .str s) ∧ fail 0) ∨ ∃ (x l0 : Str) (ls : List Str), d = .str x ∧ x.length ≤ 100000 ∧ Txt.split x NLs = l0 :: ls ∧ okL l0 ∧ (∀ l ∈ ls, okL l) ∧ ls.length ≤ 30 ∧
  ((ktF l0 = none ∧ fail 0) ∨ ∃ k : Nat, ktF l0 = some (k : Int) ∧ 1 ≤ k ∧ k ≤ 100 ∧ ((∃ i, rbGo k [] ls = .inl i ∧ fail i) ∨ ∃ bs, rbGo k [] ls = .inr bs ∧ GoodB k bs ∧ good k (sortT bs)))
theorem Rd.imp {d : D} {f f' : Int → Prop} {g g' : Nat → List Rw → Prop} (h : Rd d f g) (hf : ∀ i, f i → f' i) (hg : ∀ k bs, g k bs → g' k bs) : Rd d f' g' := by
  rcases h with ⟨h1, h2⟩ | ⟨x, l0, ls, h1, h2, h3, h4, h5, h6, h7⟩
  · exact .inl ⟨h1, hf _ h2⟩
  · refine .inr ⟨x, l0, ls, h1, h2, h3, h4, h5, h6, ?_⟩
    rcases h7 with ⟨h7, h8⟩ | ⟨k, h7, h8, h9, h10⟩
    · exact .inl ⟨h7, hf _ h8⟩
    · refine .inr ⟨k, h7, h8, h9, ?_⟩
      rcases h10 with ⟨i, h10, h11⟩ | ⟨bs, h10, h11, h12⟩
      · exact .inl ⟨i, h10, hf _ h11⟩
      · exact .inr ⟨bs, h10, h11, hg _ _ h12⟩
/-- a text of lines, none longer than so many -/
theorem rd_lines {l0 : Str} {ls : List Str} {f : Int → Prop} {g : Nat → List Rw → Prop} (h0 : okL l0) (n0 : 10 ∉ tl l0) (hl : ∀ l ∈ ls, okL l ∧ 10 ∉ tl l) (hn : ls.length ≤ 30)
    (h : (ktF l0 = none ∧ f 0) ∨ ∃ k : Nat, ktF l0 = some (k : Int) ∧ 1 ≤ k ∧ k ≤ 100 ∧ ((∃ i, rbGo k [] ls = .inl i ∧ f i) ∨ ∃ bs, rbGo k [] ls = .inr bs ∧ GoodB k bs ∧ g k (sortT bs))) : Rd (.str (Txt.join NLs (l0 :: ls))) f g := by
  refine .inr ⟨_, l0, ls, rfl, ?_, split_NL (by simp) fun l hl' => ?_, h0, fun l hl' => (hl l hl').1, hn, h⟩
  · have := join_le (B := 1000) (s := NLs) (ys := l0 :: ls) fun y hy => by
      rcases List.mem_cons.mp hy with rfl | hy
      · exact h0.1
      · exact (hl y hy).1.1
    have e : NLs.length = 1 := by decide
    rw [e, List.length_cons] at this
    omega
  · rcases List.mem_cons.mp hl' with rfl | hl'
    · exact n0
    · exact (hl l hl').2
end K04
set_option Elab.async false
set_option linter.all false
set_option maxRecDepth 100000
set_option maxHeartbeats 4000000
namespace K04
open PySem PySem.Spec L2 NL
open PyProof.Rows hiding St
open TL (tl)
abbrev s_xT : Stmt := inClass (topS 3) 0
theorem sc_xT : FnScope ["self", "at"] ["self", "at"] (defScope s_xT) := ⟨rfl, rfl, rfl, by decide +kernel, rfl, by decide +kernel, by decide +kernel⟩
section
variable {P : Program} {w : World} {K : PySem.W.Frag} {mg : Str → Option Value} {base : Heap}
theorem ok_xT (TE : ExcD K mg "InvalidText" "InvalidText.__init__" s_xT) : FnOk P w K mg base CX0 1 TE.f TE.fd ["self", "at"] (spAt TE.C) := by
  refine TE.F.ok sc_xT (fun vs H Q E h => ?_) (fun cdv A outer s H vs Q E hr h => ?_)
  · obtain ⟨a, v, rfl, _⟩ := h
    rfl
  · obtain ⟨a, v, rfl, ha, k⟩ := h
    exact ⟨_, pss_one (ps_ost (pv 0) (pv 1) rfl), _, rfl, _, rfl, a, TE.C, rfl, TE.cl, TE.no, .inl ⟨ha, k⟩⟩
end
/-- the error, keywords, == of books, the module's constants -/
structure Tx (K : PySem.W.Frag) (mg : Str → Option Value) (T : Txt K mg) where
  ET : ExcK K mg "InvalidText" "InvalidText.__init__" s_xT
  mTT : PySem.W.exmOne K (.ref ET.C) (.ref ET.C) = some true
  qf : Addr
  qd : FuncData
  qF : FunX K "__eq__" "Book.__eq__" s_Book_eq qf qd
  qb : Binds K qd A_Book_eq []
  own : OwnEq K T.Book.C qf
  isx : IsX K T.Book.C
  kB : PySem.W.kitOne K (.ref T.Book.C) (.ref T.Book.C) = some true
  kbR : KBn K T.p_read_book.fd A_p_read_book 0 ["text"] (fun us ws => us ++ ws.reverse) (fun vs zs => vs ++ zs.reverse)
  kbT : KBn K T.p_book_text.fd A_p_book_text 0 ["book"] (fun us ws => us ++ ws.reverse) (fun vs zs => vs ++ zs.reverse)
theorem relA_rev {K : PySem.W.Frag} {S : Hp} : ∀ {xs : List SV} {vs : List V}, RelA K S xs vs → RelA K S xs.reverse vs.reverse
  | [], _, h => by
    have h' : _ = [] := h
    subst h'
    exact rfl
  | x :: xs, _, h => by
    obtain ⟨v, r, e, h2, h3⟩ := h
    subst e
    rw [List.reverse_cons, List.reverse_cons]
    exact (relA_rev h3).app ⟨v, [], rfl, h2, rfl⟩
theorem eq_tT {X : Cx} {G : Gh} {M : MM} {a b : List (List Int)} (hu : X.A.units + 64 < cLine) : J2 X G (compareOp .Eq) M (.d (.tuple (a.map tI))) (.d (.tuple (b.map tI))) (.d (.bool (decide (a = b)))) M := by
  have ok : ∀ xs : List (List Int), fine (.tuple (xs.map tI)) = true := fun xs => (ok_tup (k := 1) fun d hd => by
    obtain ⟨t, _, rfl⟩ := List.mem_map.mp hd
    exact ok_tI t).fine
  have e : PyData.eqv (.tuple (a.map tI)) (.tuple (b.map tI)) = decide (a = b) := by
    have := eqv_lT a b
    unfold lT at this
    rw [← this]
    simp [PyData.eqv]
  rw [← e]
  exact eq_d hu (ok a) (ok b)
section
variable {P : Program} {w : World} {K : PySem.W.Frag} {mg : Str → Option Value} {base : Heap}
def W_eq (T : Txt K mg) : Wp := fun ds M R => ∃ (k : Nat) (ys : List (List Int)) (k2 : Nat) (zs : List (List Int)), ds = [bookV T.Book.C k ys, bookV T.Book.C k2 zs] ∧ R (.d (.bool (decide (k = k2) && decide (ys = zs)))) M
theorem ok_eq {T : Txt K mg} (E : Tx K mg T) : FnG P w K mg base CX0 1 E.qf E.qd A_Book_eq (spN K 2 (W_eq T)) := by
  refine fn_ok E.qF sc_Book_eq fun cdv A outer s H Ez G ds M R hr hl hW => ?_
  obtain ⟨k, ys, k2, zs, rfl, q⟩ := hW
  exact b_one (ret (d := .d (.bool (true && (decide (k = k2) && decide (ys = zs))))) (e_and (k := true) (callB (a_cons (v 1) (a_cons (e_glob rfl T.Book.g (v := .ref T.Book.C) rfl) a_nil)) (c_isiI T.Book.cl E.isx E.kB) T.z_isinstance) (fun _ => e_and (k := decide (k = k2)) ((cmp (e_fld (fs := bookF k ys) (v 0) T.Book.cl T.nKinds rfl) (e_fld (fs := bookF k2 zs) (v 1) T.Book.cl T.nKinds rfl) eq_i).is (by simp; omega)) (fun _ => e_one (cmp (e_fld (fs := bookF k ys) (v 0) T.Book.cl T.nBatches rfl) (e_fld (fs := bookF k2 zs) (v 1) T.Book.cl T.nBatches rfl) (eq_tT hr.units))) fun _ => rfl) fun h => nomatch h) q)
theorem nB {T : Txt K mg} (E : Tx K mg T) {X : Cx} {M : MM} {G : Gh} {k1 k2 : Nat} {ys zs : List (List Int)} (e1 : X.prog = P) (e2 : X.w = w) (e3 : X.K = K) (e4 : X.mg = mg) (e5 : X.base = base) (rm : Rm 2 X.A) : J2 X G (compareOp .NotEq) M (bookV T.Book.C k1 ys) (bookV T.Book.C k2 zs) (.d (.bool (!(decide (k1 = k2) && decide (ys = zs))))) M := by
  subst e1 e2 e3 e4 e5
  have nfI : PySem.W.notFirst X.K T.Book.C (.ref T.Book.C) = true := by simp [PySem.W.notFirst]
  exact ne_own (ok_eq E) E.qb rm E.own rfl nfI fun R' h => ⟨_, _, _, _, rfl, h⟩
theorem eB {T : Txt K mg} (E : Tx K mg T) {X : Cx} {M : MM} {G : Gh} {k1 k2 : Nat} {ys zs : List (List Int)} (e1 : X.prog = P) (e2 : X.w = w) (e3 : X.K = K) (e4 : X.mg = mg) (e5 : X.base = base) (rm : Rm 1 X.A) : J2 X G (compareOp .Eq) M (bookV T.Book.C k1 ys) (bookV T.Book.C k2 zs) (.d (.bool (decide (k1 = k2) && decide (ys = zs)))) M := by
  subst e1 e2 e3 e4 e5
  have nfI : PySem.W.notFirst X.K T.Book.C (.ref T.Book.C) = true := by simp [PySem.W.notFirst]
  exact eq_own (ok_eq E) E.qb rm E.own rfl nfI fun R' h => ⟨_, _, _, _, rfl, h⟩
def W_read (T : Txt K mg) : Wp := fun ds M R => ∃ (d : D), ds = [.d d] ∧ Rd d (fun i => R (.d (.int i)) M) (fun k bs => R (bookV T.Book.C k bs) M)
theorem ok_read {T : Txt K mg} (E : Tx K mg T) (CN : Cn K mg) : FnG P w K mg base CX0 14 T.read.f T.read.fd A_read (spN K 1 (W_read T)) := by
  refine fn_ok T.read.F sc_read fun cdv A outer s H Ez G ds M R hr hl hW => ?_
  obtain ⟨d, rfl, hW⟩ := hW
  refine b_one (s_try (x := "InvalidText") (n := "wrong") (c := .ref E.ET.C) (EX := fun C d' ρ' M' => C = E.ET.C ∧ ∃ i, d' = .int i ∧ M' = M ∧ ρ' = rho0 N_read [.d d] ∧ R (.d (.int i)) M) (EO := EX0) 1 ⟨rfl, by decide, .inl E.ET.g⟩ NL.takes0 NL.fits0 (fun pn xe W tk po fx => ?_) (fun C d' ρ' M' z => ?_) sc_read.nd)
  · refine b_one (retN (n_kwX (zs := [.d d]) (gS := List.reverse) T.p_read_book (ok_rb T CN E.ET.toExcD (ok_xT E.ET.toExcD)) (hr.mono (by decide)) tk fx E.kbR (k_cons (v 0) k_nil) (fun {S vs} r => relA_rev r) rfl ⟨d, rfl, ?_⟩))
    exact Rd.imp (f' := fun i => (E.ET.C = E.ET.C ∧ ∃ j, PyData.int i = .int j ∧ M = M ∧ rho0 N_read [.d d] = rho0 N_read [.d d] ∧ R (.d (.int j)) M)) (g' := fun k bs => (pEnd R).rt (bookV T.Book.C k bs) M) hW (fun i h => ⟨rfl, i, rfl, rfl, rfl, h⟩) fun k bs h => h
  · obtain ⟨rfl, i, rfl, rfl, rfl, q⟩ := z
    refine ⟨true, E.mTT, fun _ a dd oe pn hz hf => ?_, fun h => nomatch h⟩
    exact b_one (ret (e_at E.ET.xf E.ET.no hz hf (v 1)) q)
def strD : D → Str
  | .str s => s
  | _ => ""
def L0 : List Str := ["", "kinds", "kinds ", "kinds 0", "kinds 01", "kinds x", "Kinds 2", "kinds  2", "kinds 2 2", "kinds 100", "2"]
def ones (k : Nat) : List Str := List.replicate k "1"
def w1 (s : Str) : List Str := [s]
def WS (k : Nat) : List (List Str) :=
  [ones k ++ w1 "1", (ones k).drop 1, w1 "01" ++ (ones k).drop 1, w1 "-1" ++ (ones k).drop 1, w1 "x" ++ (ones k).drop 1, w1 "" ++ (ones k).drop 1, w1 "100" ++ (ones k).drop 1, List.replicate k "0"] ++ [ones k ++ w1 "", w1 " 1" ++ (ones k).drop 1]
def lS (ws : List Str) : D := .list (ws.map PyData.str)
def strsD : D → List Str
  | .list ds => ds.map strD
  | _ => []
theorem strs_lS (ws : List Str) : strsD (lS ws) = ws := by
  show (ws.map PyData.str).map strD = ws
  rw [List.map_map]
  have : (strD ∘ PyData.str) = id := rfl
  rw [this, List.map_id]
theorem L0_bad : ∀ l ∈ L0, ktF l = none ∧ okL l ∧ 10 ∉ tl l := by
  have key : ∀ l ∈ L0, (decide (ktF l = none) && okLb l) = true := by decide +kernel
  intro l hl
  have := key l hl
  rw [Bool.and_eq_true, decide_eq_true_eq] at this
  exact ⟨this.1, okLb_of this.2⟩
theorem WS_bad {k : Nat} (h1 : 1 ≤ k) (h4 : k ≤ 4) : ∀ ws ∈ WS k, btF k (Txt.join SP ws) = none ∧ okL (Txt.join SP ws) ∧ 10 ∉ tl (Txt.join SP ws) := by
  have key : ∀ m : Nat, m < 5 → 1 ≤ m → ∀ ws ∈ WS m, (decide (btF m (Txt.join SP ws) = none) && okLb (Txt.join SP ws)) = true := by decide +kernel
  intro ws hw
  have := key k (by omega) h1 ws hw
  rw [Bool.and_eq_true, decide_eq_true_eq] at this
  exact ⟨this.1, okLb_of this.2⟩
theorem WS_len {k : Nat} (h1 : 1 ≤ k) (h4 : k ≤ 4) : ∀ ws ∈ WS k, (ws.map (·.length)).sum + ws.length * SP.length ≤ 1000 := by
  have key : ∀ m : Nat, m < 5 → 1 ≤ m → ∀ ws ∈ WS m, decide ((ws.map (·.length)).sum + ws.length * SP.length ≤ 1000) = true := by decide +kernel
  exact fun ws hw => of_decide_eq_true (key k (by omega) h1 ws hw)
/-- the line that stands in another one's place, and the deal behind it -/
def lineR (k : Nat) (bs : List Rw) (i : Nat) (dl : Deal) : Str × Deal :=
  if i = 0 then (strD (pickD (L0.map PyData.str) dl), pickN (L0.map PyData.str) dl)
  else if i = 1 then (Txt.join SP (strsD (pickD ((WS k).map lS) dl)), pickN ((WS k).map lS) dl)
  else if (anyR dl 2).1 = 0 then ((linesF k bs).getD (i - 1) "", (anyR dl 2).2)
  else (Txt.join SP (strsD (pickD ((WS k).map lS) (anyR dl 2).2)), pickN ((WS k).map lS) (anyR dl 2).2)
theorem e_of {T : Txt K mg} {X : Cx} {G : Gh} {ρ : List SV} {a b : Addr} {M0 : MM} {dl : Deal} {e1 e2 : Expr} {pos p : Pos} {L : List D} (eK : X.K = K) (em : X.mg = mg) (hr : Rm 2 X.A) (h1 : jE X G e1 ρ (dput M0 a b dl) (.o a) (dput M0 a b dl)) (h2 : jE X G e2 ρ (dput M0 a b dl) (.d (.list L)) (dput M0 a b dl)) (hba : b ≠ a) (hd : dl.Ok) (hn : 0 < L.length) (hn2 : L.length < 1000)
    (hg : Gl X "_law_of" := by rfl) (s1 : starEach (e1 :: [e2]) X.env = (false, eval e1 X.env) :: starEach [e2] X.env := by rfl) (s2 : starEach [e2] X.env = (false, eval e2 X.env) :: starEach [] X.env := by rfl) (hpl : (backTo pos (starEach [e2] X.env)).any (·.1) = false := by rfl) :
    jE X G (.Call (.Name "_law_of" p) (e1 :: [e2]) [] pos) ρ (dput M0 a b dl) (.d (pickD L dl)) (dput M0 a b (pickN L dl)) := by
  subst eK em
  have hlen : (L.map SV.d).length = L.length := by simp
  refine call T.of (ok_of T) hr (a_cons h1 (a_cons h2 a_nil s2) s1) (fun R' h => ⟨a, b, M0, dl, .d (.list L), L.map SV.d, rfl, nofun, hba, rfl, hd, fun _ => ls_d, by rw [hlen]; exact hn, by rw [hlen]; omega, fun d hd2 => ?_⟩) rfl hg (by decide) s1 hpl
  obtain ⟨hi, rfl⟩ := map_at (f := id) (xs := L) PyData.none (by rw [List.map_id]; exact hd2)
  rw [hlen]
  exact h
def W_line : Wp := fun ds M R => ∃ (a b : Addr) (M0 : MM) (dl : Deal) (k : Nat) (bs : List Rw) (i : Nat), ds = [.o a, .d (.int (k : Nat)), .d (.list ((linesF k bs).map PyData.str)), .d (.int (i : Nat))] ∧ b ≠ a ∧ M = dput M0 a b dl ∧ dl.Ok ∧ 1 ≤ k ∧ k ≤ 4 ∧ i ≤ bs.length ∧ bs.length ≤ 30 ∧ R (.d (.str (lineR k bs i dl).1)) (dput M0 a b (lineR k bs i dl).2)
set_option maxHeartbeats 16000000 in
theorem ok_line (T : Txt K mg) : FnG P w K mg base CX0 3 T.line.f T.line.fd A_line (spN K 4 W_line) := by
  refine fn_ok T.line.F sc_line fun cdv A outer s0 H E G ds M R hr hl hW => ?_
  obtain ⟨a, b, M0, dl, k, bs, i, rfl, hba, rfl, hd, hk1, hk4, hi, hbl, q⟩ := hW
  have strOf : ∀ {L : List Str} {d : D}, d ∈ L.map PyData.str → d = .str (strD d) ∧ strD d ∈ L := fun {L d} h => by
    obtain ⟨s, hs, rfl⟩ := List.mem_map.mp h
    exact ⟨rfl, hs⟩
  unfold lineR at q
  by_cases hi0 : i = 0
  · subst hi0
    rw [if_pos rfl] at q
    have hp := pick_in (L := L0.map PyData.str) hd (by decide)
    refine b_cons (s_if (k := true) ((tcmp (v 3) e_int eq_i).is rfl) (fun _ => b_one (ret (d := .d (.str (strD (pickD (L0.map PyData.str) dl)))) ((e_of (T := T) (L := L0.map PyData.str) rfl rfl (hr.mono (by decide)) (v 0) (e_ofL' (xs := L0.map PyData.str) (e_lst (a_cons e_str (a_cons e_str (a_cons e_str (a_cons e_str (a_cons e_str (a_cons e_str (a_cons e_str (a_cons e_str (a_cons e_str (a_cons e_str (a_cons e_str a_nil)))))))))))) rfl) hba hd (by decide) (by decide)).is (by rw [← (strOf hp.1).1])) q)) fun z => nomatch z)
  rw [if_neg hi0] at q
  refine b_cons (s_if (k := false) ((tcmp (v 3) e_int eq_i).is (decide_eq_false (by omega))) (fun z => nomatch z) fun _ => b_nil ?_)
  -- the last part
  have last : ∀ d2 : Deal, d2.Ok → R (.d (.str (Txt.join SP (strsD (pickD ((WS k).map lS) d2))))) (dput M0 a b (pickN ((WS k).map lS) d2)) →
      jB (cxOf CX0 P w K mg base N_line "_law_line" (defScope s_line) T.line.f cdv A outer s0 H E).nox G ((defBody s_line).drop 2) (rho0 N_line [.o a, .d (.int (k : Nat)), .d (.list ((linesF k bs).map PyData.str)), .d (.int (i : Nat))]) (dput M0 a b d2) (pEnd R) := fun d2 hd2 q => by
    have hrep : ∀ x : Str, (List.replicate ((k : Nat) : Int).toNat [SV.d (.str x)]).flatten = (((List.replicate k x).map PyData.str)).map SV.d := fun x => by simp
    refine b_cons (st 4 (d := .d (.list ((ones k).map PyData.str))) (M1 := dput M0 a b d2) (e_ofL' (xs := (ones k).map PyData.str) (binL (e_ofL (xs := [.str "1"]) (e_lst (a_cons e_str a_nil))) (v 1) (rep_l ls_d (by omega) (by omega) (by simp; omega))) (hrep "1")) ?_ sc_line.nd)
    refine b_cons (st 5 (d := .d (.list ((WS k).take 8 |>.map lS))) (M1 := dput M0 a b d2) ((e_ofL (xs := (WS k).take 8 |>.map lS) (e_lst (a_cons ((cat_ll (v 4) (e_ofL (xs := [.str "1"]) (e_lst (a_cons e_str a_nil))) (by simp [ones]; omega)).is (d' := .d (lS (ones k ++ w1 "1"))) (by simp [lS, w1]))
      (a_cons ((l_from (j := 1) (v 4) e_int (by simp [ones]; omega)).is (d' := .d (lS ((ones k).drop 1))) (by simp [lS, List.map_drop]))
      (a_cons ((cat_ll (e_ofL (xs := [.str "01"]) (e_lst (a_cons e_str a_nil))) (l_from (j := 1) (v 4) e_int (by simp [ones]; omega)) (by simp [ones]; omega)).is (d' := .d (lS (w1 "01" ++ (ones k).drop 1))) (by simp [lS, w1, List.map_drop]))
      (a_cons ((cat_ll (e_ofL (xs := [.str "-1"]) (e_lst (a_cons e_str a_nil))) (l_from (j := 1) (v 4) e_int (by simp [ones]; omega)) (by simp [ones]; omega)).is (d' := .d (lS (w1 "-1" ++ (ones k).drop 1))) (by simp [lS, w1, List.map_drop]))
      (a_cons ((cat_ll (e_ofL (xs := [.str "x"]) (e_lst (a_cons e_str a_nil))) (l_from (j := 1) (v 4) e_int (by simp [ones]; omega)) (by simp [ones]; omega)).is (d' := .d (lS (w1 "x" ++ (ones k).drop 1))) (by simp [lS, w1, List.map_drop]))
      (a_cons ((cat_ll (e_ofL (xs := [.str ""]) (e_lst (a_cons e_str a_nil))) (l_from (j := 1) (v 4) e_int (by simp [ones]; omega)) (by simp [ones]; omega)).is (d' := .d (lS (w1 "" ++ (ones k).drop 1))) (by simp [lS, w1, List.map_drop]))
      (a_cons ((cat_ll (e_ofL (xs := [.str "100"]) (e_lst (a_cons e_str a_nil))) (l_from (j := 1) (v 4) e_int (by simp [ones]; omega)) (by simp [ones]; omega)).is (d' := .d (lS (w1 "100" ++ (ones k).drop 1))) (by simp [lS, w1, List.map_drop]))
      (a_cons ((e_ofL (xs := (List.replicate k ("0" : Str)).map PyData.str) ((binL (e_ofL (xs := [.str "0"]) (e_lst (a_cons e_str a_nil))) (v 1) (rep_l ls_d (by omega) (by omega) (by simp; omega))) |> fun z => (hrep "0") ▸ z)).is (d' := .d (lS (List.replicate k "0"))) rfl)
      a_nil))))))))))) ?_ sc_line.nd)
    have hp := pick_in (L := (WS k).map lS) hd2 (by simp [WS])
    obtain ⟨ws, hws, hwe⟩ : ∃ ws ∈ WS k, pickD ((WS k).map lS) d2 = lS ws := by
      obtain ⟨ws, h1, h2⟩ := List.mem_map.mp hp.1
      exact ⟨ws, h1, h2.symm⟩
    have hsz := WS_len hk1 hk4 ws hws
    refine b_one (ret (e_join (a := SP) (ys := strsD (pickD ((WS k).map lS) d2)) (M2 := dput M0 a b (pickN ((WS k).map lS) d2)) e_str (e_of (T := T) (L := (WS k).map lS) rfl rfl (hr.mono (by decide)) (v 0) ((cat_ll (v 5) (e_ofL (xs := [lS (ones k ++ w1 ""), lS (w1 " 1" ++ (ones k).drop 1)]) (e_lst (a_cons ((cat_ll (v 4) (e_ofL (xs := [.str ""]) (e_lst (a_cons e_str a_nil))) (by simp [ones]; omega)).is (d' := .d (lS (ones k ++ w1 ""))) (by simp [lS, w1])) (a_cons ((cat_ll (e_ofL (xs := [.str " 1"]) (e_lst (a_cons e_str a_nil))) (l_from (j := 1) (v 4) e_int (by simp [ones]; omega)) (by simp [ones]; omega)).is (d' := .d (lS (w1 " 1" ++ (ones k).drop 1))) (by simp [lS, w1, List.map_drop])) a_nil)))) (by simp [WS])).is (by simp [WS])) hba hd2 (by simp [WS]) (by simp [WS])) ?_ ?_) q)
    · rw [hwe, strs_lS]
      have h := ls_d (M := dput M0 a b (pickN ((WS k).map lS) d2)) (ds := ws.map PyData.str)
      rwa [show (ws.map PyData.str).map SV.d = ws.map fun s => SV.d (.str s) from by rw [List.map_map]; rfl] at h
    · rw [hwe, strs_lS]; omega
  by_cases hi1 : i = 1
  · rw [if_pos hi1] at q
    exact b_cons (s_if (k := false) (t_ofW (w_and (k := false) (k2 := true) ((tcmp (v 3) e_int gt_i).is (decide_eq_false (by omega))) (fun z => nomatch z) fun _ => rfl)) (fun z => nomatch z) fun _ => b_nil (last dl hd q))
  rw [if_neg hi1] at q
  obtain ⟨f0, f1, hd2⟩ := anyR_ok hd (n := 2) (by decide)
  obtain ⟨o, ho⟩ : ∃ o, (anyR dl 2).1 = o := ⟨_, rfl⟩
  obtain ⟨d2, hd2e⟩ : ∃ d2, d2 = (anyR dl 2).2 := ⟨_, rfl⟩
  rw [← hd2e] at hd2 q
  rw [ho] at q
  have any : ∀ {ρ : List SV} (R' : SV → MM → Prop), R' (.d (.int o)) (dput M0 a b d2) → W_any [.o a, .d (.int 2)] (dput M0 a b dl) R' := fun {ρ} R' h => ⟨a, b, M0, dl, _, rfl, hba, rfl, hd, by decide, by decide, by rw [ho, ← hd2e]; exact h⟩
  refine b_cons (s_if (k := decide (o = 0)) (M1 := dput M0 a b d2) ((t_ofW (w_and (k := true) (k2 := decide (o = 0)) ((tcmp (v 3) e_int gt_i).is (decide_eq_true (by omega))) (fun _ => w_and1 (tcmp (call T.any (ok_any T) (hr.mono (by decide)) (a_cons (v 0) (a_cons e_int a_nil)) fun R' h => any (ρ := []) R' h) e_int eq_i)) fun z => nomatch z)).is (Bool.true_and _)) (fun h => ?_) fun h => b_nil ?_)
  · rw [if_pos (of_decide_eq_true h)] at q
    have hlt : i - 1 < (linesF k bs).length := by simp [linesF]; omega
    refine b_one (ret (ix (v 2) ((bin (v 3) e_int sub_i).is (d' := .d (.int ((i - 1 : Nat) : Int))) (by congr 2; omega)) (ix_l (ls_d (ds := (linesF k bs).map PyData.str)) ?_)) q)
    rw [List.map_map]
    exact atI_map (fun s => SV.d (.str s)) (linesF k bs) "" hlt
  · rw [if_neg (of_decide_eq_false h)] at q
    exact last d2 hd2 q
end
end K04
set_option Elab.async false
set_option linter.all false
set_option maxRecDepth 100000
set_option maxHeartbeats 4000000
namespace NL
open PySem PySem.Spec L2
open PyProof.Rows hiding St
/-- what never raises, as what may -/
theorem fnToX' {P : Program} {w : World} {K : PySem.W.Frag} {mg : Str → Option Value} {base : Heap} {k n : Nat} {f : Addr} {fd : FuncData} {ps : List Str} {W : Wp} (F : FnG P w K mg base CX0 k f fd ps (spN K n W)) : FnG P w K mg base (L2.CX P w) k f fd ps (spX K n fun ds M R _ => W ds M R) := by
  refine ⟨fun vs H Q E h => ?_, fun A up s H as us vs Q E gd rm env bd rel h => ?_⟩
  · obtain ⟨S, ds, M, R, RE, r, hl, hs, hw, q, qe⟩ := h
    exact F.len vs H Q E ⟨S, ds, M, R, r, hl, hs, hw, q⟩
  · obtain ⟨S, ds, M, R, RE, r, hl, hs, hw, q, qe⟩ := h
    refine codeAny_mono (F.run A up s H as us vs Q E gd rm env bd rel ⟨S, ds, M, R, r, hl, hs, hw, q⟩) fun r s' z => ?_
    cases r with
    | error e => exact z.elim
    | ok fl => cases fl <;> exact z
end NL
set_option Elab.async false
set_option linter.all false
set_option maxRecDepth 100000
set_option maxHeartbeats 8000000
namespace K04
open PySem PySem.Spec L2 NL
open PyProof.Rows hiding St
open TL (tl)
theorem lexLe_lt : ∀ {a b : Rw}, lexLe a b = true → a ≠ b → a < b
  | [], [], _, h => absurd rfl h
  | [], y :: b, _, _ => List.nil_lt_cons _ _
  | x :: a, [], h, _ => by cases h
  | x :: a, y :: b, h, hn => by
    simp only [lexLe, Bool.or_eq_true, Bool.and_eq_true, decide_eq_true_eq] at h
    rcases h with h | ⟨rfl, h⟩
    · exact List.cons_lt_cons_iff.mpr (.inl h)
    · exact List.cons_lt_cons_iff.mpr (.inr ⟨rfl, lexLe_lt h fun e => hn (by rw [e])⟩)
theorem srt_lt {k : Nat} {bs : List Rw} (hg : GoodB k bs) (hs : Srt bs) : bs.Pairwise (· < ·) := by
  have h : bs.Pairwise fun a b => lexLe a b = true := hs
  have n : bs.Pairwise (· ≠ ·) := hg.nd
  exact (h.and n).imp fun z => lexLe_lt z.1 z.2
theorem btF_nil {k : Nat} (h1 : 1 ≤ k) (h4 : k ≤ 4) : btF k "" = none := by
  have key : ∀ m : Nat, m < 5 → 1 ≤ m → btF m "" = none := by decide +kernel
  exact key k (by omega) h1
theorem nil_ok : okL "" ∧ 10 ∉ tl ("" : Str) := okLb_of (by decide +kernel)
theorem bad_self {as : List Rw} {a : Rw} : badAft (as ++ [a]) a = true := bad_last (List.lt_irrefl _)
/-- what stands in another line's place -/
theorem lineR_bad {k : Nat} {bs : List Rw} {i : Nat} {dl : Deal} (hk1 : 1 ≤ k) (hk4 : k ≤ 4) (hg : GoodB k bs) (hi : i ≤ bs.length) (hd : dl.Ok) :
    okL (lineR k bs i dl).1 ∧ 10 ∉ tl (lineR k bs i dl).1 ∧ (i = 0 → ktF (lineR k bs i dl).1 = none) ∧ (1 ≤ i → btF k (lineR k bs i dl).1 = none ∨ (2 ≤ i ∧ (lineR k bs i dl).1 = lB (bs.getD (i - 2) []))) ∧ (lineR k bs i dl).2.Ok := by
  have wsb : ∀ d2 : Deal, d2.Ok → btF k (Txt.join SP (strsD (pickD ((WS k).map lS) d2))) = none ∧ okL (Txt.join SP (strsD (pickD ((WS k).map lS) d2))) ∧ 10 ∉ tl (Txt.join SP (strsD (pickD ((WS k).map lS) d2))) ∧ (pickN ((WS k).map lS) d2).Ok := fun d2 hd2 => by
    have hp := pick_in (L := (WS k).map lS) hd2 (by simp [WS])
    obtain ⟨ws, h1, h2⟩ := List.mem_map.mp hp.1
    rw [← h2, strs_lS]
    obtain ⟨b1, b2, b3⟩ := WS_bad hk1 hk4 ws h1
    exact ⟨b1, b2, b3, hp.2⟩
  unfold lineR
  by_cases hi0 : i = 0
  · rw [if_pos hi0]
    have hp := pick_in (L := L0.map PyData.str) hd (by decide)
    obtain ⟨s, h1, h2⟩ := List.mem_map.mp hp.1
    obtain ⟨b1, b2, b3⟩ := L0_bad s h1
    rw [← h2]
    exact ⟨b2, b3, fun _ => b1, fun h => by omega, hp.2⟩
  · rw [if_neg hi0]
    by_cases hi1 : i = 1
    · rw [if_pos hi1]
      obtain ⟨b1, b2, b3, b4⟩ := wsb dl hd
      exact ⟨b2, b3, fun h => absurd h hi0, fun _ => .inl b1, b4⟩
    · rw [if_neg hi1]
      obtain ⟨_, _, hd2⟩ := anyR_ok hd (n := 2) (by decide)
      by_cases ho : (anyR dl 2).1 = 0
      · rw [if_pos ho]
        have e : (linesF k bs).getD (i - 1) "" = lB (bs.getD (i - 2) []) := by
          obtain ⟨j, rfl⟩ : ∃ j, i = j + 2 := ⟨i - 2, by omega⟩
          have hj : j < bs.length := by omega
          show (l0F k :: bs.map lB).getD (j + 1) "" = lB (bs.getD j [])
          simp [List.getD, hj]
        have hm : bs.getD (i - 2) [] ∈ bs := getD_in (by omega)
        have hr := hg.row hm
        rw [e]
        refine ⟨okL_lB (fun z => ?_) (by rw [hr.len]; omega) hr.g, lB_no hr.g, fun h => absurd h hi0, fun _ => .inr ⟨by omega, rfl⟩, hd2⟩
        have := hr.len
        rw [z] at this
        simp at this; omega
      · rw [if_neg ho]
        obtain ⟨b1, b2, b3, b4⟩ := wsb _ hd2
        exact ⟨b2, b3, fun h => absurd h hi0, fun _ => .inl b1, b4⟩
theorem lB_all {k : Nat} {bs : List Rw} (hk1 : 1 ≤ k) (hk4 : k ≤ 4) (hg : ∀ b ∈ bs, GoodR k b) : ∀ l ∈ bs.map lB, okL l ∧ 10 ∉ tl l := fun l hl => by
  obtain ⟨b, hb, rfl⟩ := List.mem_map.mp hl
  have hr := hg b hb
  refine ⟨okL_lB (fun z => ?_) (by rw [hr.len]; omega) hr.g, lB_no hr.g⟩
  have := hr.len
  rw [z] at this
  simp at this; omega
theorem rd_text {k : Nat} {bs : List Rw} {f : Int → Prop} {g : Nat → List Rw → Prop} (hk1 : 1 ≤ k) (hk4 : k ≤ 4) (hg : GoodB k bs) (hs : Srt bs) (hbl : bs.length ≤ 30) (h : g k bs) : Rd (.str (textF k bs)) f g := by
  obtain ⟨a1, a2, a3⟩ := l0_ok hk1 hk4
  have hr : ∀ b ∈ bs, GoodR k b := fun b hb => hg.row hb
  exact rd_lines a2 a3 (lB_all hk1 hk4 hr) (by simpa using hbl) (.inr ⟨k, a1, hk1, by omega, .inr ⟨bs, rb_all hk1 hr (srt_lt hg hs), hg, by rw [sortT_self hs]; exact h⟩⟩)
/-- rows that are as told, then one that isn't -/
theorem rd_fail {k : Nat} {as : List Rw} {l : Str} {ls : List Str} {f : Int → Prop} {g : Nat → List Rw → Prop} (hk1 : 1 ≤ k) (hk4 : k ≤ 4) (ha : ∀ b ∈ as, GoodR k b) (hp : as.Pairwise (· < ·)) (hl : okL l ∧ 10 ∉ tl l) (hb : btF k l = none ∨ ∃ b, btF k l = some b ∧ badAft as b = true) (hls : ∀ l ∈ ls, okL l ∧ 10 ∉ tl l) (hn : as.length + ls.length ≤ 29) (h : f (1 + as.length : Nat)) :
    Rd (.str (Txt.join NLs (l0F k :: (as.map lB ++ l :: ls)))) f g := by
  obtain ⟨a1, a2, a3⟩ := l0_ok hk1 hk4
  refine rd_lines a2 a3 (fun x hx => ?_) (by simp; omega) (.inr ⟨k, a1, hk1, by omega, .inl ⟨_, rb_bad hk1 ha hp hb, h⟩⟩)
  rcases List.mem_append.mp hx with hx | hx
  · exact lB_all hk1 hk4 ha x hx
  · rcases List.mem_cons.mp hx with rfl | hx
    · exact hl
    · exact hls x hx
theorem pw_take {bs : List Rw} (h : bs.Pairwise (· < ·)) (n : Nat) : (bs.take n).Pairwise (· < ·) := h.sublist (List.take_sublist _ _)
theorem rd_spoilt {k : Nat} {bs : List Rw} {i : Nat} {dl : Deal} {f : Int → Prop} {g : Nat → List Rw → Prop} (hk1 : 1 ≤ k) (hk4 : k ≤ 4) (hg : GoodB k bs) (hs : Srt bs) (hbl : bs.length ≤ 20) (hi : i ≤ bs.length) (hd : dl.Ok) (h : f (i : Nat)) : Rd (.str (Txt.join NLs ((linesF k bs).take i ++ [(lineR k bs i dl).1] ++ (linesF k bs).drop (i + 1)))) f g := by
  obtain ⟨b1, b2, b3, b4, _⟩ := lineR_bad (dl := dl) hk1 hk4 hg hi hd
  have hr : ∀ b ∈ bs, GoodR k b := fun b hb => hg.row hb
  have hp := srt_lt hg hs
  cases i with
  | zero =>
    show Rd (.str (Txt.join NLs ((lineR k bs 0 dl).1 :: bs.map lB))) f g
    exact rd_lines b1 b2 (lB_all hk1 hk4 hr) (by simp; omega) (.inl ⟨b3 rfl, h⟩)
  | succ j =>
    have e : (linesF k bs).take (j + 1) ++ [(lineR k bs (j + 1) dl).1] ++ (linesF k bs).drop (j + 1 + 1) = l0F k :: ((bs.take j).map lB ++ (lineR k bs (j + 1) dl).1 :: (bs.drop (j + 1)).map lB) := by
      simp [linesF, List.map_take, List.map_drop]
    rw [e]
    have hlj : (bs.take j).length = j := by rw [List.length_take]; omega
    refine rd_fail hk1 hk4 (fun b hb => hr b (List.mem_of_mem_take hb)) (pw_take hp j) ⟨b1, b2⟩ ?_ (lB_all hk1 hk4 fun b hb => hr b (List.mem_of_mem_drop hb)) (by rw [hlj]; simp; omega) ?_
    · rcases b4 (by omega) with h | ⟨h2, h3⟩
      · exact .inl h
      · obtain ⟨m, rfl⟩ : ∃ m, j = m + 1 := ⟨j - 1, by omega⟩
        have hm : m < bs.length := by omega
        have hrm := hr _ (List.getElem_mem hm)
        have eb : bs.getD (m + 1 + 1 - 2) [] = bs[m] := by simp [List.getD, hm]
        rw [h3, eb]
        refine .inr ⟨bs[m], btF_lB hk1 hrm.len hrm.g hrm.nz, ?_⟩
        rw [List.take_succ_eq_append_getElem hm]
        exact bad_self
    · rw [hlj, show 1 + j = j + 1 by omega]; exact h
theorem rd_swapped {k : Nat} {bs : List Rw} {j : Nat} {f : Int → Prop} {g : Nat → List Rw → Prop} (hk1 : 1 ≤ k) (hk4 : k ≤ 4) (hg : GoodB k bs) (hs : Srt bs) (hbl : bs.length ≤ 20) (hj : j + 1 < bs.length) (h : f (j + 2 : Nat)) : Rd (.str (Txt.join NLs ((linesF k bs).take (j + 1) ++ [(linesF k bs).getD (j + 2) "", (linesF k bs).getD (j + 1) ""] ++ (linesF k bs).drop (j + 3)))) f g := by
  have hr : ∀ b ∈ bs, GoodR k b := fun b hb => hg.row hb
  have hp := srt_lt hg hs
  have hj0 : j < bs.length := by omega
  have e : (linesF k bs).take (j + 1) ++ [(linesF k bs).getD (j + 2) "", (linesF k bs).getD (j + 1) ""] ++ (linesF k bs).drop (j + 3) = l0F k :: ((bs.take j ++ [bs[j + 1]]).map lB ++ lB bs[j] :: (bs.drop (j + 2)).map lB) := by
    simp [linesF, List.map_take, List.map_drop, List.getD, hj, hj0]
  rw [e]
  have hlt : bs[j] < bs[j + 1] := List.pairwise_iff_getElem.mp hp j (j + 1) hj0 hj (by omega)
  have hpa : (bs.take j ++ [bs[j + 1]]).Pairwise (· < ·) := by
    refine List.pairwise_append.mpr ⟨pw_take hp j, List.pairwise_singleton _ _, fun a ha b hb => ?_⟩
    rw [List.mem_singleton.mp hb]
    obtain ⟨m, hm, rfl⟩ := List.getElem_of_mem ha
    rw [List.length_take] at hm
    rw [List.getElem_take]
    exact List.pairwise_iff_getElem.mp hp m (j + 1) (by omega) hj (by omega)
  have hl1 : (bs.take j ++ [bs[j + 1]]).length = j + 1 := by simp; omega
  have hrj := hr _ (List.getElem_mem hj0)
  refine rd_fail hk1 hk4 (fun b hb => ?_) hpa (lB_all hk1 hk4 hr _ (List.mem_map.mpr ⟨_, List.getElem_mem hj0, rfl⟩)) (.inr ⟨bs[j], btF_lB hk1 hrj.len hrj.g hrj.nz, bad_last fun z => List.lt_irrefl _ (List.lt_trans z hlt)⟩) (lB_all hk1 hk4 fun b hb => hr b (List.mem_of_mem_drop hb)) (by rw [hl1]; simp; omega) (by rw [hl1, show 1 + (j + 1) = j + 2 by omega]; exact h)
  rcases List.mem_append.mp hb with hb | hb
  · exact hr b (List.mem_of_mem_take hb)
  · rw [List.mem_singleton.mp hb]; exact hr _ (List.getElem_mem hj)
theorem rd_more {k : Nat} {bs : List Rw} {f : Int → Prop} {g : Nat → List Rw → Prop} (hk1 : 1 ≤ k) (hk4 : k ≤ 4) (hg : GoodB k bs) (hs : Srt bs) (hbl : bs.length ≤ 20) (h : f (bs.length + 1 : Nat)) : Rd (.str (textF k bs ++ NLs)) f g := by
  have hr : ∀ b ∈ bs, GoodR k b := fun b hb => hg.row hb
  unfold textF
  rw [join_snoc (by simp [linesF])]
  have := rd_fail (f := f) (g := g) (ls := []) hk1 hk4 hr (srt_lt hg hs) nil_ok (.inl (btF_nil hk1 hk4)) (fun l h => nomatch h) (by simp; omega) (by rw [show 1 + bs.length = bs.length + 1 by omega]; exact h)
  exact this
def B29 : List Rw := [[0, 12], [10, 9]]
theorem good29 : GoodB 2 B29 := by
  refine ⟨?_, ?_, ?_, by decide⟩
  · intro t ht; simp only [B29, List.mem_cons, List.not_mem_nil, or_false] at ht; rcases ht with rfl | rfl <;> rfl
  · intro t ht n hn; simp only [B29, List.mem_cons, List.not_mem_nil, or_false] at ht; rcases ht with rfl | rfl <;> simp at hn <;> omega
  · intro t ht; simp only [B29, List.mem_cons, List.not_mem_nil, or_false] at ht; rcases ht with rfl | rfl <;> simp
theorem srt29 : Srt B29 := by
  unfold Srt B29
  decide
def T29 : List Str := ["kinds 2", "0 12", "10 9"]
theorem rd29 {f : Int → Prop} {g : Nat → List Rw → Prop} (h : g 2 B29) : Rd (.str (Txt.join NLs T29)) f g := by
  have k0 : okLb "kinds 2" = true := by decide +kernel
  have k1 : okLb "0 12" = true := by decide +kernel
  have k2 : okLb "10 9" = true := by decide +kernel
  refine rd_lines (okLb_of k0).1 (okLb_of k0).2 (ls := ["0 12", "10 9"]) (fun l hl => ?_) (by decide) (.inr ⟨2, by decide +kernel, by omega, by omega, .inr ⟨B29, by decide +kernel, good29, by rw [sortT_self srt29]; exact h⟩⟩)
  simp only [List.mem_cons, List.not_mem_nil, or_false] at hl
  rcases hl with rfl | rfl
  · exact okLb_of k1
  · exact okLb_of k2
theorem rd3 {f : Int → Prop} {g : Nat → List Rw → Prop} (h : g 3 []) : Rd (.str "kinds 3") f g := by
  have k0 : okLb "kinds 3" = true := by decide +kernel
  have e : Txt.join NLs ["kinds 3"] = "kinds 3" := by decide +kernel
  rw [← e]
  exact rd_lines (okLb_of k0).1 (okLb_of k0).2 (ls := []) (fun l hl => nomatch hl) (by decide) (.inr ⟨3, by decide +kernel, by omega, by omega, .inr ⟨[], rfl, GoodB.nil, by rw [sortT_self srt_nil]; exact h⟩⟩)
end K04
set_option Elab.async false
set_option linter.all false
set_option maxRecDepth 100000
set_option maxHeartbeats 8000000
namespace K04
open PySem PySem.Spec L2 NL
open PyProof.Rows hiding St
open TL (tl)
theorem text_len {k : Nat} {bs : List Rw} (hk1 : 1 ≤ k) (hk4 : k ≤ 4) (hg : GoodB k bs) (hbl : bs.length ≤ 20) : (textF k bs).length ≤ 30000 := by
  have hr : ∀ b ∈ bs, GoodR k b := fun b hb => hg.row hb
  have := join_le (B := 1000) (s := NLs) (ys := linesF k bs) fun y hy => by
    rcases List.mem_cons.mp hy with rfl | hy
    · exact (l0_ok hk1 hk4).2.1.1
    · exact (lB_all hk1 hk4 hr y hy).1.1
  have e : NLs.length = 1 := by decide
  have e2 : (linesF k bs).length = bs.length + 1 := by simp [linesF]
  rw [e, e2] at this
  unfold textF
  omega
theorem join_ok {B : Nat} {ys : List Str} (h : ∀ y ∈ ys, y.length ≤ B) (hn : ys.length ≤ 40) (hB : B ≤ 1000) : (ys.map (·.length)).sum + ys.length * NLs.length ≤ 16777216 := by
  have h1 := lens ys h
  have e : NLs.length = 1 := by decide
  rw [e]
  have : ys.length * B ≤ 40 * 1000 := Nat.mul_le_mul hn hB
  omega
theorem ls_strs {M : MM} (ys : List Str) : LsV M (.d (.list (ys.map PyData.str))) (ys.map fun s => SV.d (.str s)) := by
  have h := ls_d (M := M) (ds := ys.map PyData.str)
  rwa [show (ys.map PyData.str).map SV.d = ys.map fun s => SV.d (.str s) from by rw [List.map_map]; rfl] at h
section
variable {P : Program} {w : World} {K : PySem.W.Frag} {mg : Str → Option Value} {base : Heap}
def W_law : Wp := fun ds M R => ∃ ns : List Int, ds = [.q (ns.map PyData.int)] ∧ M = (fun _ => none) ∧ R (.d (.bool true)) (fun _ => none)
set_option maxHeartbeats 16000000 in
theorem ok_law {T : Txt K mg} (E : Tx K mg T) (CN : Cn K mg) : FnG P w K mg base CX0 20 T.law.f T.law.fd A_law (spN K 1 W_law) := by
  refine fn_ok T.law.F sc_law fun cdv A outer s H E1 G ds M R hr hl hW => ?_
  obtain ⟨ns, rfl, hM, q⟩ := hW
  have hu := hr.units
  have gd := hr.gd
  have fin : ∀ M', ∃ M'', MLe M'' M' ∧ R (.d (.bool true)) M'' := fun M' => ⟨fun _ => none, fun _ _ z => (nomatch z), q⟩
  refine b_cons (s_setN 1 (Φ := fun d M' => ∃ a b dl, d = .o a ∧ b ≠ a ∧ M' = dput M a b dl ∧ dl.Ok) (n_call T.draw (ok_draw T) (hr.mono (by decide)) (a_cons (v 0) (a_cons e_int a_nil)) ⟨ns, 4, rfl, by decide, by decide, fun a b dl h1 h2 h3 h4 => ⟨a, b, dl, rfl, h1, rfl, h4⟩⟩) ?_ sc_law.nd)
  rintro d M' ⟨a, b, dl0, rfl, hba, rfl, hd0⟩
  refine b_cons (s_asgN (Φ := fun d M' => ∃ k bs d3, d = .d (.tuple [.int (k + 1 : Nat), lT bs]) ∧ M' = dput M a b d3 ∧ k < 4 ∧ d3.Ok ∧ GoodB (k + 1) bs ∧ Srt bs ∧ bs.length ≤ 12) (n_call T.book (ok_book T) (hr.mono (by decide)) (a_cons (v 1) (a_cons e_int a_nil)) ⟨a, b, M, dl0, 4, rfl, by decide, by decide, hba, rfl, hd0, fun k bs d3 h1 h2 h3 h4 h5 => ⟨k, bs, d3, rfl, rfl, h1, h2, h3, h4, h5⟩⟩) ?_)
  rintro d M' ⟨k0, bs, d1, rfl, rfl, hk3, hd1, hg, hso, hbl⟩
  refine ⟨_, _, g_tup2 rfl (gn 2 sc_law.nd) (gn 3 sc_law.nd), ?_⟩
  obtain ⟨k, hk⟩ : ∃ k, k = k0 + 1 := ⟨_, rfl⟩
  rw [← hk] at hg ⊢
  have hk1 : 1 ≤ k := by omega
  have hk4 : k ≤ 4 := by omega
  have hr' : ∀ b ∈ bs, GoodR k b := fun b hb => hg.row hb
  refine b_cons (s_setN 4 (Φ := fun d M' => d = bookV T.Book.C k bs ∧ M' = dput M a b d1) (n_new T.Book (ok_init T) (hr.mono (by decide)) (a_cons (v 2) (a_cons (v 3) a_nil)) rfl fun q dx h1 h2 h3 => ⟨q, dx, k, bs, rfl, mset_same, by omega, by omega, hg, by omega, ⟨rfl, bookF k (sortT bs), mset_mset, by rw [sortT_self hso]; rfl, rfl⟩⟩) ?_ sc_law.nd)
  rintro d M1 ⟨rfl, rfl⟩
  -- the lines
  have hkl : ((k : Nat) : Int).natAbs.log2 < 1920 := Nat.lt_of_le_of_lt (Nat.log2_le_self _) (by omega)
  have hwk : (wN (k : Nat)).length ≤ 2 := wN_len ⟨by omega, by omega⟩
  refine b_cons (stL (ds := [.d (.str (l0F k))]) (M1 := dput M a b d1) 5 (e_lst (a_cons ((bin e_str (callT (a_cons (v 2) a_nil) (c_strI hkl) T.z_str) (cat_s (by
    have : ("kinds " : Str).length = 6 := by decide
    show ("kinds " : Str).length + (wN (k : Nat)).length ≤ 1000000
    omega))).is (d' := .d (.str (l0F k))) rfl) a_nil)) (fun p hp => ?_) sc_law.nd)
  refine b_cut (fun ρ' M' => ∃ x6, ρ' = [.q (ns.map PyData.int), .o a, .d (.int (k : Nat)), .d (lT bs), bookV T.Book.C k bs, .o p, x6, .u, .u, .u, .u, .u, .u, .u] ∧ M' = mset (dput M a b d1) p (.lst (((linesF k bs).map PyData.str).map SV.d)))
    (s_for (fun i ρ' M' => ∃ x6, ρ' = [.q (ns.map PyData.int), .o a, .d (.int (k : Nat)), .d (lT bs), bookV T.Book.C k bs, .o p, x6, .u, .u, .u, .u, .u, .u, .u] ∧ M' = mset (dput M a b d1) p (.lst (((l0F k :: (bs.take i).map lB).map PyData.str).map SV.d))) (i_list (xs := bs.map tI) (v 3)) ⟨_, rfl, rfl⟩ (fun _ _ _ _ => trivial) ?_ ?_ PassesOwn.never) ?_
  · rintro G i d ρ' M' hd ⟨x6, rfl, rfl⟩
    obtain ⟨hi, rfl⟩ := map_at [] hd
    obtain ⟨c, hc⟩ : ∃ c, c = bs.getD i [] := ⟨_, rfl⟩
    have hcm : c ∈ bs := by rw [hc]; exact getD_in (z := []) hi
    rw [← hc]
    have hnext : bs.take (i + 1) = bs.take i ++ [c] := by
      rw [List.take_succ_eq_append_getElem hi, hc]
      simp [List.getD, hi]
    have h99 := good99 hg hcm
    have hck := hg.len c hcm
    refine ⟨_, _, gn 6 sc_law.nd, ?_⟩
    refine b_one (s_drop (e_append (v 5) mset_same (e_join (a := SP) (ys := c.map wN) e_str (e_ofL' (xs := (c.map wN).map PyData.str) (l_lc (own := [("_law_x", 13)]) (fun _ => _) (fun j => some (.d (.str (wN (c.getD j 0))))) (i_tup (xs := c.map PyData.int) (v 6)) (bk sc_law (by decide +kernel)) sc_law.nd (fun _ _ => trivial) (by simp; omega) fun j d hj => ?_) ?_) (ls_strs _) ?_) mset_same (by simp; omega)) ⟨_, rfl, ?_⟩)
    · obtain ⟨hj', rfl⟩ := map_at (f := PyData.int) (xs := c) 0 hj
      have hn := h99 _ (getD_in (z := 0) hj')
      exact ⟨true, _, _, _, by decide, fun s H C cl fp => gn 13 sc_law.nd, fun s H C cl fp G => ts_nil, fun _ => ⟨_, rfl, fun s H C cl fp G => callT (a_cons (v 13) a_nil) (c_strI (Nat.lt_of_le_of_lt (Nat.log2_le_self _) (by omega))) T.z_str⟩, fun z => nomatch z⟩
    · rw [List.length_map, List.length_map, outs_map c 0 (fun n => SV.d (.str (wN n)))]
      simp
    · have := lens (B := 2) (c.map wN) fun y hy => by
        obtain ⟨n, hn, rfl⟩ := List.mem_map.mp hy
        exact wN_len (h99 n hn)
      have e : SP.length = 1 := by decide
      rw [List.length_map] at this ⊢
      rw [e]
      omega
    · rw [mset_mset, hnext]
      simp [lB]
  · rintro ρ' M' ⟨x6, rfl, rfl⟩
    rw [List.length_map, List.length_map, List.take_length]
    exact ⟨_, rfl, rfl⟩
  rintro ρ' M' ⟨x6, rfl, rfl⟩
  obtain ⟨Mb, hMb⟩ : ∃ Mb, Mb = dput M a b d1 := ⟨_, rfl⟩
  rw [← hMb] at hp ⊢
  have hline : ∀ y ∈ linesF k bs, y.length ≤ 1000 := fun y hy => by
    rcases List.mem_cons.mp hy with rfl | hy
    · exact (l0_ok hk1 hk4).2.1.1
    · exact (lB_all hk1 hk4 hr' y hy).1.1
  have hll : (linesF k bs).length = bs.length + 1 := by simp [linesF]
  refine b_cons (st 7 (d := .d (.str (textF k bs))) (M1 := mset Mb p (.lst (((linesF k bs).map PyData.str).map SV.d))) (e_join (a := NLs) (ys := linesF k bs) e_str (v 5) (by
    rw [show (linesF k bs).map (fun s => SV.d (.str s)) = ((linesF k bs).map PyData.str).map SV.d from by rw [List.map_map]; rfl]
    exact ls_o mset_same) (join_ok hline (by omega) (by omega))) ?_ sc_law.nd)
  refine b_frz 5 rfl (xs := (linesF k bs).map PyData.str) mset_same ?_
  have hmd : mdel (mset Mb p (.lst (((linesF k bs).map PyData.str).map SV.d))) p = Mb := by
    funext y
    by_cases e : y = p
    · subst e; rw [mdel_same, hp]
    · rw [mdel_ne e, mset_ne e]
  rw [hmd]
  subst hMb
  have htl := text_len hk1 hk4 hg (by omega)
  -- what is read
  have rd : ∀ {M : MM} {d : D} (x : SV) {R' : SV → MM → Prop}, Rd d (fun i => R' (.d (.int i)) M) (fun k bs => R' (bookV T.Book.C k bs) M) → W_read T [.d d] M R' := fun {M d} x {R'} h => ⟨d, rfl, h⟩
  refine b_cons (s_if (k := false) (t_ofW (w_or (k := false) (k2 := false) ((tcmp (e_ofN (d := .d (.str (textF k bs))) (M1 := dput M a b d1) (n_kwX (zs := [bookV T.Book.C k bs]) (gS := List.reverse) (Φ := fun d M' => d = .d (.str (textF k bs)) ∧ M' = dput M a b d1) T.p_book_text (fnToX' (ok_btx T)) (hr.mono (by decide)) NL.takes0 NL.fits0 E.kbT (k_cons (v 4) k_nil) (fun {S vs} r => relA_rev r) rfl ⟨k, bs, rfl, hk1, by omega, hg, by omega, ⟨rfl, rfl⟩⟩) fun _ _ z => z) (v 7) ne_s).is (by simp)) (fun _ => w_or1 ((tcmp (call (z := bookV T.Book.C k bs) T.read (ok_read E CN) (hr.mono (by decide)) (a_cons (v 7) a_nil) fun R' h => rd (.u) (rd_text hk1 hk4 hg hso (by omega) h)) (v 4) (nB E rfl rfl rfl rfl rfl (hr.mono (by decide)))).is (by simp))) fun z => nomatch z)) (fun z => nomatch z) fun _ => b_nil ?_)
  -- a spoilt line
  obtain ⟨f0, f1, hd2⟩ := anyR_ok hd1 (n := (bs.length + 1 : Nat)) (by omega)
  obtain ⟨i, hi⟩ : ∃ i : Nat, (anyR d1 (bs.length + 1 : Nat)).1 = i := ⟨_, (Int.toNat_of_nonneg f0).symm⟩
  obtain ⟨d2, hd2e⟩ : ∃ d2, d2 = (anyR d1 (bs.length + 1 : Nat)).2 := ⟨_, rfl⟩
  rw [← hd2e] at hd2
  have hib : i ≤ bs.length := by omega
  have clen : ∀ {X : Cx} {G : Gh} {M : MM}, JC X G (.builtin "len") M [.d (.list ((linesF k bs).map PyData.str))] (.d (.int (bs.length + 1 : Nat))) M := fun {X G M} => by
    have := c_len (X := X) (G := G) (M := M) (ls_d (ds := (linesF k bs).map PyData.str))
    rw [List.length_map, List.length_map, hll] at this
    exact this
  have clb : ∀ {X : Cx} {G : Gh} {M : MM}, JC X G (.builtin "len") M [.d (lT bs)] (.d (.int (bs.length : Nat))) M := fun {X G M} => by
    have := c_len (X := X) (G := G) (M := M) (ls_d (ds := bs.map tI))
    rw [List.length_map, List.length_map] at this
    exact this
  refine b_cons (st 8 (d := .d (.int (i : Nat))) (M1 := dput M a b d2) (call T.any (ok_any T) (hr.mono (by decide)) (a_cons (v 1) (a_cons (callB (a_cons (v 5) a_nil) clen T.z_len) a_nil)) fun R' h => ⟨a, b, M, d1, _, rfl, hba, rfl, hd1, by omega, by omega, by rw [hi, ← hd2e]; exact h⟩) ?_ sc_law.nd)
  obtain ⟨lx, hlx⟩ : ∃ lx, lx = lineR k bs i d2 := ⟨_, rfl⟩
  have hlb := lineR_bad (dl := d2) hk1 hk4 hg hib hd2
  rw [← hlx] at hlb
  have hd3 := hlb.2.2.2.2
  obtain ⟨d3, hd3e⟩ : ∃ d3, d3 = lx.2 := ⟨_, rfl⟩
  rw [← hd3e] at hd3
  obtain ⟨sp, hsp⟩ : ∃ sp, sp = (linesF k bs).take i ++ [lx.1] ++ (linesF k bs).drop (i + 1) := ⟨_, rfl⟩
  have hspl : sp.length ≤ 40 := by rw [hsp]; simp; omega
  have hspb : ∀ y ∈ sp, y.length ≤ 1000 := fun y hy => by
    rw [hsp] at hy
    simp only [List.mem_append, List.mem_singleton] at hy
    rcases hy with (hy | rfl) | hy
    · exact hline y (List.mem_of_mem_take hy)
    · exact hlb.1.1
    · exact hline y (List.mem_of_mem_drop hy)
  refine b_cons (st 9 (d := .d (.list (sp.map PyData.str))) (M1 := dput M a b d3) ((cat_ll (cat_ll (M2 := dput M a b d3) (l_to (v 5) (v 8) (by rw [List.length_map, hll]; omega)) (e_ofL (xs := [.str lx.1]) (e_lst (a_cons (call T.line (ok_line T) (hr.mono (by decide)) (a_cons (v 1) (a_cons (v 2) (a_cons (v 5) (a_cons (v 8) a_nil)))) fun R' h => ⟨a, b, M, d2, k, bs, i, rfl, hba, rfl, hd2, hk1, hk4, hib, by omega, by rw [← hlx, ← hd3e]; exact h⟩) a_nil))) (by simp; omega)) (l_from (j := i + 1) (v 5) (bin (v 8) e_int add_i) (by rw [List.length_map, hll]; omega)) (by simp; omega)).is (by rw [hsp]; simp [List.map_take, List.map_drop])) ?_ sc_law.nd)
  refine b_cons (s_if (k := false) ((tcmp (call (z := .d (.int (i : Nat))) T.read (ok_read E CN) (hr.mono (by decide)) (a_cons (e_join (a := NLs) (ys := sp) e_str (v 9) (ls_strs _) (join_ok hspb hspl (by omega))) a_nil) fun R' h => rd .u (by rw [hsp, hlx]; exact rd_spoilt hk1 hk4 hg hso (by omega) hib hd2 h)) (v 8) ne_i).is (by simp)) (fun z => nomatch z) fun _ => b_nil ?_)
  -- two that are exchanged
  refine b_cut (fun ρ' M' => ∃ d4 x10 x11, d4.Ok ∧ M' = dput M a b d4 ∧ ρ' = [.q (ns.map PyData.int), .o a, .d (.int (k : Nat)), .d (lT bs), bookV T.Book.C k bs, .d (.list ((linesF k bs).map PyData.str)), x6, .d (.str (textF k bs)), .d (.int (i : Nat)), .d (.list (sp.map PyData.str)), x10, x11, .u, .u]) (s_if (k := decide (1 < bs.length)) ((tcmp (callB (a_cons (v 3) a_nil) clb T.z_len) e_int gt_i).is (by rw [decide_eq_decide]; omega)) (fun h1 => ?_) fun _ => b_nil ⟨d3, _, _, hd3, rfl, rfl⟩) ?_
  · have h1 := of_decide_eq_true h1
    obtain ⟨g0, g1, hd4⟩ := anyR_ok hd3 (n := ((bs.length : Nat) : Int) - 1) (by omega)
    obtain ⟨j, hj⟩ : ∃ j : Nat, (anyR d3 (((bs.length : Nat) : Int) - 1)).1 = j := ⟨_, (Int.toNat_of_nonneg g0).symm⟩
    obtain ⟨d4, hd4e⟩ : ∃ d4, d4 = (anyR d3 (((bs.length : Nat) : Int) - 1)).2 := ⟨_, rfl⟩
    rw [← hd4e] at hd4
    have hjb : j + 1 < bs.length := by omega
    refine b_cons (st 10 (d := .d (.int (j + 1 : Nat))) (M1 := dput M a b d4) ((bin (y := .d (.int (j : Nat))) e_int (call T.any (ok_any T) (hr.mono (by decide)) (a_cons (v 1) (a_cons (bin (callB (a_cons (v 3) a_nil) clb T.z_len) e_int sub_i) a_nil)) fun R' h => ⟨a, b, M, d3, _, rfl, hba, rfl, hd3, by omega, by omega, by rw [hj, ← hd4e]; exact h⟩) add_i).is (by congr 2; omega)) ?_ sc_law.nd)
    obtain ⟨sw, hsw⟩ : ∃ sw, sw = (linesF k bs).take (j + 1) ++ [(linesF k bs).getD (j + 2) "", (linesF k bs).getD (j + 1) ""] ++ (linesF k bs).drop (j + 3) := ⟨_, rfl⟩
    have hswl : sw.length ≤ 40 := by rw [hsw]; simp; omega
    have hswb : ∀ y ∈ sw, y.length ≤ 1000 := fun y hy => by
      rw [hsw] at hy
      simp only [List.mem_append, List.mem_cons, List.not_mem_nil, or_false] at hy
      rcases hy with (hy | rfl | rfl) | hy
      · exact hline y (List.mem_of_mem_take hy)
      · exact hline _ (getD_in (by omega))
      · exact hline _ (getD_in (by omega))
      · exact hline y (List.mem_of_mem_drop hy)
    have at_ : ∀ m : Nat, m < bs.length + 1 → atI (((linesF k bs).map PyData.str).map SV.d) (m : Nat) = some (.d (.str ((linesF k bs).getD m ""))) := fun m hm => by
      rw [List.map_map]
      exact atI_map (fun s => SV.d (.str s)) (linesF k bs) "" (by omega)
    refine b_cons (st 11 (d := .d (.list (sw.map PyData.str))) (M1 := dput M a b d4) ((cat_ll (cat_ll (l_to (j := j + 1) (v 5) (v 10) (by rw [List.length_map, hll]; omega)) (e_ofL (xs := [.str ((linesF k bs).getD (j + 2) ""), .str ((linesF k bs).getD (j + 1) "")]) (e_lst (a_cons (ix (v 5) ((bin (x := .d (.int (j + 1 : Nat))) (v 10) e_int add_i).is (d' := .d (.int (j + 2 : Nat))) (by first | rfl | (congr 2; omega))) (ix_l (ls_d (ds := (linesF k bs).map PyData.str)) (at_ (j + 2) (by omega)))) (a_cons (ix (v 5) (v 10) (ix_l (ls_d (ds := (linesF k bs).map PyData.str)) (at_ (j + 1) (by omega)))) a_nil)))) (by simp; omega)) (l_from (j := j + 3) (v 5) ((bin (x := .d (.int (j + 1 : Nat))) (v 10) e_int add_i).is (d' := .d (.int (j + 3 : Nat))) (by first | rfl | (congr 2; omega))) (by rw [List.length_map, hll]; omega)) (by simp; omega)).is (by rw [hsw]; simp [List.map_take, List.map_drop])) ?_ sc_law.nd)
    refine b_one (s_if (k := false) ((tcmp (call (z := .d (.int (j + 2 : Nat))) T.read (ok_read E CN) (hr.mono (by decide)) (a_cons (e_join (a := NLs) (ys := sw) e_str (v 11) (ls_strs _) (join_ok hswb hswl (by omega))) a_nil) fun R' h => rd .u (by rw [hsw]; exact rd_swapped hk1 hk4 hg hso (by omega) hjb h)) (bin (v 10) e_int add_i) ne_i).is (by
      have : decide (((j + 2 : Nat) : Int) = ((j + 1 : Nat) : Int) + 1) = true := decide_eq_true (by omega)
      rw [this]; rfl)) (fun z => nomatch z) fun _ => b_nil ⟨d4, _, _, hd4, rfl, rfl⟩)
  rintro ρ' M' ⟨d4, x10, x11, hd4, rfl, rfl⟩
  -- one line more, no text
  obtain ⟨L, hL⟩ : ∃ L : List D, L = [.none, .int 7, .list [.str (textF k bs)], .tuple [.str (textF k bs)]] := ⟨_, rfl⟩
  have hpk := pick_in (L := L) hd4 (by rw [hL]; simp)
  have hns : ∀ s, pickD L d4 ≠ .str s := fun s e => by
    have h := hpk.1
    rw [e, hL] at h
    simp only [List.mem_cons, List.not_mem_nil, or_false] at h
    rcases h with h | h | h | h <;> cases h
  have hNL : NLs.length = 1 := by decide
  refine b_cons (s_if (k := false) (M1 := dput M a b (pickN L d4)) (t_ofW (w_or (k := false) (k2 := false) ((tcmp (call (z := .d (.int (bs.length + 1 : Nat))) T.read (ok_read E CN) (hr.mono (by decide)) (a_cons (bin (v 7) e_str (cat_s (j := NLs) (by omega))) a_nil) fun R' h => rd .u (rd_more hk1 hk4 hg hso (by omega) h)) (callB (a_cons (v 5) a_nil) clen T.z_len) ne_i).is (by simp)) (fun _ => w_or1 ((tcmp (call (z := .d (.int 0)) T.read (ok_read E CN) (hr.mono (by decide)) (a_cons (e_of (T := T) rfl rfl (hr.mono (by decide)) (v 1) (e_ofL' (xs := L) (e_lst (a_cons e_non (a_cons e_int (a_cons (e_ofL (xs := [.str (textF k bs)]) (e_lst (a_cons (v 7) a_nil))) (a_cons (e_tup (xs := [.str (textF k bs)]) (a_cons (v 7) a_nil)) a_nil))))) (by rw [hL]; rfl)) hba hd4 (by rw [hL]; simp) (by rw [hL]; simp)) a_nil) fun R' h => rd .u (.inl ⟨hns, h⟩)) e_int ne_i).is rfl)) fun z => nomatch z)) (fun z => nomatch z) fun _ => b_nil ?_)
  obtain ⟨Mz, hMz⟩ : ∃ Mz, Mz = dput M a b (pickN L d4) := ⟨_, rfl⟩
  rw [← hMz]
  -- two texts of its own
  refine b_cons (s_setN 12 (Φ := fun d M' => d = bookV T.Book.C 2 B29 ∧ M' = Mz) (n_call T.read (ok_read E CN) (hr.mono (by decide)) (a_cons (e_join (a := NLs) (ys := T29) e_str (e_ofL (xs := T29.map PyData.str) (e_lst (a_cons e_str (a_cons e_str (a_cons e_str a_nil))))) (ls_strs _) (by decide +kernel)) a_nil) (rd .u (rd29 ⟨rfl, rfl⟩))) ?_ sc_law.nd)
  rintro d M' ⟨rfl, rfl⟩
  obtain ⟨M'', hM1, hM2⟩ := fin M'
  refine b_one (s_ret (d := .d (.bool (true && true))) (M1 := M') (e_and (k := true) ((cmp (v 12) (e_ofN (n_new (Φ := fun d M2 => d = bookV T.Book.C 2 B29 ∧ M2 = M') T.Book (ok_init T) (hr.mono (by decide)) (a_cons e_int (a_cons (d := .d (lT B29)) (M1 := M') (e_ofL (xs := B29.map tI) (e_lst (a_cons (e_tup (xs := [.int 0, .int 12]) (a_cons e_int (a_cons e_int a_nil))) (a_cons (e_tup (xs := [.int 10, .int 9]) (a_cons e_int (a_cons e_int a_nil))) a_nil)))) a_nil)) rfl fun q dx h1 h2 h3 => ⟨q, dx, 2, B29, rfl, mset_same, by omega, by omega, good29, by decide, ⟨rfl, bookF 2 (sortT B29), mset_mset, by rw [sortT_self srt29]; rfl, rfl⟩⟩) fun _ _ z => z) (eB E rfl rfl rfl rfl rfl (hr.mono (by decide)))).is (by simp)) (fun _ => e_one ((cmp (call (z := bookV T.Book.C 3 []) T.read (ok_read E CN) (hr.mono (by decide)) (a_cons e_str a_nil) fun R' h => rd .u (rd3 h)) (e_ofN (n_new (Φ := fun d M2 => d = bookV T.Book.C 3 [] ∧ M2 = M') T.Book (ok_init T) (hr.mono (by decide)) (a_cons e_int (a_cons (d := .d (lT [])) (M1 := M') (e_ofL (xs := []) (e_lst a_nil)) a_nil)) rfl fun q dx h1 h2 h3 => ⟨q, dx, 3, [], rfl, mset_same, by omega, by omega, GoodB.nil, by decide, ⟨rfl, bookF 3 (sortT []), mset_mset, by rw [sortT_self srt_nil]; rfl, rfl⟩⟩) fun _ _ z => z) (eB E rfl rfl rfl rfl rfl (hr.mono (by decide)))).is (by simp))) fun z => nomatch z) ⟨M'', hM1, hM2⟩)
end
end K04
set_option Elab.async false
set_option linter.all false
set_option maxRecDepth 100000
set_option maxHeartbeats 4000000
namespace K04
open PySem PySem.Spec L2 NL
open PyProof.Rows hiding St
theorem txt_of {K : PySem.W.Frag} {mg : Str → Option Value} {h : Heap} {w : World} (X : K.In h) (G : h.Ns mainGlobals mg) (c0 : He.SaysX fa fn [] tf ex w h K) : ∃ T : Txt K mg, Nonempty (Tx K mg T) ∧ (∀ (s : Shared) (v : Value), BindsTo s T.law.fd ⟨[v], []⟩ [("_law_script", v)]) ∧ T.law.fd.code = .ref (He.cT K ("law", none)).1 := by
  have c := c0.t.d
  obtain ⟨T_p_is_integer, F_p_is_integer, A_p_is_integer⟩ := def_of (x := "is_integer") (st := s_p_is_integer) (ps := A_p_is_integer) X G c 0 0 rfl rfl fun _ _ _ _ _ _ us hl => match us, hl with | [_], _ => rfl
  obtain ⟨T_p_is_number, F_p_is_number, A_p_is_number⟩ := def_of (x := "is_number") (st := s_p_is_number) (ps := A_p_is_number) X G c 1 1 rfl rfl fun _ _ _ _ _ _ us hl => match us, hl with | [_], _ => rfl
  obtain ⟨T_p_is_sequence, F_p_is_sequence, A_p_is_sequence⟩ := def_of (x := "is_sequence") (st := s_p_is_sequence) (ps := A_p_is_sequence) X G c 2 2 rfl rfl fun _ _ _ _ _ _ us hl => match us, hl with | [_], _ => rfl
  obtain ⟨T_p_are_numbers, F_p_are_numbers, A_p_are_numbers⟩ := def_of (x := "are_numbers") (st := s_p_are_numbers) (ps := A_p_are_numbers) X G c 3 3 rfl rfl fun _ _ _ _ _ _ us hl => match us, hl with | [_, _], _ => rfl
  obtain ⟨T_p_is_batch, F_p_is_batch, A_p_is_batch⟩ := def_of (x := "is_batch") (st := s_p_is_batch) (ps := A_p_is_batch) X G c 4 4 rfl rfl fun _ _ _ _ _ _ us hl => match us, hl with | [_, _], _ => rfl
  obtain ⟨T_p_book_text, F_p_book_text, A_p_book_text⟩ := def_of (x := "book_text") (st := s_p_book_text) (ps := A_p_book_text) X G c 5 5 rfl rfl fun _ _ _ _ _ _ us hl => match us, hl with | [_], _ => rfl
  obtain ⟨T_p_read_book, F_p_read_book, A_p_read_book⟩ := def_of (x := "read_book") (st := s_p_read_book) (ps := A_p_read_book) X G c 6 6 rfl rfl fun _ _ _ _ _ _ us hl => match us, hl with | [_], _ => rfl
  obtain ⟨T_p_number_told, F_p_number_told, A_p_number_told⟩ := def_of (x := "number_told") (st := s_p_number_told) (ps := A_p_number_told) X G c 7 7 rfl rfl fun _ _ _ _ _ _ us hl => match us, hl with | [_, _], _ => rfl
  obtain ⟨T_p_kinds_told, F_p_kinds_told, A_p_kinds_told⟩ := def_of (x := "_kinds_told") (st := s_p_kinds_told) (ps := A_p_kinds_told) X G c 8 8 rfl rfl fun _ _ _ _ _ _ us hl => match us, hl with | [_], _ => rfl
  obtain ⟨T_p_batch_told, F_p_batch_told, A_p_batch_told⟩ := def_of (x := "_batch_told") (st := s_p_batch_told) (ps := A_p_batch_told) X G c 9 9 rfl rfl fun _ _ _ _ _ _ us hl => match us, hl with | [_, _], _ => rfl
  obtain ⟨T_draw, F_draw, A_draw⟩ := def_of (x := "_law_draw") (st := s_draw) (ps := A_draw) X G c 10 10 rfl rfl fun _ _ _ _ _ _ us hl => match us, hl with | [_, _], _ => rfl
  obtain ⟨T_any, F_any, A_any⟩ := def_of (x := "_law_any") (st := s_any) (ps := A_any) X G c 11 11 rfl rfl fun _ _ _ _ _ _ us hl => match us, hl with | [_, _], _ => rfl
  obtain ⟨T_of, F_of, A_of⟩ := def_of (x := "_law_of") (st := s_of) (ps := A_of) X G c 12 12 rfl rfl fun _ _ _ _ _ _ us hl => match us, hl with | [_, _], _ => rfl
  obtain ⟨T_within, F_within, A_within⟩ := def_of (x := "_law_within") (st := s_within) (ps := A_within) X G c 13 13 rfl rfl fun _ _ _ _ _ _ us hl => match us, hl with | [_, _], _ => rfl
  obtain ⟨T_more, F_more, A_more⟩ := def_of (x := "_law_more") (st := s_more) (ps := A_more) X G c 14 14 rfl rfl fun _ _ _ _ _ _ us hl => match us, hl with | [_, _], _ => rfl
  obtain ⟨T_crowds, F_crowds, A_crowds⟩ := def_of (x := "_law_crowds") (st := s_crowds) (ps := A_crowds) X G c 15 15 rfl rfl fun _ _ _ _ _ _ us hl => match us, hl with | [_, _], _ => rfl
  obtain ⟨T_zero, F_zero, A_zero⟩ := def_of (x := "_law_zero") (st := s_zero) (ps := A_zero) X G c 16 16 rfl rfl fun _ _ _ _ _ _ us hl => match us, hl with | [_, _, _], _ => rfl
  obtain ⟨T_named, F_named, A_named⟩ := def_of (x := "_law_named") (st := s_named) (ps := A_named) X G c 17 17 rfl rfl fun _ _ _ _ _ _ us hl => match us, hl with | [_, _], _ => rfl
  obtain ⟨T_book, F_book, A_book⟩ := def_of (x := "_law_book") (st := s_book) (ps := A_book) X G c 18 18 rfl rfl fun _ _ _ _ _ _ us hl => match us, hl with | [_, _], _ => rfl
  obtain ⟨T_read, F_read, A_read⟩ := def_of (x := "_law_read") (st := s_read) (ps := A_read) X G c 19 19 rfl rfl fun _ _ _ _ _ _ us hl => match us, hl with | [_], _ => rfl
  obtain ⟨T_line, F_line, A_line⟩ := def_of (x := "_law_line") (st := s_line) (ps := A_line) X G c 20 20 rfl rfl fun _ _ _ _ _ _ us hl => match us, hl with | [_, _, _, _], _ => rfl
  obtain ⟨T_law, F_law, A_law⟩ := def_of (x := "law") (st := s_law) (ps := A_law) X G c 21 21 rfl rfl fun _ _ _ _ _ _ us hl => match us, hl with | [_], _ => rfl
  obtain ⟨fB, FB⟩ := c.def_ 22 rfl
  have bB : Binds K fB A_Book_init [] := FB.bindsN fun _ _ _ _ _ _ us hl => match us, hl with | [_, _, _], _ => rfl
  have mr := c0.more
  unfold ex at mr
  simp only [Bool.and_eq_true, decide_eq_true_eq] at mr
  obtain ⟨m0, m1, m2, m3, m4, m5, m6, m7⟩ := mr
  obtain ⟨X_ET, hX_ET⟩ : ∃ X_ET : ExcK K mg "InvalidText" "InvalidText.__init__" s_xT, X_ET.C = He.ga K "InvalidText" := excK_at X G c 23 27 rfl rfl m0 fun _ _ _ _ _ _ us hl => match us, hl with | [_, _], _ => rfl
  obtain ⟨fQ, FQ⟩ := c.def_ 24 rfl
  have bQ : Binds K fQ A_Book_eq [] := FQ.bindsN fun _ _ _ _ _ _ us hl => match us, hl with | [_, _], _ => rfl
  refine ⟨⟨T_p_is_integer, T_p_is_number, T_p_is_sequence, T_p_are_numbers, T_p_is_batch, T_p_book_text, T_p_read_book, T_p_number_told, T_p_kinds_told, T_p_batch_told, T_draw, T_any, T_of, T_within, T_more, T_crowds, T_zero, T_named, T_book, T_read, T_line, T_law, ⟨_, _, fB, FunX.ofD FB, bB, He.glo_ok X G (c.fact 22 rfl), He.mkr_ok (c.fact 24 rfl), He.cls_ok (c.fact 23 rfl)⟩, He.noat_ok (c.fact 25 rfl), He.noat_ok (c.fact 26 rfl), He.free_ok X G (c.fact 28 rfl), He.free_ok X G (c.fact 29 rfl), He.free_ok X G (c.fact 30 rfl), He.free_ok X G (c.fact 31 rfl), He.free_ok X G (c.fact 32 rfl), He.free_ok X G (c.fact 33 rfl), He.free_ok X G (c.fact 34 rfl), He.free_ok X G (c.fact 35 rfl), He.free_ok X G (c.fact 36 rfl), He.free_ok X G (c.fact 37 rfl), He.free_ok X G (c.fact 38 rfl), He.free_ok X G (c.fact 39 rfl), He.free_ok X G (c.fact 40 rfl), He.free_ok X G (c.fact 41 rfl), He.free_ok X G (c.fact 42 rfl), He.free_ok X G (c.fact 43 rfl)⟩, ⟨?_⟩, law_facts F_law A_law fun _ _ _ _ _ _ _ => rfl⟩
  exact ⟨X_ET, by rw [hX_ET]; exact m1, _, fQ, FunX.ofD FQ, bQ, ⟨m2, m3, m4, m5⟩, isxB_ok m6, m7, kb_of1 (p1 := "text") F_p_read_book fun _ _ _ _ _ _ _ => rfl, kb_of1 (p1 := "book") F_p_book_text fun _ _ _ _ _ _ _ => rfl⟩
theorem cn_of {K : PySem.W.Frag} {mg : Str → Option Value} {h : Heap} {w : World} (X : K.In h) (G : h.Ns mainGlobals mg) (c0 : He.SaysX fa fn [] tf ex w h K) : Cn K mg := by
  have c := c0.t.d
  exact ⟨He.str_ok X G (c.fact 44 rfl), He.int_ok X G (c.fact 45 rfl)⟩
end K04
set_option Elab.async false
set_option linter.all false
set_option maxRecDepth 100000
set_option maxHeartbeats 4000000
namespace K04
open PySem PySem.Spec L2 NL
open PyProof.Rows hiding St
theorem facts {P : Program} {w : World} {K : PySem.W.Frag} {h : Heap} {mg : Str → Option Value} {f : Addr} (X : K.In h) (G : h.Ns mainGlobals mg) (hfa : mg ("law" : Str) = some (.ref f)) (c : He.SaysX fa fn [] tf ex w h K) :
    ∃ fd : FuncData, (∀ (s : Shared) (v : Value), BindsTo s fd ⟨[v], []⟩ [("_law_script", v)]) ∧ ∀ base : Heap, K.In base → base.Ns mainGlobals mg → FnG P w K mg base CX0 20 f fd ["_law_script"] (spN K 1 W_law) := by
  obtain ⟨T, ⟨E⟩, hb, hc⟩ := txt_of X G c
  have e2 := hfa.symm.trans T.law.g
  cases e2
  exact ⟨T.law.fd, hb, fun base _ _ => ok_law E (cn_of X G c)⟩
theorem law_asks {K : PySem.W.Frag} {H : Hp} {a : Addr} {ns : List Int} (h : SqL K H a (ns.map V.int)) : spN K 1 W_law [.ref a] H (fun v _ => v = .bl true) E0 := by
  have hst : Hst K (gh H H fun _ => none) H H (fun _ => none) := ⟨fun _ _ q => q, fun _ _ q => (nomatch q), fun _ _ q => q, fun _ _ q _ => q, fun _ q => Or.inl q, fun _ q => absurd rfl q⟩
  have rl : RelA K H [.q (ns.map PyData.int)] [.ref a] := ⟨_, _, rfl, ⟨a, _, rfl, h, RpA.ints ns⟩, rfl⟩
  refine ⟨H, [.q (ns.map .int)], fun _ => none, fun d _ => d = .d (.bool true), rl, rfl, hst, ⟨ns, rfl, rfl, rfl⟩, fun d M' v S' H' hh r q => ?_⟩
  subst q
  exact r
end K04
open PySem PySem.W PySem.Calls PyProof.Rows
set_option maxHeartbeats 0 in
theorem PySem.Challenge.cw_noneleft_k04_texts_of_books_holds : PySem.Challenge.rw_noneleft_k04_texts_of_books.Holds := by
  w_on; o_law
  refine HandSHeadRun.head_any (r := OpenLaw.row PySem.Challenge.rw_noneleft_k04_texts_of_books) (q := view (OpenLaw.row PySem.Challenge.rw_noneleft_k04_texts_of_books).prog [32]) (H := K04.hk) (ob := K04.ob) (M := 12000) (loose := K04.loose) (d := HandSHeadRun.topDef (OpenLaw.row PySem.Challenge.rw_noneleft_k04_texts_of_books).prog 32) (kwd := []) K04.ob_eq
    (by kernel_rfl) (fun s => by kernel_rfl) K04.run (by kernel_rfl) (by kernel_rfl) (by kernel_rfl) (by rfl) (by first | assumption | decide +kernel) (by decide +kernel) ⟨rfl, rfl, rfl, rfl, rfl, by decide +kernel⟩ ?hw ?hc
  case hw => w_witness2
  case hc =>
    refine NL.walk_lawE (l := PySem.Challenge.rw_noneleft_k04_texts_of_books) (n := 63) (k := 20) (x := "_law_script") rfl (by decide) (by kernel_rfl) ⟨rfl, by decide, by decide⟩ ?F
    intro w mg fa h Y G hmg0
    obtain ⟨K, KX, c⟩ := Y
    have hmg : mg ("law" : PySem.Str) = some (.ref fa) := by
      have e : (HandSHeadRun.topDef (OpenLaw.row PySem.Challenge.rw_noneleft_k04_texts_of_books).prog 32).name = ("law" : PySem.Str) := by kernel_rfl
      rw [← e]
      exact hmg0
    obtain ⟨fd, hb, hF⟩ := K04.facts (P := (PySem.Challenge.rw_noneleft_k04_texts_of_books).prog) (w := w) KX G hmg c
    exact ⟨K, fd, _, KX, hb, fun H a ns hl _ hS => K04.law_asks hS, hF⟩
