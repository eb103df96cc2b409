import PyProof.Rows.All
import Wide.All
import OpenK.AllK
import Wide.FinOn
import HandS.ForMost
import HandS.ForExc
import HandS.Evl
import HandS.TupAny
import HandS.TupLe
import HandS.TupMul
import HandS.Deep
import HandS.Conv
import HandS.Zip
import HandS.TupSets
import HandS.SortRule
import HandS.ExcInit
import HandS.ExcValue
import HandS.ExcIs
import HandS.Flow
import HandS.IsInst
import HandS.Wide
import HandS.RaiseMore
import PyProof.ReprReads
import HandS.Defaults
import KE.SortData
import KE.DataAny
import KE.KTupSum
import KE.GoesEnum
import KE.GoesMore
import HandS.Style
import KE.SortLaws
import HandS.ExcField
import HandS.WordsExc
import HandS.Lambda
import KE.KExcIs
import HandS.HeadHook4
import HandS.NestedK
import HandS.EndTab
import KE.KStateDown
import HandS.Head0
import HandS.Head1
import HandS.Head2
import HandS.HeadEnd
import HandS.HeadHook1
import HandS.HeadHook2
import HandS.HeadHook3
import HandS.HotCalls
import HandS.SortInts
import PyProof.InstNe
import OpenK.KWalk
import HandS.ExcInitHot
import KE.DataMinMax
import ObjForm.LawKit
import KE.KDictKeyed
import HandS.Iter
import HandS.Sort
import KE.KDictDisplayH
import HandS.Small
import HandS.Text
import HandS.FStr
import PySem.Challenge.RW_noneleft_k00_errors_and_what_they_keep
set_option Elab.async false
set_option linter.all false
set_option maxRecDepth 100000
set_option maxHeartbeats 4000000
namespace NL
open PySem PySem.Spec PyProof.Rows L2
abbrev Sub (S S' : Hp) : Prop := Evl.Ex S S'
theorem Sub.rfl' (S : Hp) : Sub S S := Evl.Ex.refl S
theorem Sub.tr {A B C : Hp} (x : Sub A B) (y : Sub B C) : Sub A C := Evl.Ex.trans x y
theorem Sub.fresh {S H : Hp} (x : Sub S H) {p : Addr} (h : H p = none) : S p = none := Evl.fresh_back x h
theorem Sub.up {S S' : Hp} (x : Sub S S') {p : Addr} {o : HO} (h : S p = none) (h' : S' p = some o) : Sub (upd S p o) S' := fun a u e => by
  by_cases ha : a = p
  · subst ha
    rw [upd_same] at e
    cases e
    exact h'
  · rw [upd_ne ha] at e
    exact x a u e
theorem Sub.both {S H : Hp} (x : Sub S H) {p : Addr} {o : HO} : Sub (upd S p o) (upd H p o) := fun a u e => by
  by_cases ha : a = p
  · subst ha
    rw [upd_same] at e ⊢
    exact e
  · rw [upd_ne ha] at e ⊢
    exact x a u e
abbrev D := PyData
mutual
def Rp (K : PySem.W.Frag) (S : Hp) : D → V → Prop
  | .none, v => v = .non
  | .bool b, v => v = .bl b
  | .int i, v => v = .int i
  | .str x, v => v = .str x
  | .list ds, v => ∃ a xs, v = .ref a ∧ S a = some (.lst xs) ∧ RpA K S ds xs
  | .tuple ds, v => ∃ a xs, v = .ref a ∧ S a = some (.tup xs) ∧ RpA K S ds xs
  | .dict [], v => ∃ a, v = .ref a ∧ S a = some (.dK [])
  | .dict (_ :: _), _ => False
def RpA (K : PySem.W.Frag) (S : Hp) : List D → List V → Prop
  | [], vs => vs = []
  | d :: ds, vs => ∃ v r, vs = v :: r ∧ Rp K S d v ∧ RpA K S ds r
end
section
variable {K : PySem.W.Frag} {S S' : Hp}
mutual
theorem Rp.mono (e : Sub S S') : ∀ (d : D) (v : V), Rp K S d v → Rp K S' d v
  | .none, _, h => h
  | .bool _, _, h => h
  | .int _, _, h => h
  | .str _, _, h => h
  | .list ds, _, ⟨a, xs, h1, h2, h3⟩ => ⟨a, xs, h1, e a _ h2, RpA.mono e ds xs h3⟩
  | .tuple ds, _, ⟨a, xs, h1, h2, h3⟩ => ⟨a, xs, h1, e a _ h2, RpA.mono e ds xs h3⟩
  | .dict [], _, ⟨a, h1, h2⟩ => ⟨a, h1, e a _ h2⟩
  | .dict (_ :: _), _, h => h.elim
theorem RpA.mono (e : Sub S S') : ∀ (ds : List D) (vs : List V), RpA K S ds vs → RpA K S' ds vs
  | [], _, h => h
  | d :: ds, _, ⟨v, r, h1, h2, h3⟩ => ⟨v, r, h1, Rp.mono e d v h2, RpA.mono e ds r h3⟩
end
theorem RpA.len : ∀ {ds : List D} {vs : List V}, RpA K S ds vs → vs.length = ds.length
  | [], _, h => by subst h; rfl
  | d :: ds, _, ⟨v, r, h1, _, h3⟩ => by subst h1; rw [List.length_cons, List.length_cons, RpA.len h3]
theorem RpA.at : ∀ {ds : List D} {vs : List V} {i : Nat} {d : D}, RpA K S ds vs → ds[i]? = some d → ∃ v, vs[i]? = some v ∧ Rp K S d v
  | [], _, _, _, _, e => by simp at e
  | _ :: _, _, 0, _, ⟨v, r, h1, h2, _⟩, e => by
    simp at e; subst e; subst h1
    exact ⟨v, rfl, h2⟩
  | _ :: ds, _, i + 1, d, ⟨v, r, h1, _, h3⟩, e => by
    subst h1
    obtain ⟨w, a, b⟩ := RpA.at (i := i) h3 (by simpa using e)
    exact ⟨w, by simpa using a, b⟩
theorem RpA.app : ∀ {ds es : List D} {vs ws : List V}, RpA K S ds vs → RpA K S es ws → RpA K S (ds ++ es) (vs ++ ws)
  | [], _, _, _, h, g => by subst h; exact g
  | _ :: _, _, _, _, ⟨v, r, h1, h2, h3⟩, g => by
    subst h1
    exact ⟨v, _, rfl, h2, RpA.app h3 g⟩
theorem RpA.take : ∀ {ds : List D} {vs : List V} (n : Nat), RpA K S ds vs → RpA K S (ds.take n) (vs.take n)
  | [], _, n, h => by subst h; cases n <;> exact rfl
  | _ :: _, _, 0, ⟨v, r, h1, _, _⟩ => by subst h1; exact rfl
  | _ :: _, _, n + 1, ⟨v, r, h1, h2, h3⟩ => by subst h1; exact ⟨v, _, rfl, h2, RpA.take n h3⟩
theorem RpA.ints : ∀ (ns : List Int), RpA K S (ns.map PyData.int) (ns.map V.int)
  | [] => rfl
  | n :: ns => ⟨.int n, _, rfl, rfl, RpA.ints ns⟩
mutual
def nodct : D → Bool
  | .dict _ => false
  | .list ds => nodctA ds
  | .tuple ds => nodctA ds
  | _ => true
def nodctA : List D → Bool
  | [] => true
  | d :: ds => nodct d && nodctA ds
end
mutual
theorem Rp.dp : ∀ {d : D} {v : V}, nodct d = true → Rp K S d v → Dp K S v d
  | .none, _, _, h => by cases h; exact .non
  | .bool _, _, _, h => by cases h; exact .bl _
  | .int _, _, _, h => by cases h; exact .int _
  | .str _, _, _, h => by cases h; exact .str _
  | .list ds, _, n, ⟨a, xs, h1, h2, h3⟩ => by subst h1; exact .lst (SqL.of h2) (RpA.dp (by simpa [nodct] using n) h3)
  | .tuple ds, _, n, ⟨a, xs, h1, h2, h3⟩ => by subst h1; exact .tup (SqT.of h2) (RpA.dp (by simpa [nodct] using n) h3)
  | .dict _, _, n, _ => by simp [nodct] at n
theorem RpA.dp : ∀ {ds : List D} {vs : List V}, nodctA ds = true → RpA K S ds vs → DpAll K S vs ds
  | [], _, _, h => by subst h; exact .nil
  | d :: ds, _, n, ⟨v, r, h1, h2, h3⟩ => by
    subst h1
    simp only [nodctA, Bool.and_eq_true] at n
    exact .cons (Rp.dp n.1 h2) (RpA.dp n.2 h3)
end
end
inductive SV where
  /-- plain data -/
  | d (x : D)
  /-- an object of this def's own that may be written -/
  | o (a : Addr)
  /-- an instance that no one writes -/
  | ins (C : Addr) (fs : List (Str × D))
  /-- a list that was there ahead of the law -/
  | q (x : List D)
  /-- an error that was caught: where it is, its dict, what it keeps under `at` -/
  | x (a dd : Addr) (d : D)
  /-- a value as it is -/
  | v (v : V)
  /-- not told -/
  | u
def Flds (K : PySem.W.Frag) (S : Hp) : List (Str × D) → List (Str × V) → Prop
  | [], vs => vs = []
  | (n, d) :: fs, vs => ∃ v r, vs = (n, v) :: r ∧ Rp K S d v ∧ Flds K S fs r
def Rel (K : PySem.W.Frag) (S : Hp) : SV → V → Prop
  | .d x, v => Rp K S x v
  | .o a, v => v = .ref a
  | .ins C fs, v => ∃ a dx vs, v = .ref a ∧ S a = some (.ins C dx vs) ∧ Flds K S fs vs
  | .q xs, v => ∃ a vs, v = .ref a ∧ SqL K S a vs ∧ RpA K S xs vs
  | .x a dd d, v => v = .ref a ∧ ∃ w, S dd = some (.xd [("at", w)]) ∧ Rp K S d w
  | .v w, v => v = w
  | .u, _ => True
def RelS (K : PySem.W.Frag) (S : Hp) : SV → Option V → Prop
  | .u, _ => True
  | s, some v => Rel K S s v
  | _, none => False
/-- slots, one by one -/
def Slots (K : PySem.W.Frag) (S : Hp) : List SV → L2.St → Prop
  | [], σ => σ = []
  | s :: ρ, σ => ∃ v r, σ = v :: r ∧ RelS K S s v ∧ Slots K S ρ r
def RelA (K : PySem.W.Frag) (S : Hp) : List SV → List V → Prop
  | [], vs => vs = []
  | s :: ρ, vs => ∃ v r, vs = v :: r ∧ Rel K S s v ∧ RelA K S ρ r
section
variable {K : PySem.W.Frag} {S S' : Hp}
theorem Flds.mono (e : Sub S S') : ∀ {fs : List (Str × D)} {vs : List (Str × V)}, Flds K S fs vs → Flds K S' fs vs
  | [], _, h => h
  | (_, d) :: _, _, ⟨v, r, h1, h2, h3⟩ => ⟨v, r, h1, Rp.mono e d v h2, Flds.mono e h3⟩
theorem Rel.mono (e : Sub S S') : ∀ {s : SV} {v : V}, Rel K S s v → Rel K S' s v
  | .d x, v, h => Rp.mono e x v h
  | .o _, _, h => h
  | .ins _ _, _, ⟨a, dx, vs, h1, h2, h3⟩ => ⟨a, dx, vs, h1, e a _ h2, h3.mono e⟩
  | .q xs, _, ⟨a, vs, h1, h2, h3⟩ => ⟨a, vs, h1, Evl.ex_l e h2, RpA.mono e _ _ h3⟩
  | .x _ dd d, _, ⟨h1, w, h2, h3⟩ => ⟨h1, w, e dd _ h2, Rp.mono e d w h3⟩
  | .v _, _, h => h
  | .u, _, _ => trivial
theorem RelS.mono (e : Sub S S') : ∀ {s : SV} {v : Option V}, RelS K S s v → RelS K S' s v
  | .u, _, _ => trivial
  | .d x, some v, h => Rp.mono e x v h
  | .o _, some _, h => h
  | .ins _ _, some _, h => Rel.mono (s := .ins _ _) e h
  | .q _, some _, h => Rel.mono (s := .q _) e h
  | .x _ _ _, some _, h => Rel.mono (s := .x _ _ _) e h
  | .v _, some _, h => h
  | .d _, none, h => h.elim
  | .o _, none, h => h.elim
  | .ins _ _, none, h => h.elim
  | .q _, none, h => h.elim
  | .x _ _ _, none, h => h.elim
  | .v _, none, h => h.elim
theorem RelS.of : ∀ {s : SV} {v : V}, Rel K S s v → RelS K S s (some v)
  | .u, _, _ => trivial
  | .d _, _, h => h
  | .o _, _, h => h
  | .ins _ _, _, h => h
  | .q _, _, h => h
  | .x _ _ _, _, h => h
  | .v _, _, h => h
theorem RelS.to : ∀ {s : SV} {v : Option V}, s ≠ .u → RelS K S s v → ∃ w, v = some w ∧ Rel K S s w
  | .u, _, n, _ => absurd rfl n
  | .d _, some v, _, h => ⟨v, rfl, h⟩
  | .o _, some v, _, h => ⟨v, rfl, h⟩
  | .ins _ _, some v, _, h => ⟨v, rfl, h⟩
  | .q _, some v, _, h => ⟨v, rfl, h⟩
  | .x _ _ _, some v, _, h => ⟨v, rfl, h⟩
  | .v _, some v, _, h => ⟨v, rfl, h⟩
  | .d _, none, _, h => h.elim
  | .o _, none, _, h => h.elim
  | .ins _ _, none, _, h => h.elim
  | .q _, none, _, h => h.elim
  | .x _ _ _, none, _, h => h.elim
  | .v _, none, _, h => h.elim
theorem Slots.mono (e : Sub S S') : ∀ {ρ : List SV} {σ : L2.St}, Slots K S ρ σ → Slots K S' ρ σ
  | [], _, h => h
  | _ :: _, _, ⟨v, r, h1, h2, h3⟩ => ⟨v, r, h1, h2.mono e, h3.mono e⟩
theorem RelA.mono (e : Sub S S') : ∀ {ρ : List SV} {σ : List V}, RelA K S ρ σ → RelA K S' ρ σ
  | [], _, h => h
  | _ :: _, _, ⟨v, r, h1, h2, h3⟩ => ⟨v, r, h1, h2.mono e, h3.mono e⟩
theorem Slots.at : ∀ {ρ : List SV} {σ : L2.St} {i : Nat} {s : SV}, Slots K S ρ σ → ρ[i]? = some s → ∃ v, σ[i]? = some v ∧ RelS K S s v
  | [], _, _, _, _, e => by simp at e
  | _ :: _, _, 0, _, ⟨v, r, h1, h2, _⟩, e => by simp at e; subst e; subst h1; exact ⟨v, rfl, h2⟩
  | _ :: _, _, i + 1, s, ⟨v, r, h1, _, h3⟩, e => by
    subst h1
    obtain ⟨w, a, b⟩ := Slots.at (i := i) h3 (by simpa using e)
    exact ⟨w, by simpa using a, b⟩
theorem Slots.set {v : Option V} {s : SV} (h : RelS K S s v) : ∀ {ρ : List SV} {σ : L2.St} (i : Nat), Slots K S ρ σ → Slots K S (ρ.set i s) (σ.set i v)
  | [], _, _, e => by subst e; exact rfl
  | _ :: _, _, 0, ⟨w, r, h1, _, h3⟩ => by subst h1; exact ⟨v, r, rfl, h, h3⟩
  | _ :: _, _, i + 1, ⟨w, r, h1, h2, h3⟩ => by subst h1; exact ⟨w, _, rfl, h2, Slots.set h i h3⟩
theorem Slots.len : ∀ {ρ : List SV} {σ : L2.St}, Slots K S ρ σ → σ.length = ρ.length
  | [], _, h => by subst h; rfl
  | _ :: _, _, ⟨_, _, h1, _, h3⟩ => by subst h1; rw [List.length_cons, List.length_cons, Slots.len h3]
theorem RelA.len : ∀ {ρ : List SV} {σ : List V}, RelA K S ρ σ → σ.length = ρ.length
  | [], _, h => by subst h; rfl
  | _ :: _, _, ⟨_, _, h1, _, h3⟩ => by subst h1; rw [List.length_cons, List.length_cons, RelA.len h3]
theorem RelA.slots : ∀ {ρ : List SV} {vs : List V}, RelA K S ρ vs → Slots K S ρ (vs.map some)
  | [], _, h => by subst h; rfl
  | _ :: _, _, ⟨v, r, h1, h2, h3⟩ => by subst h1; exact ⟨some v, _, rfl, RelS.of h2, h3.slots⟩
theorem Slots.app : ∀ {ρ τ : List SV} {σ υ : L2.St}, Slots K S ρ σ → Slots K S τ υ → Slots K S (ρ ++ τ) (σ ++ υ)
  | [], _, _, _, h, g => by subst h; exact g
  | _ :: _, _, _, _, ⟨v, r, h1, h2, h3⟩, g => by subst h1; exact ⟨v, _, rfl, h2, h3.app g⟩
theorem Slots.us : ∀ (n : Nat) (σ : L2.St), σ.length = n → Slots K S (List.replicate n .u) σ
  | 0, σ, h => List.eq_nil_of_length_eq_zero h
  | n + 1, [], h => by simp at h
  | n + 1, v :: r, h => ⟨v, r, rfl, trivial, Slots.us n r (by simpa using h)⟩
theorem RelA.app : ∀ {ρ τ : List SV} {vs ws : List V}, RelA K S ρ vs → RelA K S τ ws → RelA K S (ρ ++ τ) (vs ++ ws)
  | [], _, _, _, h, g => by subst h; exact g
  | _ :: _, _, _, _, ⟨v, r, h1, h2, h3⟩, g => by subst h1; exact ⟨v, _, rfl, h2, h3.app g⟩
theorem RelA.ds : ∀ {ds : List D} {vs : List V}, RelA K S (ds.map SV.d) vs → RpA K S ds vs
  | [], _, h => h
  | _ :: _, _, ⟨v, r, h1, h2, h3⟩ => ⟨v, r, h1, h2, h3.ds⟩
theorem RpA.ra : ∀ {ds : List D} {vs : List V}, RpA K S ds vs → RelA K S (ds.map SV.d) vs
  | [], _, h => h
  | _ :: _, _, ⟨v, r, h1, h2, h3⟩ => ⟨v, r, h1, h2, RpA.ra h3⟩
end
inductive MO where
  | lst (xs : List SV)
  | raw (o : HO)
  /-- what is true of the object, whatever is added -/
  | rel (f : PySem.W.Frag → Hp → HO → Prop) (m : ∀ K S S' o, Sub S S' → f K S o → f K S' o)
abbrev MM := Addr → Option MO
def MOk (K : PySem.W.Frag) (S : Hp) : MO → HO → Prop
  | .lst xs, o => ∃ vs, o = .lst vs ∧ RelA K S xs vs
  | .raw r, o => o = r ∧ ∀ xs, r ≠ .tup xs
  | .rel f _, o => f K S o ∧ ∀ xs, o ≠ .tup xs
theorem MOk.mono {K : PySem.W.Frag} {S S' : Hp} (e : Sub S S') : ∀ {m : MO} {o : HO}, MOk K S m o → MOk K S' m o
  | .lst _, _, ⟨vs, h1, h2⟩ => ⟨vs, h1, h2.mono e⟩
  | .raw _, _, h => h
  | .rel _ m, _, ⟨h, k⟩ => ⟨m _ _ _ _ e h, k⟩
def mset (M : MM) (a : Addr) (m : MO) : MM := fun b => if b = a then some m else M b
theorem mset_same {M : MM} {a : Addr} {m : MO} : mset M a m a = some m := if_pos rfl
theorem mset_ne {M : MM} {a b : Addr} {m : MO} (h : b ≠ a) : mset M a m b = M b := if_neg h
/-- less is said -/
def MLe (M M' : MM) : Prop := ∀ a m, M a = some m → M' a = some m
theorem MLe.rfl' (M : MM) : MLe M M := fun _ _ h => h
theorem MLe.new {M M' : MM} {p : Addr} {m : MO} (h : M p = none) (e : MLe M M') : MLe M (mset M' p m) := fun a n q => by
  by_cases ha : a = p
  · subst ha; rw [h] at q; cases q
  · rw [mset_ne ha]; exact e a n q
theorem MLe.tr {A B C : MM} (x : MLe A B) (y : MLe B C) : MLe A C := fun a m h => y a m (x a m h)
/-- the state ahead of a def's body -/
structure Gh where
  S0 : Hp
  H0 : Hp
  F0 : Addr → Prop
/-- the heap: S holds what no one writes any more, M what this def may write; what is neither (the callers') stays -/
structure Hst (K : PySem.W.Frag) (G : Gh) (S H : Hp) (M : MM) : Prop where
  sub : Sub S H
  own : ∀ a m, M a = some m → S a = none ∧ ∃ o, H a = some o ∧ MOk K S m o
  g1 : Sub G.S0 S
  g2 : ∀ a o, G.H0 a = some o → ¬ G.F0 a → H a = some o
  g3 : ∀ a, S a ≠ none → G.S0 a ≠ none ∨ G.H0 a = none ∨ G.F0 a ∨ ∃ xs, G.H0 a = some (.tup xs)
  g4 : ∀ a, M a ≠ none → G.H0 a = none ∨ G.F0 a
structure Sta (K : PySem.W.Frag) (G : Gh) (S H : Hp) (σ : L2.St) (ρ : List SV) (M : MM) : Prop where
  hst : Hst K G S H M
  sl : Slots K S ρ σ
section
variable {K : PySem.W.Frag} {G : Gh} {S S' H H' : Hp} {σ : L2.St} {ρ : List SV} {M M' : MM}
theorem Hst.free (h : Hst K G S H M) {p : Addr} (n : H p = none) : S p = none ∧ M p = none := by
  refine ⟨h.sub.fresh n, ?_⟩
  cases e : M p with
  | none => rfl
  | some m =>
    obtain ⟨_, o, q, _⟩ := h.own p m e
    rw [n] at q; cases q
theorem Hst.back (h : Hst K G S H M) {p : Addr} (n : H p = none) : G.H0 p = none ∨ G.F0 p := by
  by_cases f : G.F0 p
  · exact .inr f
  · refine .inl ?_
    cases e : G.H0 p with
    | none => rfl
    | some o => rw [h.g2 p o e f] at n; cases n
theorem Hst.less (h : Hst K G S H M) (e : MLe M' M) : Hst K G S H M' :=
  ⟨h.sub, fun a m q => h.own a m (e a m q), h.g1, h.g2, h.g3, fun a q => h.g4 a (fun z => q (by
    cases r : M' a with
    | none => rfl
    | some m => rw [e a m r] at z; cases z))⟩
theorem Sta.less (h : Sta K G S H σ ρ M) (e : MLe M' M) : Sta K G S H σ ρ M' := ⟨h.hst.less e, h.sl⟩
/-- a new object that no one writes -/
theorem Hst.newS (h : Hst K G S H M) {p : Addr} {o : HO} (n : H p = none) : Hst K G (upd S p o) (upd H p o) M := by
  obtain ⟨nS, nM⟩ := h.free n
  have e : Sub S (upd S p o) := Evl.Ex.new nS
  refine ⟨h.sub.both, fun a m q => ?_, h.g1.tr e, fun a u q f => ?_, fun a q => ?_, h.g4⟩
  · obtain ⟨h1, u, h2, h3⟩ := h.own a m q
    have na : a ≠ p := fun z => by subst z; rw [nM] at q; cases q
    exact ⟨by rw [upd_ne na]; exact h1, u, by rw [upd_ne na]; exact h2, h3.mono e⟩
  · have x := h.g2 a u q f
    have na : a ≠ p := fun z => by subst z; rw [n] at x; cases x
    rw [upd_ne na]; exact x
  · by_cases ha : a = p
    · subst ha
      rcases h.back n with z | z
      · exact .inr (.inl z)
      · exact .inr (.inr (.inl z))
    · rw [upd_ne ha] at q
      exact h.g3 a q
/-- a new object of one's own -/
theorem Hst.newM (h : Hst K G S H M) {p : Addr} {o : HO} {m : MO} (n : H p = none) (ok : MOk K S m o) : Hst K G S (upd H p o) (mset M p m) := by
  obtain ⟨nS, nM⟩ := h.free n
  refine ⟨fun a u q => ?_, fun a k q => ?_, h.g1, fun a u q f => ?_, h.g3, fun a q => ?_⟩
  · have na : a ≠ p := fun z => by subst z; rw [nS] at q; cases q
    rw [upd_ne na]; exact h.sub a u q
  · by_cases ha : a = p
    · subst ha
      rw [mset_same] at q; cases q
      exact ⟨nS, o, upd_same, ok⟩
    · rw [mset_ne ha] at q
      obtain ⟨h1, u, h2, h3⟩ := h.own a k q
      exact ⟨h1, u, by rw [upd_ne ha]; exact h2, h3⟩
  · have x := h.g2 a u q f
    have na : a ≠ p := fun z => by subst z; rw [n] at x; cases x
    rw [upd_ne na]; exact x
  · by_cases ha : a = p
    · subst ha; exact h.back n
    · rw [mset_ne ha] at q; exact h.g4 a q
def mdel (M : MM) (p : Addr) : MM := fun b => if b = p then none else M b
theorem mdel_ne {M : MM} {a b : Addr} (h : b ≠ a) : mdel M a b = M b := if_neg h
theorem mdel_same {M : MM} {a : Addr} : mdel M a a = none := if_pos rfl
theorem mle_mdel_mset {M : MM} {p : Addr} {m : MO} (h : M p = none) : MLe M (mdel (mset M p m) p) := fun a k q => by
  have ha : a ≠ p := fun z => by subst z; rw [h] at q; cases q
  rw [mdel_ne ha, mset_ne ha]; exact q
/-- an object of one's own is not written any more -/
theorem Hst.freeze (h : Hst K G S H M) {p : Addr} {o : HO} {m : MO} (e : M p = some m) (ho : H p = some o) : Hst K G (upd S p o) H (mdel M p) := by
  obtain ⟨nS, _, _, _⟩ := h.own p m e
  have x : Sub S (upd S p o) := Evl.Ex.new nS
  refine ⟨h.sub.up nS ho, fun a k q => ?_, h.g1.tr x, h.g2, fun a q => ?_, fun a q => ?_⟩
  · have na : a ≠ p := fun z => by subst z; rw [mdel_same] at q; cases q
    rw [mdel_ne na] at q
    obtain ⟨h1, u, h2, h3⟩ := h.own a k q
    exact ⟨by rw [upd_ne na]; exact h1, u, h2, h3.mono x⟩
  · by_cases ha : a = p
    · subst ha
      rcases h.g4 a (by rw [e]; exact fun z => nomatch z) with z | z
      · exact .inr (.inl z)
      · exact .inr (.inr (.inl z))
    · rw [upd_ne ha] at q; exact h.g3 a q
  · have na : a ≠ p := fun z => by subst z; exact q mdel_same
    rw [mdel_ne na] at q; exact h.g4 a q
/-- the abstract heap grows, S and M as they are -/
theorem Hst.grow (h : Hst K G S H M) (e : Sub H H') : Hst K G S H' M :=
  ⟨h.sub.tr e, fun a m q => let ⟨h1, u, h2, h3⟩ := h.own a m q; ⟨h1, u, e a u h2, h3⟩, h.g1, fun a o q f => e a o (h.g2 a o q f), h.g3, h.g4⟩
end
end NL
set_option Elab.async false
set_option linter.all false
set_option maxRecDepth 100000
set_option maxHeartbeats 4000000
namespace NL
open PySem PySem.Spec L2
open PyProof.Rows hiding St
structure semE' (X : Cx) (e : Expr) (σ : L2.St) (H : Hp) (Q : VK) : Prop where
  run : ∀ pins s, Inv X pins σ H s → wpAny (model X.prog X.w) X.A (eval e X.env) (EP X pins σ Q) X.xe s
def semE (X : Cx) (e : Expr) : TE := fun σ H Q => semE' X e σ H Q
structure semT' (X : Cx) (e : Expr) (σ : L2.St) (H : Hp) (Q : Bool → Hp → Prop) : Prop where
  run : ∀ pins s, Inv X pins σ H s → wpAny (model X.prog X.w) X.A (isTrue e X.env (eval e X.env)) (TP X pins σ Q) X.xe s
def semT (X : Cx) (e : Expr) : TT := fun σ H Q => semT' X e σ H Q
structure semW' (X : Cx) (e : Expr) (σ : L2.St) (H : Hp) (Q : Bool → Hp → Prop) : Prop where
  run : ∀ (whole : Sem Value) pins s, Inv X pins σ H s → wpAny (model X.prog X.w) X.A (isTrue e X.env whole) (TP X pins σ Q) X.xe s
def semW (X : Cx) (e : Expr) : TT := fun σ H Q => semW' X e σ H Q
structure semA' (X : Cx) (es : List Expr) (σ : L2.St) (H : Hp) (Q : List V → Hp → Prop) : Prop where
  run : ∀ (pos : Pos) pins s, Inv X pins σ H s → wpAny (model X.prog X.w) X.A (spliced (backTo pos (starEach es X.env))) (AP X pins σ Q) X.xe s
def semA (X : Cx) (es : List Expr) : TA := fun σ H Q => semA' X es σ H Q
structure semS' (X : Cx) (st : Stmt) (D : Ends) (σ : L2.St) (H : Hp) : Prop where
  run : ∀ pins s, Inv X pins σ H s → wpAny (model X.prog X.w) X.A (exec st X.env) (SP X pins D) X.xe s
def semS (X : Cx) (st : Stmt) : TS := fun D σ H => semS' X st D σ H
structure semB' (X : Cx) (b : List Stmt) (D : Ends) (σ : L2.St) (H : Hp) : Prop where
  run : ∀ pins s, Inv X pins σ H s → wpAny (model X.prog X.w) X.A (execs b X.env) (SP X pins D) X.xe s
def semB (X : Cx) (b : List Stmt) : TS := fun D σ H => semB' X b D σ H
structure semI' (X : Cx) (tg it : Expr) (σ : L2.St) (H : Hp) (R : It → Hp → Prop) : Prop where
  run : ∀ pins s, Inv X pins σ H s → wpAny (model X.prog X.w) X.A (eval it X.env) (fun v s1 => wpAny (model X.prog X.w) X.A (pyIter v) (PIE X pins σ tg R) X.xe s1) X.xe s
def semI (X : Cx) (tg it : Expr) : TI := fun σ H R => semI' X tg it σ H R
section
variable {X : Cx}
theorem peS {e : Expr} : PE X e (semE X e) := ⟨fun pins s _ _ _ I h => h.run pins s I⟩
theorem ptS {e : Expr} : PT X e (semT X e) := ⟨fun pins s _ _ _ I h => h.run pins s I⟩
theorem pwS {e : Expr} : PW X e (semW X e) := ⟨fun w pins s _ _ _ I h => h.run w pins s I⟩
theorem paS {es : List Expr} : PA X es (semA X es) := ⟨fun p pins s _ _ _ I h => h.run p pins s I⟩
theorem psS {st : Stmt} : PS X st (semS X st) := ⟨fun pins s _ _ _ I h => h.run pins s I⟩
theorem pbS {b : List Stmt} : PSs X b (semB X b) := ⟨fun pins s _ _ _ I h => h.run pins s I⟩
theorem piS {tg it : Expr} : PI X tg it (semI X tg it) := ⟨fun pins s _ _ _ I h => h.run pins s I⟩
theorem PE.go {e : Expr} {t : TE} (p : PE X e t) {σ H Q} (h : t σ H Q) : semE X e σ H Q := ⟨fun pins s I => p.run pins s σ H Q I h⟩
theorem PT.go {e : Expr} {t : TT} (p : PT X e t) {σ H Q} (h : t σ H Q) : semT X e σ H Q := ⟨fun pins s I => p.run pins s σ H Q I h⟩
theorem PW.go {e : Expr} {t : TT} (p : PW X e t) {σ H Q} (h : t σ H Q) : semW X e σ H Q := ⟨fun w pins s I => p.run w pins s σ H Q I h⟩
theorem PA.go {es : List Expr} {t : TA} (p : PA X es t) {σ H Q} (h : t σ H Q) : semA X es σ H Q := ⟨fun ps pins s I => p.run ps pins s σ H Q I h⟩
theorem PS.go {st : Stmt} {t : TS} (p : PS X st t) {σ H D} (h : t D σ H) : semS X st D σ H := ⟨fun pins s I => p.run pins s σ H D I h⟩
theorem PSs.go {b : List Stmt} {t : TS} (p : PSs X b t) {σ H D} (h : t D σ H) : semB X b D σ H := ⟨fun pins s I => p.run pins s σ H D I h⟩
theorem PI.go {tg it : Expr} {t : TI} (p : PI X tg it t) {σ H R} (h : t σ H R) : semI X tg it σ H R := ⟨fun pins s I => p.run pins s σ H R I h⟩
theorem semE.mono {e : Expr} {σ H} {Q Q' : VK} (h : semE X e σ H Q) (k : ∀ v H', Q v H' → Q' v H') : semE X e σ H Q' := ⟨fun pins s I =>
  thn (h.run pins s I) fun _ _ ⟨v, H', a, b, c⟩ => ⟨v, H', a, b, k v H' c⟩⟩
theorem semT.mono {e : Expr} {σ H} {Q Q' : Bool → Hp → Prop} (h : semT X e σ H Q) (k : ∀ v H', Q v H' → Q' v H') : semT X e σ H Q' := ⟨fun pins s I =>
  thn (h.run pins s I) fun _ _ ⟨H', a, c⟩ => ⟨H', a, k _ H' c⟩⟩
end
section
variable (X : Cx) (G : Gh)
/-- e gives d -/
def jE (e : Expr) (ρ : List SV) (M : MM) (d : SV) (M' : MM) : Prop := ∀ S H σ, Sta X.K G S H σ ρ M → ∀ Q : VK,
  (∀ v S' H', Sub S S' → Sta X.K G S' H' σ ρ M' → Rel X.K S' d v → Q v H') → semE X e σ H Q
/-- e gives a new list of one's own -/
def jL (e : Expr) (ρ : List SV) (M : MM) (ds : List SV) (M' : MM) : Prop := ∀ S H σ, Sta X.K G S H σ ρ M → ∀ Q : VK,
  (∀ p S' H', Sub S S' → M' p = none → Sta X.K G S' H' σ ρ (mset M' p (.lst ds)) → Q (.ref p) H') → semE X e σ H Q
def jT (e : Expr) (ρ : List SV) (M : MM) (b : Bool) (M' : MM) : Prop := ∀ S H σ, Sta X.K G S H σ ρ M → ∀ Q : Bool → Hp → Prop,
  (∀ S' H', Sub S S' → Sta X.K G S' H' σ ρ M' → Q b H') → semT X e σ H Q
def jW (e : Expr) (ρ : List SV) (M : MM) (b : Bool) (M' : MM) : Prop := ∀ S H σ, Sta X.K G S H σ ρ M → ∀ Q : Bool → Hp → Prop,
  (∀ S' H', Sub S S' → Sta X.K G S' H' σ ρ M' → Q b H') → semW X e σ H Q
def jA (es : List Expr) (ρ : List SV) (M : MM) (ds : List SV) (M' : MM) : Prop := ∀ S H σ, Sta X.K G S H σ ρ M → ∀ Q : List V → Hp → Prop,
  (∀ vs S' H', Sub S S' → Sta X.K G S' H' σ ρ M' → RelA X.K S' ds vs → Q vs H') → semA X es σ H Q
/-- an operation on two values, one, a list of values -/
def j2 (r : R2) (M : MM) (x y : SV) (z : SV) (M' : MM) : Prop := ∀ S H σ ρ u v, Sta X.K G S H σ ρ M → Rel X.K S x u → Rel X.K S y v → ∀ Q : VK,
  (∀ w S' H', Sub S S' → Sta X.K G S' H' σ ρ M' → Rel X.K S' z w → Q w H') → r u v H Q
def j1 (r : V → Hp → VK → Prop) (M : MM) (x : SV) (z : SV) (M' : MM) : Prop := ∀ S H σ ρ u, Sta X.K G S H σ ρ M → Rel X.K S x u → ∀ Q : VK,
  (∀ w S' H', Sub S S' → Sta X.K G S' H' σ ρ M' → Rel X.K S' z w → Q w H') → r u H Q
def jC (r : List V → Hp → VK → Prop) (M : MM) (xs : List SV) (z : SV) (M' : MM) : Prop := ∀ S H σ ρ us, Sta X.K G S H σ ρ M → RelA X.K S xs us → ∀ Q : VK,
  (∀ w S' H', Sub S S' → Sta X.K G S' H' σ ρ M' → Rel X.K S' z w → Q w H') → r us H Q
/-- the same with a new list as its answer -/
def j2L (r : R2) (M : MM) (x y : SV) (ds : List SV) (M' : MM) : Prop := ∀ S H σ ρ u v, Sta X.K G S H σ ρ M → Rel X.K S x u → Rel X.K S y v → ∀ Q : VK,
  (∀ p S' H', Sub S S' → M' p = none → Sta X.K G S' H' σ ρ (mset M' p (.lst ds)) → Q (.ref p) H') → r u v H Q
end
/-- what is wanted behind a statement -/
structure Post where
  nx : List SV → MM → Prop
  rt : SV → MM → Prop
  bk : List SV → MM → Prop := fun _ _ => False
  ct : List SV → MM → Prop := fun _ _ => False
structure Fits (K : PySem.W.Frag) (G : Gh) (P : Post) (D : Ends) : Prop where
  nx : ∀ S H σ ρ M, Sta K G S H σ ρ M → P.nx ρ M → D.nx σ H
  rt : ∀ S H M d v, Hst K G S H M → Rel K S d v → P.rt d M → D.rt v H
  bk : ∀ S H σ ρ M, Sta K G S H σ ρ M → P.bk ρ M → D.bk σ H
  ct : ∀ S H σ ρ M, Sta K G S H σ ρ M → P.ct ρ M → D.ct σ H
def jS (X : Cx) (G : Gh) (st : Stmt) (ρ : List SV) (M : MM) (P : Post) : Prop := ∀ S H σ, Sta X.K G S H σ ρ M → ∀ D, Fits X.K G P D → semS X st D σ H
def jB (X : Cx) (G : Gh) (b : List Stmt) (ρ : List SV) (M : MM) (P : Post) : Prop := ∀ S H σ, Sta X.K G S H σ ρ M → ∀ D, Fits X.K G P D → semB X b D σ H
section
variable {X : Cx} {G : Gh} {ρ : List SV} {M M1 M2 M3 : MM} {d d1 d2 x y z : SV} {ds : List SV} {e a b c : Expr} {es : List Expr} {pos : Pos} {k : Bool}
theorem e_var {i : Nat} {n : Str} (hN : X.N[i]? = some n := by rfl) (hv : Vis X.env.scope n := by first | exact Or.inl rfl | exact Or.inr (Or.inl rfl) | exact Or.inr (Or.inr rfl)) (hr : ρ[i]? = some d := by rfl) (hd : d ≠ .u := by exact fun q => nomatch q)
    (h1 : (n == ("__debug__" : Str)) = false := by decide) (h2 : (n == ("__classdict__" : Str)) = false := by decide) : jE X G (.Name n pos) ρ M d M := fun S H σ st Q q => by
  obtain ⟨w, e1, r⟩ := st.sl.at hr
  obtain ⟨v, ew, r2⟩ := RelS.to hd r
  subst ew
  exact PE.go (pe_var hN hv h1 h2) ⟨v, e1, q v S H (Sub.rfl' S) st r2⟩
theorem e_int {i : Int} {j : Nat} : jE X G (.Constant (.int i) j pos) ρ M (.d (.int i)) M := fun S H σ st Q q => PE.go pe_int (q _ S H (Sub.rfl' S) st rfl)
theorem e_bl {i : Bool} {j : Nat} : jE X G (.Constant (.bool i) j pos) ρ M (.d (.bool i)) M := fun S H σ st Q q => PE.go pe_bl (q _ S H (Sub.rfl' S) st rfl)
theorem e_non {j : Nat} : jE X G (.Constant .none j pos) ρ M (.d .none) M := fun S H σ st Q q => PE.go pe_non (q _ S H (Sub.rfl' S) st rfl)
theorem e_str {i : Str} {j : Nat} : jE X G (.Constant (.str i) j pos) ρ M (.d (.str i)) M := fun S H σ st Q q => PE.go pe_str (q _ S H (Sub.rfl' S) st rfl)
theorem e_glob {n : Str} {v : V} {u : Value} (hg : Gl X n) (hm : X.mg n = some u) (r : RelV v u) (hd : (n == ("__debug__" : Str)) = false := by decide) : jE X G (.Name n pos) ρ M (.v v) M := fun S H σ st Q q =>
  PE.go (pe_glob hg hm r hd) (q v S H (Sub.rfl' S) st rfl)
theorem e_bltn {n : Str} {v : V} {u : Value} (hg : Gl X n) (hm : X.mg n = none) (hv : bootBuiltins n = some u) (r : RelV v u) (hn : n ≠ "__name__" := by decide) (hd : (n == ("__debug__" : Str)) = false := by decide) :
    jE X G (.Name n pos) ρ M (.v v) M := fun S H σ st Q q => PE.go (pe_bltn hg hm hv r hn hd) (q v S H (Sub.rfl' S) st rfl)
theorem jE.is {d' : SV} (h : jE X G e ρ M d M1) (q : d = d') : jE X G e ρ M d' M1 := q ▸ h
theorem jT.is {k' : Bool} (h : jT X G e ρ M k M1) (q : k = k') : jT X G e ρ M k' M1 := q ▸ h
theorem frz_list {K : PySem.W.Frag} {S H : Hp} {σ : L2.St} {M : MM} {p : Addr} {xs : List D} (n : M p = none) (st : Sta K G S H σ ρ (mset M p (.lst (xs.map SV.d)))) :
    ∃ S', Sub S S' ∧ Sta K G S' H σ ρ M ∧ Rp K S' (.list xs) (.ref p) := by
  obtain ⟨nS, o, ho, vs, rfl, r⟩ := st.hst.own p _ mset_same
  have e : Sub S (upd S p (.lst vs)) := Evl.Ex.new nS
  refine ⟨_, e, ⟨(st.hst.freeze mset_same ho).less (mle_mdel_mset n), st.sl.mono e⟩, p, vs, rfl, upd_same, RpA.mono e _ _ r.ds⟩
theorem e_ofL {xs : List D} (h : jL X G e ρ M (xs.map SV.d) M1) : jE X G e ρ M (.d (.list xs)) M1 := fun S H σ st Q q => h S H σ st Q fun p S' H' e1 n st' => by
  obtain ⟨S2, e2, st2, r⟩ := frz_list n st'
  exact q _ S2 H' (e1.tr e2) st2 r
theorem e_ofL' {ds : List SV} {xs : List D} (h : jL X G e ρ M ds M1) (q : ds = xs.map SV.d) : jE X G e ρ M (.d (.list xs)) M1 := e_ofL (q ▸ h)
theorem e_bin {op : Operator} {r : R2} (ho : OpR X (binaryOp op) r) (ha : jE X G a ρ M x M1) (hb : jE X G b ρ M1 y M2) (h : j2 X G r M2 x y z M3) : jE X G (.BinOp a op b pos) ρ M z M3 := fun S H σ st Q q =>
  PE.go (pe_op ho peS peS) (ha S H σ st _ fun u S1 H1 e1 st1 r1 => hb S1 H1 σ st1 _ fun v S2 H2 e2 st2 r2 =>
    h S2 H2 σ ρ u v st2 (r1.mono e2) r2 Q fun w S3 H3 e3 st3 r3 => q w S3 H3 ((e1.tr e2).tr e3) st3 r3)
theorem e_binL {op : Operator} {r : R2} (ho : OpR X (binaryOp op) r) (ha : jE X G a ρ M x M1) (hb : jE X G b ρ M1 y M2) (h : j2L X G r M2 x y ds M3) : jL X G (.BinOp a op b pos) ρ M ds M3 := fun S H σ st Q q =>
  PE.go (pe_op ho peS peS) (ha S H σ st _ fun u S1 H1 e1 st1 r1 => hb S1 H1 σ st1 _ fun v S2 H2 e2 st2 r2 =>
    h S2 H2 σ ρ u v st2 (r1.mono e2) r2 Q fun p S3 H3 e3 n st3 => q p S3 H3 ((e1.tr e2).tr e3) n st3)
theorem e_un {op : UnaryOp} {r : V → Hp → VK → Prop} (ho : UnR X (unaryOp op) r) (ha : jE X G a ρ M x M1) (h : j1 X G r M1 x z M2) : jE X G (.UnaryOp op a pos) ρ M z M2 := fun S H σ st Q q =>
  PE.go (pe_un ho peS) (ha S H σ st _ fun u S1 H1 e1 st1 r1 => h S1 H1 σ ρ u st1 r1 Q fun w S3 H3 e3 st3 r3 => q w S3 H3 (e1.tr e3) st3 r3)
theorem e_cmp {op : CmpOp} {r : R2} (ho : OpR X (compareOp op) r) (ha : jE X G a ρ M x M1) (hb : jE X G b ρ M1 y M2) (h : j2 X G r M2 x y z M3) (hm : behindInMarks op b = false) : jE X G (.Compare a [op] [b] pos) ρ M z M3 := fun S H σ st Q q =>
  PE.go (pe_cmpR ho peS peS hm) (ha S H σ st _ fun u S1 H1 e1 st1 r1 => hb S1 H1 σ st1 _ fun v S2 H2 e2 st2 r2 =>
    h S2 H2 σ ρ u v st2 (r1.mono e2) r2 Q fun w S3 H3 e3 st3 r3 => q w S3 H3 ((e1.tr e2).tr e3) st3 r3)
theorem t_cmp {op : CmpOp} {r : R2} (ho : OpR X (compareOp op) r) (ha : jE X G a ρ M x M1) (hb : jE X G b ρ M1 y M2) (h : j2 X G r M2 x y (.d (.bool k)) M3) (hm : behindInMarks op b = false) : jT X G (.Compare a [op] [b] pos) ρ M k M3 := fun S H σ st Q q =>
  PT.go (pt_cmpR ho peS peS hm) (ha S H σ st _ fun u S1 H1 e1 st1 r1 => hb S1 H1 σ st1 _ fun v S2 H2 e2 st2 r2 =>
    h S2 H2 σ ρ u v st2 (r1.mono e2) r2 _ fun w S3 H3 e3 st3 r3 => ⟨k, r3, q S3 H3 ((e1.tr e2).tr e3) st3⟩)
theorem t_val (h : jE X G e ρ M (.d (.bool k)) M1) (he : ∀ whole, isTrue e X.env whole = (do let v ← whole; standAt e.pos; holding [v] (truthy v)) := by intro _; rfl) : jT X G e ρ M k M1 := fun S H σ st Q q =>
  PT.go (pt_val peS he) (h S H σ st _ fun v S1 H1 e1 st1 r1 => ⟨k, r1, q S1 H1 e1 st1⟩)
theorem t_not (h : jT X G e ρ M k M1) : jT X G (.UnaryOp .Not e pos) ρ M (!k) M1 := fun S H σ st Q q => PT.go (pt_not ptS) (h S H σ st _ fun S1 H1 e1 st1 => q S1 H1 e1 st1)
theorem t_ofW (h : jW X G e ρ M k M1) : jT X G e ρ M k M1 := fun S H σ st Q q => PT.go (PW.pt pwS) (h S H σ st Q q)
theorem w_or1 (h : jT X G a ρ M k M1) : jW X G (.BoolOp .Or [a] pos) ρ M k M1 := fun S H σ st Q q => PW.go (pw_or1 ptS) (h S H σ st Q q)
theorem w_or {k2 : Bool} {rest : List Expr} (h : jT X G a ρ M k M1) (h2 : k = false → jW X G (.BoolOp .Or (b :: rest) pos) ρ M1 k2 M2) (hM : k = true → M2 = M1) : jW X G (.BoolOp .Or (a :: b :: rest) pos) ρ M (k || k2) M2 := fun S H σ st Q q =>
  PW.go (pw_or ptS pwS) (h S H σ st _ fun S1 H1 e1 st1 => by
    cases k with
    | false => exact iteF (h2 rfl S1 H1 σ st1 _ fun S2 H2 e2 st2 => q S2 H2 (e1.tr e2) st2)
    | true => exact iteT (q S1 H1 e1 (by rw [hM rfl]; exact st1)))
theorem e_one {op} (h : jE X G a ρ M d M1) : jE X G (.BoolOp op [a] pos) ρ M d M1 := fun S H σ st Q q => PE.go (pe_one peS) (h S H σ st Q q)
theorem e_or {k2 : Bool} {rest : List Expr} (h : jE X G a ρ M (.d (.bool k)) M1) (h2 : k = false → jE X G (.BoolOp .Or (b :: rest) pos) ρ M1 (.d (.bool k2)) M2) (hM : k = true → M2 = M1) : jE X G (.BoolOp .Or (a :: b :: rest) pos) ρ M (.d (.bool (k || k2))) M2 := fun S H σ st Q q =>
  PE.go (pe_or peS peS) (h S H σ st _ fun v S1 H1 e1 st1 r1 => ⟨k, r1, by
    cases k with
    | false => exact iteF (h2 rfl S1 H1 σ st1 _ fun v2 S2 H2 e2 st2 r2 => q v2 S2 H2 (e1.tr e2) st2 r2)
    | true => exact iteT (q _ S1 H1 e1 (by rw [hM rfl]; exact st1) rfl)⟩)
theorem e_if (hc : jT X G c ρ M k M1) (h1 : k = true → jE X G a ρ M1 d M2) (h2 : k = false → jE X G b ρ M1 d M2) : jE X G (.IfExp c a b pos) ρ M d M2 := fun S H σ st Q q =>
  PE.go (pe_ifExp ptS peS peS) (hc S H σ st _ fun S1 H1 e1 st1 => by
    cases k with
    | true => exact iteT (h1 rfl S1 H1 σ st1 Q fun v S2 H2 e2 st2 r => q v S2 H2 (e1.tr e2) st2 r)
    | false => exact iteF (h2 rfl S1 H1 σ st1 Q fun v S2 H2 e2 st2 r => q v S2 H2 (e1.tr e2) st2 r))
theorem a_nil : jA X G [] ρ M [] M := fun S H σ st Q q => PA.go pa_nil (q [] S H (Sub.rfl' S) st rfl)
theorem a_cons (h : jE X G e ρ M d M1) (hr : jA X G es ρ M1 ds M2) (hs : starEach (e :: es) X.env = (false, eval e X.env) :: starEach es X.env := by rfl) : jA X G (e :: es) ρ M (d :: ds) M2 := fun S H σ st Q q =>
  PA.go (pa_cons peS paS hs) (h S H σ st _ fun v S1 H1 e1 st1 r1 => hr S1 H1 σ st1 _ fun vs S2 H2 e2 st2 r2 => q _ S2 H2 (e1.tr e2) st2 ⟨v, vs, rfl, r1.mono e2, r2⟩)
theorem sz_le {n : Nat} (h : n ≤ 1000000) : n ≤ sizeLine := Nat.le_trans h (by decide)
theorem sz_lt {n : Nat} (h : n ≤ 1000000) : n < sizeLine := Nat.lt_of_le_of_lt h (by decide)
theorem e_tup {xs : List D} {x1} (h : jA X G es ρ M (xs.map SV.d) M1) (hl : xs.length ≤ 1000000 := by first | decide | exact Nat.le_of_ble_eq_true rfl) : jE X G (.Tuple es x1 pos) ρ M (.d (.tuple xs)) M1 := fun S H σ st Q q =>
  PE.go (pe_tup paS) (h S H σ st _ fun vs S1 H1 e1 st1 r1 => ⟨by rw [r1.len, List.length_map]; exact sz_le hl, fun p np => by
    obtain ⟨nS, _⟩ := st1.hst.free np
    have e2 : Sub S1 (upd S1 p (.tup vs)) := Evl.Ex.new nS
    exact q _ _ _ (e1.tr e2) ⟨st1.hst.newS np, st1.sl.mono e2⟩ ⟨p, vs, rfl, upd_same, RpA.mono e2 _ _ r1.ds⟩⟩)
theorem e_lst (h : jA X G es ρ M ds M1) (hl : ds.length ≤ 1000000 := by first | decide | exact Nat.le_of_ble_eq_true rfl) : jL X G (.List es pos) ρ M ds M1 := fun S H σ st Q q =>
  PE.go (pe_lst paS) (h S H σ st _ fun vs S1 H1 e1 st1 r1 => ⟨by rw [r1.len]; exact sz_le hl, fun p np => q p S1 _ e1 (st1.hst.free np).2 ⟨st1.hst.newM np ⟨vs, rfl, r1⟩, st1.sl⟩⟩)
theorem e_callB {r : List V → Hp → VK → Prop} {id : String} {n : Str} {p : Pos} (hc : CallR X (.builtin id) r) (ha : jA X G (e :: es) ρ M ds M1) (h : jC X G r M1 ds z M2) (hg : Gl X n) (hm : X.mg n = none) (hv : bootBuiltins n = some (.builtin id))
    (hn : n ≠ "__name__" := by decide) (hdb : (n == ("__debug__" : Str)) = false := by decide) (he : starEach (e :: es) X.env = (false, eval e X.env) :: starEach es X.env := by rfl) (hpl : (backTo pos (starEach es X.env)).any (·.1) = false := by rfl) :
    jE X G (.Call (.Name n p) (e :: es) [] pos) ρ M z M2 := fun S H σ st Q q =>
  PE.go (pe_callB hc hg hm hv paS hn hdb he hpl) (ha S H σ st _ fun us S1 H1 e1 st1 r1 => h S1 H1 σ ρ us st1 r1 Q fun w S2 H2 e2 st2 r2 => q w S2 H2 (e1.tr e2) st2 r2)
theorem e_callT {r : List V → Hp → VK → Prop} {T : String} {n : Str} {p : Pos} (hc : CallR X (.type T) r) (ha : jA X G (e :: es) ρ M ds M1) (h : jC X G r M1 ds z M2) (hg : Gl X n) (hm : X.mg n = none) (hv : bootBuiltins n = some (.type T))
    (hn : n ≠ "__name__" := by decide) (hdb : (n == ("__debug__" : Str)) = false := by decide) (he : starEach (e :: es) X.env = (false, eval e X.env) :: starEach es X.env := by rfl) (hpl : (backTo pos (starEach es X.env)).any (·.1) = false := by rfl) :
    jE X G (.Call (.Name n p) (e :: es) [] pos) ρ M z M2 := fun S H σ st Q q =>
  PE.go (pe_callTy hc hg hm hv paS hn hdb he hpl) (ha S H σ st _ fun us S1 H1 e1 st1 r1 => h S1 H1 σ ρ us st1 r1 Q fun w S2 H2 e2 st2 r2 => q w S2 H2 (e1.tr e2) st2 r2)
/-- o[i] -/
theorem e_ix {r : R2} (hr : IxR X r) (ha : jE X G a ρ M x M1) (hb : jE X G b ρ M1 y M2) (h : j2 X G r M2 x y z M3) (hs : PlainIx b := by exact fun _ _ => rfl) : jE X G (.Subscript a b pos) ρ M z M3 := fun S H σ st Q q =>
  PE.go (pe_ix hr peS peS hs) (ha S H σ st _ fun u S1 H1 e1 st1 r1 => hb S1 H1 σ st1 _ fun v S2 H2 e2 st2 r2 =>
    h S2 H2 σ ρ u v st2 (r1.mono e2) r2 Q fun w S3 H3 e3 st3 r3 => q w S3 H3 ((e1.tr e2).tr e3) st3 r3)
end
section
variable {X : Cx} {G : Gh} {ρ : List SV} {M M1 M2 : MM} {P : Post} {st : Stmt} {rest : List Stmt} {e c : Expr} {d : SV} {ds : List SV} {pos p' : Pos} {k : Bool}
theorem Fits.nxt {K : PySem.W.Frag} {D : Ends} {N : List SV → MM → Prop} {Dn : L2.St → Hp → Prop} (h : Fits K G P D) (k : ∀ S H σ ρ M, Sta K G S H σ ρ M → N ρ M → Dn σ H) : Fits K G { P with nx := N } { D with nx := Dn } := ⟨k, h.rt, h.bk, h.ct⟩
theorem b_nil (h : P.nx ρ M) : jB X G [] ρ M P := fun S H σ s D f => PSs.go pss_nil (f.nx S H σ ρ M s h)
theorem b_cons (h : jS X G st ρ M { P with nx := fun ρ' M' => jB X G rest ρ' M' P }) : jB X G (st :: rest) ρ M P := fun S H σ s D f =>
  PSs.go (pss_cons psS pbS) (h S H σ s _ (f.nxt fun S1 H1 σ1 ρ1 M1 s1 q => q S1 H1 σ1 s1 D f))
theorem b_one (h : jS X G st ρ M P) : jB X G [st] ρ M P := fun S H σ s D f => PSs.go (pss_one psS) (h S H σ s D f)
theorem s_set {i : Nat} {n : Str} (he : jE X G e ρ M d M1) (k : P.nx (ρ.set i d) M1) (hN : X.N.Nodup) (hi : X.N[i]? = some n := by rfl) (hx : Loc X.env.scope n := by first | exact Or.inl rfl | exact Or.inr rfl)
    (hs : swapsWith e (some (.Name n p')) pos.line X.env = pure false := by rfl) (hf : X.fn n = true ∨ X.env.scope.names.lookup n = some .local := by first | exact .inl rfl | exact .inr rfl) : jS X G (.Assign [.Name n p'] e pos) ρ M P := fun S H σ s D f =>
  PS.go (ps_set hN hi hx peS hs hf) (he S H σ s _ fun v S1 H1 e1 s1 r1 => f.nx S1 H1 _ _ M1 ⟨s1.hst, s1.sl.set (RelS.of r1) i⟩ k)
theorem s_ret (he : jE X G e ρ M d M1) (k : ∃ M', MLe M' M1 ∧ P.rt d M') : jS X G (.Return (some e) pos) ρ M P := fun S H σ s D f => by
  obtain ⟨M', hl, k⟩ := k
  exact PS.go (ps_ret peS) (he S H σ s _ fun v S1 H1 e1 s1 r1 => f.rt S1 H1 M' d v (s1.hst.less hl) r1 k)
theorem s_if {A B : List Stmt} (hc : jT X G c ρ M k M1) (h1 : k = true → jB X G A ρ M1 P) (h2 : k = false → jB X G B ρ M1 P) : jS X G (.If c A B pos) ρ M P := fun S H σ s D f =>
  PS.go (ps_if ptS pbS pbS) (hc S H σ s _ fun S1 H1 e1 s1 => by
    cases k with
    | true => exact iteT (h1 rfl S1 H1 σ s1 D f)
    | false => exact iteF (h2 rfl S1 H1 σ s1 D f))
end
end NL
set_option Elab.async false
set_option linter.all false
set_option maxRecDepth 100000
set_option maxHeartbeats 4000000
namespace NL
open PySem PySem.Spec L2
open PyProof.Rows hiding St
structure FnG (P : Program) (w : World) (K : PySem.W.Frag) (mg : Str → Option Value) (base : Heap) (CX : CXT) (k : Nat) (f : Addr) (fd : FuncData) (ps : List Str) (sp : Sp) : Prop where
  len : ∀ vs H Q E, sp vs H Q E → vs.length = ps.length
  run : ∀ (A : Around) (up : List Env) (s : Shared) (H : Hp) (as : Args) (us : List Value) (vs : List V) (Q : VK) (E : XK), A.guards = some [] → Room k A → Env0 P w K mg base A up s H → BindsTo s fd as (ps.zip us) → Vals vs us → sp vs H Q E →
    codeAny (model P w) A (.call (.ref f) as) (CR CX up P w H s Q E) s
/-- a def of the text, with any defaults -/
structure FunX (K : PySem.W.Frag) (x qual : Str) (st : Stmt) (f : Addr) (fd : FuncData) : Prop where
  ex : ∃ (oc : Value) (od : Option Addr) (dV kV doc pm : Value) (an : Option Addr) (cdv ct : Value) (osl : Array (Option Value)),
    fd = PySem.W.fnOf x qual (defArgs st) (defBody st) (defScope st) dV kV doc pm an cdv ct ∧ K.lookup f = some ⟨oc, od, .func fd, osl⟩ ∧ PySem.W.codeIn K cdv qual = true
  kp : PySem.W.keepIn K (.ref f) = true
theorem FunX.of {K : PySem.W.Frag} {x qual : Str} {st : Stmt} {f : Addr} {fd : FuncData} (F : Fun K x qual st f fd) : FunX K x qual st f fd := by
  obtain ⟨oc, od, kV, doc, pm, an, cdv, ct, osl, a, b, c⟩ := F.ex
  exact ⟨⟨oc, od, .none, kV, doc, pm, an, cdv, ct, osl, a, b, c⟩, F.kp⟩
section
variable {P : Program} {w : World} {K : PySem.W.Frag} {mg : Str → Option Value} {base : Heap} {CX : CXT}
theorem FunX.okC {x qual : Str} {st : Stmt} {f : Addr} {fd : FuncData} {N ps : List Str} {k : Nat} {sp : Sp} (F : FunX K x qual st f fd) (S : FnScope N ps (defScope st)) (len : ∀ vs H Q E, sp vs H Q E → vs.length = ps.length)
    (body : ∀ (cdv : Value), fd.code = cdv → ∀ (A : Around) (up : List Env) (s : Shared) (H : Hp) (vs : List V) (Q : VK) (E : XK), A.guards = some [] → Room k (A.deeper (envOfC qual (defScope st) s.heap.objs.size f cdv)) → sp vs H Q E →
      ∃ t, PSs (cxOf CX P w K mg base N qual (defScope st) f cdv A up s H E) (defBody st) t ∧ t { nx := fun _ H' => Q .non H', rt := Q } (L2.start N vs) H) : FnG P w K mg base CX (k + 1) f fd ps sp := by
  obtain ⟨oc, od, dV, kV, doc, pm, an, cdv, ct, osl, rfl, lk, hcode⟩ := F.ex
  refine ⟨len, fun A up s H as us vs Q E gd rm env bd rel hs => ?_⟩
  have inK : K.In s.heap := env.mod.kin.keeps fun b o e => (env.bs b o e).1
  have nl : s.heap.NoLimit := env.mod.nolimit.keeps fun b o e => (env.bs b o e).1
  have kinds : ∀ y ∈ ps.zip us, (defScope st).names.lookup y.1 = some .local ∨ ((defScope st).names.lookup y.1 = some .cell ∧ ((cellsFrom (s.heap.objs.size + 1) (defScope st).names []).lookup y.1).isSome = true) := fun ⟨n, v⟩ hy =>
    (S.par n (List.of_mem_zip hy).1).imp id fun q => ⟨q, PySem.W.cellsFrom_some _ _ _ (.inl q)⟩
  have L := len _ _ _ _ hs
  refine codeAny_call_function rm.depth (inK _ _ lk) rfl S.co S.gen rfl (PySem.W.codeRec_of inK hcode) (bd _ _ _ _ (wpAny_newFunctionEnv_cells S.kind kinds fun env1 he s1 x => ?_))
  subst he
  refine ⟨nl.keeps x.toInCall.keep, codeAny_func ?_⟩
  obtain ⟨t, ht, hq⟩ := body cdv rfl A up s H vs Q E gd (rm.deeper _) hs
  have I := inv_start (cd := cdv) (qual := qual) (f := f) (CX := CX) (E := E) S rm.hd env L rel x
  refine wpAny_mono (ht.run [] s1 (L2.start N vs) H _ I hq) (fun fl s2 h2 => ?_) fun e s2 h2 => h2
  cases fl with
  | next =>
    obtain ⟨σ2, H2, J, q⟩ := h2
    exact ⟨V.non, H2, J.os, J.bare, J.base, J.hok, rfl, q⟩
  | ret u =>
    obtain ⟨v, σ2, H2, J, rv, q⟩ := h2
    exact ⟨v, H2, J.os, J.bare, J.base, J.hok, rv, q⟩
  | brk =>
    obtain ⟨_, _, _, q⟩ := h2
    exact q.elim
  | cont =>
    obtain ⟨_, _, _, q⟩ := h2
    exact q.elim
theorem FunX.ok {x qual : Str} {st : Stmt} {f : Addr} {fd : FuncData} {N ps : List Str} {k : Nat} {sp : Sp} (F : FunX K x qual st f fd) (S : FnScope N ps (defScope st)) (len : ∀ vs H Q E, sp vs H Q E → vs.length = ps.length)
    (body : ∀ (cdv : Value) (A : Around) (up : List Env) (s : Shared) (H : Hp) (vs : List V) (Q : VK) (E : XK), A.guards = some [] → Room k (A.deeper (envOfC qual (defScope st) s.heap.objs.size f cdv)) → sp vs H Q E →
      ∃ t, PSs (cxOf CX P w K mg base N qual (defScope st) f cdv A up s H E) (defBody st) t ∧ t { nx := fun _ H' => Q .non H', rt := Q } (L2.start N vs) H) : FnG P w K mg base CX (k + 1) f fd ps sp :=
  F.okC S len fun cdv _ A up s H vs Q E gd rm hs => body cdv A up s H vs Q E gd rm hs
theorem FunX.ok0C {x qual : Str} {st : Stmt} {f : Addr} {fd : FuncData} {N ps : List Str} {k : Nat} {sp : Sp} (F : FunX K x qual st f fd) (S : FnScope N ps (defScope st)) (len : ∀ vs H Q E, sp vs H Q E → vs.length = ps.length)
    (body : ∀ (cdv : Value), fd.code = cdv → ∀ (A : Around) (up : List Env) (s : Shared) (H : Hp) (vs : List V) (Q : VK) (E : XK), A.guards = some [] → Room k (A.deeper (envOfC qual (defScope st) s.heap.objs.size f cdv)) → sp vs H Q E →
      ∃ t, PSs (cxOf CX0 P w K mg base N qual (defScope st) f cdv A up s H E).nox (defBody st) t ∧ t { nx := fun _ H' => Q .non H', rt := Q } (L2.start N vs) H) : FnG P w K mg base CX0 (k + 1) f fd ps sp :=
  F.okC S len fun cdv ec A up s H vs Q E gd rm hs => by
    obtain ⟨t, h, q⟩ := body cdv ec A up s H vs Q E gd rm hs
    exact ⟨t, h.nox, q⟩
end
section
variable {X : Cx} {CX : CXT} {k n : Nat} {f C : Addr} {fd : FuncData} {ps ks : List Str} {sp : Sp} {dvs : List V} {ds : List Value} {E : XK} {x m : Str} {p pos apos : Pos} {e o : Expr} {es : List Expr} {kws : List Keyword} {t tk : TA}
theorem CR.back {pins : List (Addr × Obj)} {σ : L2.St} {H : Hp} {s : Shared} {Q : VK} {r : Result} {s' : Shared} (I : Inv X pins σ H s) (hx : Passes CX X E) (h : CR CX X.stack X.prog X.w H s Q E r s') : (match r with | .ok (.ret u) => EP X pins σ Q u s' | .ok _ => False | .error e => X.xe e s') := by
  cases r with
  | error e => exact hx pins σ H s e s' I h
  | ok fl =>
    cases fl with
    | ret u => exact I.after h
    | next => exact h
    | brk => exact h
    | cont => exact h
theorem runG {pins : List (Addr × Obj)} {σ : L2.St} {H : Hp} {s : Shared} {Q : VK} {us : List Value} {vs : List V} (F : FnG X.prog X.w X.K X.mg X.base CX k f fd ps sp) (gd : X.A.guards = some []) (hr : Room k X.A) (hb : Binds X.K fd ps ds) (hd : Vals dvs ds)
    (hx : Passes CX X E) (I : Inv X pins σ H s) (r : Vals vs us) (h : sp (vs ++ dvs) H Q E) : wpAny (model X.prog X.w) X.A (PySem.call (.ref f) us) (EP X pins σ Q) X.xe s := by
  have r2 := r.append hd
  refine wpAny_call (codeAny_mono (F.run X.A X.stack s H ⟨us, []⟩ (us ++ ds) (vs ++ dvs) Q E gd hr I.env0 (hb s us I.kIn (by rw [← r2.length]; exact F.len _ _ _ _ h)) r2 h) fun r s2 q => ?_)
  have := CR.back I hx q
  cases r with
  | error e => exact this
  | ok fl => cases fl <;> exact this
theorem pe_callX (F : FnG X.prog X.w X.K X.mg X.base CX k f fd ps sp) (gd : X.A.guards = some []) (hr : Room k X.A) (hg : Gl X x) (hm : X.mg x = some (.ref f)) (hk : PySem.W.keepIn X.K (.ref f) = true) (hb : Binds X.K fd ps ds) (hd : Vals dvs ds) (hx : Passes CX X E)
    (ha : PA X (e :: es) t) (hdb : (x == ("__debug__" : Str)) = false := by decide) (he : starEach (e :: es) X.env = (false, eval e X.env) :: starEach es X.env := by rfl) (hpl : (backTo pos (starEach es X.env)).any (·.1) = false := by rfl) : PE X (.Call (.Name x p) (e :: es) [] pos) (tCall sp dvs E t) :=
  ⟨fun pins s σ H Q I h => wpAny_Call_Name_kw (ld_glob I hg hm (PySem.W.callWith_K (h₀ := X.base) I.ok.mod.kin hk (thn (ha.run pos pins s σ H _ I h) fun us s1 ⟨vs, H1, I1, r, q⟩ => ⟨I1.kIn, runG F gd hr hb hd hx I1 r q⟩) he hpl) hdb)⟩
end
end NL
set_option Elab.async false
set_option linter.all false
set_option maxRecDepth 100000
set_option maxHeartbeats 4000000
namespace NL
open PySem PySem.Spec L2
open PyProof.Rows hiding St
/-- room, and nothing is being shown -/
structure Rm (k : Nat) (A : Around) : Prop where
  room : Room k A
  gd : A.guards = some []
theorem Rm.mono {j k : Nat} {A : Around} (r : Rm k A) (h : j ≤ k) : Rm j A := ⟨r.room.mono h, r.gd⟩
theorem Rm.units {k : Nat} {A : Around} (r : Rm k A) : A.units + 64 < cLine := r.room.units
/-- what a def does: from its arguments and the objects that may be written, what is wanted of the answer -/
abbrev Wp := List SV → MM → (SV → MM → Prop) → Prop
def gh (S H : Hp) (M : MM) : Gh := ⟨S, H, fun a => M a ≠ none⟩
theorem Hst.enter {K : PySem.W.Frag} {G : Gh} {S H : Hp} {M : MM} (h : Hst K G S H M) : Hst K (gh S H M) S H M :=
  ⟨h.sub, h.own, Sub.rfl' S, fun _ _ q _ => q, fun _ q => .inl q, fun _ q => .inr q⟩
/-- behind a call -/
theorem Hst.leave {K : PySem.W.Frag} {G : Gh} {S H S' H' : Hp} {M M' : MM} (h : Hst K G S H M) (h' : Hst K (gh S H M) S' H' M') : Hst K G S' H' M' := by
  have mm : ∀ a, M a ≠ none → G.H0 a = none ∨ G.F0 a := h.g4
  have bk : ∀ a, H a = none → G.H0 a = none ∨ G.F0 a := fun a n => h.back n
  refine ⟨h'.sub, h'.own, h.g1.tr h'.g1, fun a o q f => ?_, fun a q => ?_, fun a q => ?_⟩
  · refine h'.g2 a o (h.g2 a o q f) fun z => ?_
    rcases mm a z with w | w
    · rw [w] at q; cases q
    · exact f w
  · have b1 : ∀ {a}, G.H0 a = none ∨ G.F0 a → G.S0 a ≠ none ∨ G.H0 a = none ∨ G.F0 a ∨ ∃ xs, G.H0 a = some (.tup xs) := fun z => by
      rcases z with z | z
      · exact .inr (.inl z)
      · exact .inr (.inr (.inl z))
    rcases h'.g3 a q with z | z | z | ⟨xs, z⟩
    · exact h.g3 a z
    · exact b1 (bk a z)
    · exact b1 (mm a z)
    · by_cases f : G.F0 a
      · exact .inr (.inr (.inl f))
      · cases e : G.H0 a with
        | none => exact .inr (.inl rfl)
        | some o =>
          have w := h.g2 a o e f
          have z' : H a = some (.tup xs) := z
          rw [z'] at w; cases w
          exact .inr (.inr (.inr ⟨xs, rfl⟩))
  · rcases h'.g4 a q with z | z
    · exact bk a z
    · exact mm a z
def spN (K : PySem.W.Frag) (n : Nat) (W : Wp) : Sp := fun vs H Q _ => ∃ (S : Hp) (ds : List SV) (M : MM) (R : SV → MM → Prop), RelA K S ds vs ∧ ds.length = n ∧ Hst K (gh S H M) S H M ∧ W ds M R ∧
  ∀ d M' v S' H', Hst K (gh S H M) S' H' M' → Rel K S' d v → R d M' → Q v H'
/-- the def's first state -/
def rho0 (N : List Str) (ds : List SV) : List SV := ds ++ List.replicate (N.length - ds.length) .u
section
variable {P : Program} {w : World} {K : PySem.W.Frag} {mg : Str → Option Value} {base : Heap}
/-- the end of a def -/
def pEnd (R : SV → MM → Prop) : Post := { nx := fun _ M => ∃ M', MLe M' M ∧ R (.d .none) M', rt := R }
/-- the same, its code object told -/
theorem fn_okC {x qual : Str} {st : Stmt} {f : Addr} {fd : FuncData} {N ps : List Str} {k : Nat} {W : Wp} (F : FunX K x qual st f fd) (sc : FnScope N ps (defScope st))
    (hb : ∀ (cdv : Value), fd.code = cdv → ∀ (A : Around) (outer : List Env) (s : Shared) (H : Hp) (E : XK) (G : Gh) (ds : List SV) (M : MM) (R : SV → MM → Prop), Rm k (A.deeper (envOfC qual (defScope st) s.heap.objs.size f cdv)) → ds.length = ps.length → W ds M R →
      jB (cxOf CX0 P w K mg base N qual (defScope st) f cdv A outer s H E).nox G (defBody st) (rho0 N ds) M (pEnd R)) :
    FnG P w K mg base CX0 (k + 1) f fd ps (spN K ps.length W) := by
  refine F.ok0C sc (fun vs H Q E h => ?_) (fun cdv ec A outer s H vs Q E gd hr h => ?_)
  · obtain ⟨S, ds, M, R, r, hl, _⟩ := h
    rw [r.len, hl]
  · obtain ⟨S, ds, M, R, r, hl, hs, hw, q⟩ := h
    refine ⟨_, pbS, hb cdv ec A outer s H E (gh S H M) ds M R ⟨hr, gd⟩ hl hw S H _ ⟨hs, ?_⟩ _ ⟨fun S1 H1 σ1 ρ1 M1 st1 h1 => ?_, fun S1 H1 M1 d v h1 r1 q1 => ?_, fun _ _ _ _ _ _ z => z.elim, fun _ _ _ _ _ _ z => z.elim⟩⟩
    · unfold rho0 L2.start
      refine (r.slots).app ?_
      rw [r.len]
      exact Slots.us _ _ (List.length_replicate ..)
    · obtain ⟨M', hle, h1⟩ := h1
      exact q (.d .none) M' .non S1 H1 (st1.hst.less hle) rfl h1
    · exact q d M1 v S1 H1 h1 r1 q1
/-- THE RULE for a def that lets no error out -/
theorem fn_ok {x qual : Str} {st : Stmt} {f : Addr} {fd : FuncData} {N ps : List Str} {k : Nat} {W : Wp} (F : FunX K x qual st f fd) (sc : FnScope N ps (defScope st))
    (hb : ∀ (cdv : Value) (A : Around) (outer : List Env) (s : Shared) (H : Hp) (E : XK) (G : Gh) (ds : List SV) (M : MM) (R : SV → MM → Prop), Rm k (A.deeper (envOfC qual (defScope st) s.heap.objs.size f cdv)) → ds.length = ps.length → W ds M R →
      jB (cxOf CX0 P w K mg base N qual (defScope st) f cdv A outer s H E).nox G (defBody st) (rho0 N ds) M (pEnd R)) :
    FnG P w K mg base CX0 (k + 1) f fd ps (spN K ps.length W) :=
  fn_okC F sc fun cdv _ => hb cdv
end
section
variable {X : Cx} {G : Gh} {ρ : List SV} {M M1 M2 : MM} {z : SV} {ds : List SV} {e : Expr} {es : List Expr} {pos p : Pos}
/-- f(e, ..); dd: the defaults that fill up -/
theorem e_call {k n : Nat} {f : Addr} {fd : FuncData} {ps : List Str} {W : Wp} {x : Str} {dvs : List V} {dus : List Value} {dd : List D} (F : FnG X.prog X.w X.K X.mg X.base CX0 k f fd ps (spN X.K n W)) (hr : Rm k X.A) (hm : X.mg x = some (.ref f)) (hk : PySem.W.keepIn X.K (.ref f) = true)
    (hb : Binds X.K fd ps dus) (hd : Vals dvs dus) (hdd : ∀ S, RpA X.K S dd dvs) (ha : jA X G (e :: es) ρ M ds M1) (hW : ∀ R : SV → MM → Prop, R z M2 → W (ds ++ dd.map SV.d) M1 R) (hl : (ds ++ dd.map SV.d).length = n) (hg : Gl X x := by rfl) (hdb : (x == ("__debug__" : Str)) = false := by decide)
    (he : starEach (e :: es) X.env = (false, eval e X.env) :: starEach es X.env := by rfl) (hpl : (backTo pos (starEach es X.env)).any (·.1) = false := by rfl) : jE X G (.Call (.Name x p) (e :: es) [] pos) ρ M z M2 := fun S H σ st Q q =>
  PE.go (pe_callX F hr.gd hr.room hg hm hk hb hd pass0 paS hdb he hpl) (ha S H σ st _ fun vs S1 H1 e1 st1 r1 =>
    ⟨S1, ds ++ dd.map SV.d, M1, fun d M' => d = z ∧ M' = M2, r1.app (RpA.ra (hdd S1)), hl, st1.hst.enter, hW _ ⟨rfl, rfl⟩, fun d M' v S' H' h' r' q' => by
      obtain ⟨rfl, rfl⟩ := q'
      exact q v S' H' (e1.tr h'.g1) ⟨st1.hst.leave h', st1.sl.mono h'.g1⟩ r'⟩)
theorem e_call1 {k n : Nat} {f : Addr} {fd : FuncData} {ps : List Str} {W : Wp} {x : Str} (F : FnG X.prog X.w X.K X.mg X.base CX0 k f fd ps (spN X.K n W)) (hr : Rm k X.A) (hm : X.mg x = some (.ref f)) (hk : PySem.W.keepIn X.K (.ref f) = true)
    (hb : Binds X.K fd ps []) (ha : jA X G (e :: es) ρ M ds M1) (hW : ∀ R : SV → MM → Prop, R z M2 → W ds M1 R) (hl : ds.length = n := by rfl) (hg : Gl X x := by rfl) (hdb : (x == ("__debug__" : Str)) = false := by decide)
    (he : starEach (e :: es) X.env = (false, eval e X.env) :: starEach es X.env := by rfl) (hpl : (backTo pos (starEach es X.env)).any (·.1) = false := by rfl) : jE X G (.Call (.Name x p) (e :: es) [] pos) ρ M z M2 :=
  e_call (dvs := []) (dd := []) F hr hm hk hb .nil (fun _ => rfl) ha (by simpa using hW) (by simpa using hl) hg hdb he hpl
end
structure semG' (X : Cx) (tg : Expr) (v : V) (σ : L2.St) (H : Hp) (Q : L2.St → Hp → Prop) : Prop where
  run : ∀ pins s u, Inv X pins σ H s → RelV v u → wpAny (model X.prog X.w) X.A (assign tg X.env u) (fun _ s' => ∃ σ' H', Inv X pins σ' H' s' ∧ Q σ' H') X.xe s
def semG (X : Cx) (tg : Expr) : TG := fun v σ H Q => semG' X tg v σ H Q
theorem pgS {X : Cx} {tg : Expr} : PG X tg (semG X tg) := ⟨fun pins s _ _ _ u _ I r h => h.run pins s u I r⟩
theorem PG.go {X : Cx} {tg : Expr} {t : TG} (p : PG X tg t) {v σ H Q} (h : t v σ H Q) : semG X tg v σ H Q := ⟨fun pins s u I r => p.run pins s σ H v u Q I r h⟩
/-- d goes to tg: own are the slots that are set -/
def jG (X : Cx) (tg : Expr) (d : SV) (own : List Nat) (f : List SV → List SV) : Prop := ∀ S H σ ρ M G v, Sta X.K G S H σ ρ M → Rel X.K S d v → ∀ Q : L2.St → Hp → Prop,
  (∀ σ', Sta X.K G S H σ' (f ρ) M → (∀ vs : List Nat, (∀ j ∈ own, j ∈ vs) → wipe σ' vs = wipe σ vs) → Q σ' H) → semG X tg v σ H Q
theorem wipe_set {σ : L2.St} {i : Nat} {x : Option V} : ∀ {vs : List Nat}, i ∈ vs → wipe (σ.set i x) vs = wipe σ vs
  | v :: vs, h => by
    unfold wipe
    by_cases hv : i = v
    · subst hv
      have : ∀ (vs : List Nat) (τ : L2.St), (wipe (τ.set i x) vs).set i none = (wipe τ vs).set i none := by
        intro vs
        induction vs with
        | nil => intro τ; unfold wipe; rw [List.set_set]
        | cons u us ih =>
          intro τ
          unfold wipe
          by_cases hu : u = i
          · subst hu; rw [List.set_set, List.set_set]; exact ih τ
          · rw [List.set_comm _ _ (hu), ih τ, List.set_comm _ _ (Ne.symm hu)]
      exact this vs σ
    · rw [wipe_set (vs := vs) (by rcases List.mem_cons.mp h with z | z; exact absurd z hv; exact z)]
theorem wipe_wipe (σ : L2.St) : ∀ (ws vs : List Nat), (∀ j ∈ ws, j ∈ vs) → wipe (wipe σ ws) vs = wipe σ vs
  | [], _, _ => rfl
  | w :: ws, vs, h => by
    show wipe ((wipe σ ws).set w none) vs = _
    rw [wipe_set (h w (List.mem_cons_self ..)), wipe_wipe σ ws vs fun j hj => h j (List.mem_cons_of_mem _ hj)]
section
variable {X : Cx} {pos : Pos}
theorem g_name {i : Nat} {n : Str} {d : SV} (hN : X.N.Nodup) (hi : X.N[i]? = some n := by rfl) (hx : Loc X.env.scope n := by first | exact Or.inl rfl | exact Or.inr rfl) (hf : X.fn n = true ∨ X.env.scope.names.lookup n = some .local := by first | exact .inl rfl | exact .inr rfl) :
    jG X (.Name n pos) d [i] (fun ρ => ρ.set i d) := fun S H σ ρ M G v st r Q q =>
  PG.go (pg_name hN hi hx hf) (q _ ⟨st.hst, st.sl.set (RelS.of r) i⟩ fun vs hv => wipe_set (hv i (List.mem_singleton.mpr rfl)))
end
structure Walks (K : PySem.W.Frag) (J : It) (S : Hp) (xs : List SV) (need : MM → Prop) : Prop where
  go : ∀ G i S1 H1 M1 σ1 ρ1, Sub S S1 → Sta K G S1 H1 σ1 ρ1 M1 → need M1 → i < xs.length → J.go i H1
  yld : ∀ G i S1 H1 M1 σ1 ρ1 x H', Sub S S1 → Sta K G S1 H1 σ1 ρ1 M1 → need M1 → i < xs.length → J.yld i H1 x H' → Sub H1 H' ∧ ∃ S2 d, xs[i]? = some d ∧ Sub S1 S2 ∧ (∀ a, S2 a ≠ none → S1 a ≠ none ∨ H1 a = none) ∧ Sta K G S2 H' σ1 ρ1 M1 ∧ Rel K S2 d x
  stop : ∀ G i S1 H1 M1 σ1 ρ1, Sub S S1 → Sta K G S1 H1 σ1 ρ1 M1 → need M1 → i = xs.length → J.stop i H1
def jI (X : Cx) (G : Gh) (tg it : Expr) (ρ : List SV) (M : MM) (xs : List SV) (need : MM → Prop) (M' : MM) : Prop := ∀ S H σ, Sta X.K G S H σ ρ M → ∀ R : It → Hp → Prop,
  (∀ J S' H', Sub S S' → Sta X.K G S' H' σ ρ M' → Walks X.K J S' xs need → R J H') → semI X tg it σ H R
def any1 : MM → Prop := fun _ => True
section
variable {X : Cx} {G : Gh} {tg e : Expr} {ρ : List SV} {M M1 : MM} {pos p : Pos}
theorem walks_list {K : PySem.W.Frag} {S : Hp} {a : Addr} {xs : List D} {vs : List V} (h : S a = some (.lst vs)) (r : RpA K S xs vs) : Walks K (Itl K a) S (xs.map SV.d) any1 where
  go := fun G i S1 H1 M1 σ1 ρ1 e st _ hi => by
    rw [List.length_map] at hi
    have hv : i < vs.length := by rw [r.len]; exact hi
    exact ⟨vs, vs[i], SqL.of (e.tr st.hst.sub a _ h), List.getElem?_eq_getElem hv⟩
  yld := fun G i S1 H1 M1 σ1 ρ1 x H' e st _ hi y => by
    rw [List.length_map] at hi
    obtain ⟨rfl, y⟩ := y
    obtain ⟨v, hv, rv⟩ := r.at (List.getElem?_eq_getElem hi)
    have ex := y vs (SqL.of (e.tr st.hst.sub a _ h))
    rw [hv] at ex
    cases ex
    exact ⟨Sub.rfl' _, S1, _, (show _ = some (SV.d xs[i]) by rw [List.getElem?_map, List.getElem?_eq_getElem hi]; rfl), Sub.rfl' _, fun _ q => .inl q, st, (show Rp K S1 xs[i] x from Rp.mono e _ _ rv)⟩
  stop := fun G i S1 H1 M1 σ1 ρ1 e st _ hi => ⟨vs, SqL.of (e.tr st.hst.sub a _ h), by rw [r.len, hi, List.length_map]; exact Nat.le_refl _⟩
theorem i_list {xs : List D} (h : jE X G e ρ M (.d (.list xs)) M1) : jI X G tg e ρ M (xs.map SV.d) any1 M1 := fun S H σ st R q =>
  PI.go (pi_list peS) (h S H σ st _ fun v S1 H1 e1 st1 r1 => by
    obtain ⟨a, vs, rfl, hs, hr⟩ := r1
    exact ⟨a, rfl, ⟨vs, SqL.of (st1.hst.sub a _ hs)⟩, q _ S1 H1 e1 st1 (walks_list hs hr)⟩)
def rgD (lo : Int) (n : Nat) : List SV := (List.range n).map fun i => SV.d (.int (lo + (i : Nat)))
theorem walks_range {K : PySem.W.Frag} {S : Hp} {lo : Int} {n : Nat} : Walks K (Itr lo n) S (rgD lo n) any1 where
  go := fun G i S1 H1 M1 σ1 ρ1 e st _ hi => by
    have : (rgD lo n).length = n := by simp [rgD]
    show i < n
    omega
  yld := fun G i S1 H1 M1 σ1 ρ1 x H' e st _ hi y => by
    obtain ⟨rfl, rfl⟩ := y
    have hi' : i < n := by simpa [rgD] using hi
    exact ⟨Sub.rfl' _, S1, .d (.int (lo + (i : Nat))), by simp [rgD, hi'], Sub.rfl' _, fun _ q => .inl q, st, rfl⟩
  stop := fun G i S1 H1 M1 σ1 ρ1 e st _ hi => by
    have : (rgD lo n).length = n := by simp [rgD]
    show n ≤ i
    omega
theorem i_range1 {a : Expr} {j : Int} (ha : jA X G [a] ρ M [.d (.int j)] M1) (h1 : -(2 ^ 62) ≤ j) (h2 : j < 2 ^ 62) (hm : X.mg "range" = none) (hg : Gl X "range" := by rfl) (hs : starEach [a] X.env = [(false, eval a X.env)] := by rfl) :
    jI X G tg (.Call (.Name "range" p) [a] [] pos) ρ M (rgD 0 j.toNat) any1 M1 := fun S H σ st R q =>
  PI.go (pi_range1 hg hm paS hs) (ha S H σ st _ fun vs S1 H1 e1 st1 r1 => by
    obtain ⟨v, r, rfl, hv, rfl⟩ := r1
    obtain rfl : v = .int j := hv
    exact ⟨j, rfl, h1, h2, q _ S1 H1 e1 st1 walks_range⟩)
theorem Sta.enter {K : PySem.W.Frag} {S H : Hp} {σ : L2.St} (h : Sta K G S H σ ρ M) : Sta K (gh S H M) S H σ ρ M := ⟨h.hst.enter, h.sl⟩
theorem Sta.leave {K : PySem.W.Frag} {S H S' H' : Hp} {σ' : L2.St} {ρ' : List SV} {M' : MM} (h : Hst K G S H M) (h' : Sta K (gh S H M) S' H' σ' ρ' M') : Sta K G S' H' σ' ρ' M' := ⟨h.leave h'.hst, h'.sl⟩
/-- the wishes of a part, from a state within -/
theorem Fits.inner {K : PySem.W.Frag} {P' : Post} {D' : Ends} {S H : Hp} (h : Hst K G S H M) (nx : ∀ S1 H1 σ ρ M1, Sub S S1 → Sta K G S1 H1 σ ρ M1 → P'.nx ρ M1 → D'.nx σ H1) (rt : ∀ S1 H1 M1 d v, Hst K G S1 H1 M1 → Rel K S1 d v → P'.rt d M1 → D'.rt v H1)
    (bk : ∀ S1 H1 σ ρ M1, Sub S S1 → Sta K G S1 H1 σ ρ M1 → P'.bk ρ M1 → D'.bk σ H1) (ct : ∀ S1 H1 σ ρ M1, Sub S S1 → Sta K G S1 H1 σ ρ M1 → P'.ct ρ M1 → D'.ct σ H1) : Fits K (gh S H M) P' D' :=
  ⟨fun S1 H1 σ ρ M1 s q => nx S1 H1 σ ρ M1 s.hst.g1 (s.leave h) q, fun S1 H1 M1 d v s r q => rt S1 H1 M1 d v (h.leave s) r q, fun S1 H1 σ ρ M1 s q => bk S1 H1 σ ρ M1 s.hst.g1 (s.leave h) q, fun S1 H1 σ ρ M1 s q => ct S1 H1 σ ρ M1 s.hst.g1 (s.leave h) q⟩
theorem s_for {it : Expr} {body : List Stmt} {P : Post} {xs : List SV} {need : MM → Prop} (I : Nat → List SV → MM → Prop) (hi : jI X G tg it ρ M xs need M1) (h0 : I 0 ρ M1) (hneed : ∀ i ρ' M', I i ρ' M' → need M')
    (step : ∀ G i d ρ' M', xs[i]? = some d → I i ρ' M' → ∃ own f, jG X tg d own f ∧ jB X G body (f ρ') M' { P with nx := I (i + 1), ct := I (i + 1), bk := P.nx }) (done : ∀ ρ' M', I xs.length ρ' M' → P.nx ρ' M')
    (hp : PassesOwn (model X.prog X.w) X.A X.env X.xe) (hc : X.calm = true := by rfl) (hs : ∀ x, foldedSetIterable it X.env x = pure x := by intro _; rfl) : jS X G (.For tg it body [] pos) ρ M P := fun S H σ st D ft =>
  PS.go (ps_for hp hc piS pgS pbS hs) (hi S H σ st _ fun J S1 H1 e1 st1 w => by
    refine ⟨fun i m σ' H' => m = xs.length - i ∧ i ≤ xs.length ∧ ∃ S' ρ' M', Sub S1 S' ∧ Sta X.K G S' H' σ' ρ' M' ∧ I i ρ' M', ⟨xs.length, by simp, Nat.zero_le _, S1, ρ, M1, Sub.rfl' _, st1, h0⟩, ?_⟩
    rintro i m σ' H' ⟨rfl, hle, S', ρ', M', es, st', hI⟩
    have hn := hneed i ρ' M' hI
    by_cases hlt : i < xs.length
    · refine .inr ⟨w.go G i S' H' M' σ' ρ' es st' hn hlt, fun σ2 H2 => ∃ S2 ρ2 M2, Sub S1 S2 ∧ Sta X.K G S2 H2 σ2 ρ2 M2 ∧ I (i + 1) ρ2 M2, fun σ2 H2 h2 => ⟨xs.length - (i + 1), by omega, rfl, hlt, h2⟩, fun x H2 y => ?_⟩
      obtain ⟨_, S2, d, hd, e2, _, st2, r2⟩ := w.yld G i S' H' M' σ' ρ' x H2 es st' hn hlt y
      obtain ⟨own, f, hg, hb⟩ := step (gh S2 H2 M') i d ρ' M' hd hI
      refine hg S2 H2 σ' ρ' M' G x st2 r2 _ fun σ3 st3 _ => ?_
      have e3 : Sub S1 S2 := es.tr e2
      exact hb S2 H2 σ3 st3.enter _ (Fits.inner st3.hst (fun S4 H4 σ4 ρ4 M4 e4 s4 q => ⟨S4, ρ4, M4, e3.tr e4, s4, q⟩) ft.rt (fun S4 H4 σ4 ρ4 M4 e4 s4 q => ft.nx S4 H4 σ4 ρ4 M4 s4 q) (fun S4 H4 σ4 ρ4 M4 e4 s4 q => ⟨S4, ρ4, M4, e3.tr e4, s4, q⟩))
    · have e : i = xs.length := by omega
      subst e
      exact .inl ⟨w.stop G _ S' H' M' σ' ρ' es st' hn rfl, ft.nx S' H' σ' ρ' M' st' (done ρ' M' hI)⟩)
end
def wipeR (ρ : List SV) : List Nat → List SV
  | [] => ρ
  | v :: vs => (wipeR ρ vs).set v .u
theorem slots_wipe {K : PySem.W.Frag} {S : Hp} {ρ : List SV} {σ : L2.St} (h : Slots K S ρ σ) : ∀ vs, Slots K S (wipeR ρ vs) (wipe σ vs)
  | [] => h
  | v :: vs => (slots_wipe h vs).set (s := .u) (v := none) trivial v
/-- a clause's tests: all of them -/
structure semTs' (X : Cx) (ifs : List Expr) (σ : L2.St) (H : Hp) (Q : Bool → Hp → Prop) : Prop where
  run : ∀ pins s, Inv X pins σ H s →
  wpAny (model X.prog X.w) X.A (forIn ifs true fun c r => if r = true then do let ok ← isTrue c X.env (eval c X.env); pure (ForInStep.yield ok) else pure (ForInStep.yield r)) (TP X pins σ Q) X.xe s
def semTs (X : Cx) (ifs : List Expr) : TT := fun σ H Q => semTs' X ifs σ H Q
def jTs (X : Cx) (G : Gh) (ifs : List Expr) (ρ : List SV) (M : MM) (b : Bool) (M' : MM) : Prop := ∀ S H σ, Sta X.K G S H σ ρ M → ∀ Q : Bool → Hp → Prop, (∀ S' H', Sub S S' → Sta X.K G S' H' σ ρ M' → Q b H') → semTs X ifs σ H Q
theorem ts_nil {X : Cx} {G : Gh} {ρ : List SV} {M : MM} : jTs X G [] ρ M true M := fun S H σ st Q q => ⟨fun pins s I => pts_nil.run pins s σ H Q I (q S H (Sub.rfl' S) st)⟩
theorem ts_one {X : Cx} {G : Gh} {ρ : List SV} {M M1 : MM} {c : Expr} {b : Bool} (h : jT X G c ρ M b M1) : jTs X G [c] ρ M b M1 := fun S H σ st Q q => ⟨fun pins s I => (pts_one ptS).run pins s σ H Q I (h S H σ st Q q)⟩
abbrev blk (X : Cx) (scope : Scope) (s : Shared) (H : Hp) (C : Addr) (cl : List (Str × Addr)) (fp : List Addr) : Cx := X.blk s H scope (compEnvC scope cl C X.env) fp
/-- outputs so far -/
def outs (o : Nat → Option SV) (n : Nat) : List SV := (List.range n).filterMap o
theorem outs_len (o : Nat → Option SV) (n : Nat) : (outs o n).length ≤ n := by
  unfold outs
  have := List.length_filterMap_le o (List.range n)
  rwa [List.length_range] at this
theorem outs_succ (o : Nat → Option SV) (n : Nat) : outs o (n + 1) = outs o n ++ (o n).toList := by
  unfold outs
  rw [List.range_succ, List.filterMap_append]
  cases h : o n <;> simp [h]
section
variable {X : Cx} {G : Gh} {ρ : List SV} {M M1 : MM}
theorem lcT {elt tg it : Expr} {ifs : List Expr} {scope : Scope} {own : List (Str × Nat)} {xs : List SV} {need : MM → Prop} (Ms : Nat → MM) (o : Nat → Option SV) (hi : jI X G tg it ρ M xs need (Ms 0)) (ok : BlkOk X.N X.env.scope scope own) (hN : X.N.Nodup)
    (hneed : ∀ i, i ≤ xs.length → need (Ms i)) (hlen : xs.length ≤ 1000000)
    (step : ∀ i d, xs[i]? = some d → ∃ (b : Bool) (ow : List Nat) (f : List SV → List SV) (M2 : MM), (∀ j ∈ ow, j ∈ own.map (·.2)) ∧ (∀ s H C cl fp, jG (blk X scope s H C cl fp) tg d ow f) ∧
      (∀ s H C cl fp G, jTs (blk X scope s H C cl fp) G ifs (f (wipeR ρ (own.map (·.2)))) (Ms i) b M2) ∧
      (b = true → ∃ y, o i = some y ∧ ∀ s H C cl fp G, jE (blk X scope s H C cl fp) G elt (f (wipeR ρ (own.map (·.2)))) M2 y (Ms (i + 1))) ∧ (b = false → o i = none ∧ M2 = Ms (i + 1)))
    {S H : Hp} {σ : L2.St} (st : Sta X.K G S H σ ρ M) {Q : VK} (q : ∀ p S' H', Sub S S' → Ms xs.length p = none → Sta X.K G S' H' σ ρ (mset (Ms xs.length) p (.lst (outs o xs.length))) → Q (.ref p) H') :
    tLc (semI X tg it) (fun v σ H Q => ∀ s H0 C cl fp, semG (blk X scope s H0 C cl fp) tg v σ H Q) (fun σ H Q => ∀ s H0 C cl fp, semTs (blk X scope s H0 C cl fp) ifs σ H Q) (fun σ H Q => ∀ s H0 C cl fp, semE (blk X scope s H0 C cl fp) elt σ H Q) (own.map (·.2)) σ H Q := by
  obtain ⟨vs, hvs⟩ : ∃ vs, vs = own.map (·.2) := ⟨_, rfl⟩
  rw [← hvs] at step ⊢
  refine hi S H σ st _ fun J S1 H1 e1 st1 w Dl nD => ?_
  have stW : Sta X.K G S1 H1 (wipe σ vs) (wipeR ρ vs) (Ms 0) := ⟨st1.hst, slots_wipe st1.sl vs⟩
  obtain ⟨nS, nM⟩ := st1.hst.free nD
  have gD := st1.hst.back nD
  refine ⟨fun i m H' => m = xs.length - i ∧ i ≤ xs.length ∧ ∃ S' ws, Sub S1 S' ∧ S' Dl = none ∧ Ms i Dl = none ∧ Sta X.K G S' H' (wipe σ vs) (wipeR ρ vs) (Ms i) ∧ H' Dl = some (.lst ws) ∧ RelA X.K S' (outs o i) ws,
    ⟨xs.length, by simp, Nat.zero_le _, S1, [], Sub.rfl' _, nS, nM, ⟨stW.hst.grow (Evl.Ex.new nD), stW.sl⟩, upd_same, rfl⟩, ?_⟩
  rintro i m H' ⟨rfl, hle, S', ws, es, nS', nM', st', hD, hw⟩
  have hn := hneed i hle
  by_cases hlt : i < xs.length
  · refine .inr ⟨w.go G i S' H' (Ms i) _ _ es st' hn hlt, fun H2 => ∃ S' ws, Sub S1 S' ∧ S' Dl = none ∧ Ms (i + 1) Dl = none ∧ Sta X.K G S' H2 (wipe σ vs) (wipeR ρ vs) (Ms (i + 1)) ∧ H2 Dl = some (.lst ws) ∧ RelA X.K S' (outs o (i + 1)) ws,
      fun H2 h2 => ⟨xs.length - (i + 1), by omega, rfl, hlt, h2⟩, fun x H2 y => ?_⟩
    obtain ⟨eH, S2, d, hd, e2, fr2, st2, r2⟩ := w.yld G i S' H' (Ms i) _ _ x H2 es st' hn hlt y
    have hD2 : H2 Dl = some (.lst ws) := eH _ _ hD
    have nS2 : S2 Dl = none := by
      cases q2 : S2 Dl with
      | none => rfl
      | some u => exact absurd (fr2 Dl (by rw [q2]; exact fun z => nomatch z)) (by rw [nS', hD]; simp)
    obtain ⟨b, ow, f, M2, how, hg, ht, hy, hno⟩ := step i d hd
    intro s H0 C cl fp
    refine hg s H0 C cl fp S2 H2 (wipe σ vs) _ (Ms i) G x st2 r2 _ fun σ3 st3 w3 => ⟨by rw [w3 vs how, wipe_wipe σ vs vs fun _ h => h], ?_⟩
    intro s H0 C cl fp
    -- the inner part, from here on by itself: the new list is not its own
    have foreign : ∀ {S4 H4 M4}, Hst X.K (gh S2 H2 (Ms i)) S4 H4 M4 → S4 Dl = none ∧ M4 Dl = none ∧ H4 Dl = some (.lst ws) := fun {S4 H4 M4} h4 => by
      refine ⟨?_, ?_, h4.g2 Dl _ hD2 fun z => z nM'⟩
      · cases q2 : S4 Dl with
        | none => rfl
        | some u =>
          rcases h4.g3 Dl (by rw [q2]; exact fun z => nomatch z) with z | z | z | ⟨xs, z⟩
          · exact absurd nS2 z
          · have z' : H2 Dl = none := z
            rw [hD2] at z'; cases z'
          · exact absurd nM' z
          · have z' : H2 Dl = some (.tup xs) := z
            rw [hD2] at z'; cases z'
      · cases q2 : M4 Dl with
        | none => rfl
        | some u =>
          rcases h4.g4 Dl (by rw [q2]; exact fun z => nomatch z) with z | z
          · have z' : H2 Dl = none := z
            rw [hD2] at z'; cases z'
          · exact absurd nM' z
    refine ht s H0 C cl fp (gh S2 H2 (Ms i)) S2 H2 σ3 st3.enter _ fun S4 H4 e4 st4 => ?_
    cases b with
    | true =>
      refine iteT ?_
      obtain ⟨yv, ho, hel⟩ := hy rfl
      intro s H0 C cl fp
      refine hel s H0 C cl fp (gh S2 H2 (Ms i)) S4 H4 σ3 st4 _ fun v S5 H5 e5 st5 r5 => ?_
      obtain ⟨a1, a2, a3⟩ := foreign st5.hst
      have e25 : Sub S2 S5 := e4.tr e5
      refine ⟨ws, a3, ?_, S5, ws ++ [v], (es.tr e2).tr e25, a1, a2, ?_, upd_same, ?_⟩
      · rw [hw.len]
        have := outs_len o i
        exact sz_lt (by omega)
      · have h5 : Hst X.K G S5 H5 (Ms (i + 1)) := st2.hst.leave st5.hst
        refine ⟨?_, Slots.mono (e2.tr e25) st'.sl⟩
        -- the new list is written
        refine ⟨fun a u z => ?_, fun a m z => ?_, h5.g1, fun a u z f => ?_, h5.g3, h5.g4⟩
        · have na : a ≠ Dl := fun e => by rw [e, a1] at z; cases z
          rw [upd_ne na]; exact h5.sub a u z
        · have na : a ≠ Dl := fun e => by rw [e, a2] at z; cases z
          obtain ⟨k1, u, k2, k3⟩ := h5.own a m z
          exact ⟨k1, u, by rw [upd_ne na]; exact k2, k3⟩
        · have na : a ≠ Dl := fun e => by
            rcases gD with g | g
            · rw [e, g] at z; cases z
            · exact f (e ▸ g)
          rw [upd_ne na]; exact h5.g2 a u z f
      · rw [outs_succ, ho]
        exact (hw.mono (e2.tr e25)).app ⟨v, [], rfl, r5, rfl⟩
    | false =>
      refine iteF ?_
      obtain ⟨ho, rfl⟩ := hno rfl
      obtain ⟨a1, a2, a3⟩ := foreign st4.hst
      refine ⟨S4, ws, (es.tr e2).tr e4, a1, a2, ⟨st2.hst.leave st4.hst, Slots.mono (e2.tr e4) st'.sl⟩, a3, ?_⟩
      rw [outs_succ, ho]
      simp only [Option.toList, List.append_nil]
      exact hw.mono (e2.tr e4)
  · have e : i = xs.length := by omega
    subst e
    refine .inl ⟨w.stop G _ S' H' _ _ _ es st' hn rfl, q Dl S' H' (e1.tr es) nM' ⟨?_, st1.sl.mono es⟩⟩
    have h := st'.hst
    refine ⟨h.sub, fun a m z => ?_, h.g1, h.g2, h.g3, fun a z => ?_⟩
    · by_cases ha : a = Dl
      · subst ha
        rw [mset_same] at z; cases z
        exact ⟨nS', _, hD, ws, rfl, hw⟩
      · rw [mset_ne ha] at z; exact h.own a m z
    · by_cases ha : a = Dl
      · subst ha; exact gD
      · rw [mset_ne ha] at z; exact h.g4 a z
theorem l_lc {elt tg it : Expr} {ifs : List Expr} {scope : Scope} {own : List (Str × Nat)} {pos : Pos} {xs : List SV} {need : MM → Prop} (Ms : Nat → MM) (o : Nat → Option SV) (hi : jI X G tg it ρ M xs need (Ms 0)) (ok : BlkOk X.N X.env.scope scope own) (hN : X.N.Nodup)
    (hneed : ∀ i, i ≤ xs.length → need (Ms i)) (hlen : xs.length ≤ 1000000)
    (step : ∀ i d, xs[i]? = some d → ∃ (b : Bool) (ow : List Nat) (f : List SV → List SV) (M2 : MM), (∀ j ∈ ow, j ∈ own.map (·.2)) ∧ (∀ s H C cl fp, jG (blk X scope s H C cl fp) tg d ow f) ∧
      (∀ s H C cl fp G, jTs (blk X scope s H C cl fp) G ifs (f (wipeR ρ (own.map (·.2)))) (Ms i) b M2) ∧
      (b = true → ∃ y, o i = some y ∧ ∀ s H C cl fp G, jE (blk X scope s H C cl fp) G elt (f (wipeR ρ (own.map (·.2)))) M2 y (Ms (i + 1))) ∧ (b = false → o i = none ∧ M2 = Ms (i + 1)))
    (hc : X.calm = true := by rfl) (hs : ∀ x, foldedSetIterable it X.env x = pure x := by intro _; rfl) : jL X G (.ListComp elt [⟨tg, it, ifs, 0⟩] scope pos) ρ M (outs o xs.length) (Ms xs.length) := fun S H σ st Q q =>
  PE.go (pe_lc (g := fun v σ H Q => ∀ s H0 C cl fp, semG (blk X scope s H0 C cl fp) tg v σ H Q) (tt := fun σ H Q => ∀ s H0 C cl fp, semTs (blk X scope s H0 C cl fp) ifs σ H Q) (te := fun σ H Q => ∀ s H0 C cl fp, semE (blk X scope s H0 C cl fp) elt σ H Q) hc hN piS ok (fun s H0 C cl fp => ⟨fun pins s2 σ2 H2 v u Q2 I r h => (h s H0 C cl fp).run pins s2 u I r⟩) (fun s H0 C cl fp => ⟨fun pins s2 σ2 H2 Q2 I h => (h s H0 C cl fp).run pins s2 I⟩) (fun s H0 C cl fp => ⟨fun pins s2 σ2 H2 Q2 I h => (h s H0 C cl fp).run pins s2 I⟩) hs) (lcT Ms o hi ok hN hneed hlen step st q)
end
end NL
set_option Elab.async false
set_option linter.all false
set_option maxRecDepth 100000
set_option maxHeartbeats 4000000
namespace NL
open PySem PySem.Spec L2
open PyProof.Rows hiding St
section
variable (X : Cx) (G : Gh)
def J2 (f : Value → Value → Sem Value) (M : MM) (x y z : SV) (M' : MM) : Prop := ∃ r, OpR X f r ∧ j2 X G r M x y z M'
def J2L (f : Value → Value → Sem Value) (M : MM) (x y : SV) (ds : List SV) (M' : MM) : Prop := ∃ r, OpR X f r ∧ j2L X G r M x y ds M'
def J1 (f : Value → Sem Value) (M : MM) (x z : SV) (M' : MM) : Prop := ∃ r, UnR X f r ∧ j1 X G r M x z M'
def JC (f : Value) (M : MM) (xs : List SV) (z : SV) (M' : MM) : Prop := ∃ r, CallR X f r ∧ jC X G r M xs z M'
def JX (M : MM) (x y z : SV) (M' : MM) : Prop := ∃ r, IxR X r ∧ j2 X G r M x y z M'
end
section
variable {X : Cx} {G : Gh} {ρ : List SV} {M M1 M2 M3 : MM} {x y z : SV} {ds zs : List SV} {a b e : Expr} {es : List Expr} {pos p : Pos} {k : Bool} {n : Str}
theorem bin {op : Operator} (ha : jE X G a ρ M x M1) (hb : jE X G b ρ M1 y M2) (h : J2 X G (binaryOp op) M2 x y z M3) : jE X G (.BinOp a op b pos) ρ M z M3 := let ⟨_, o, h⟩ := h; e_bin o ha hb h
theorem binL {op : Operator} (ha : jE X G a ρ M x M1) (hb : jE X G b ρ M1 y M2) (h : J2L X G (binaryOp op) M2 x y ds M3) : jL X G (.BinOp a op b pos) ρ M ds M3 := let ⟨_, o, h⟩ := h; e_binL o ha hb h
theorem cmp {op : CmpOp} (ha : jE X G a ρ M x M1) (hb : jE X G b ρ M1 y M2) (h : J2 X G (compareOp op) M2 x y z M3) (hm : behindInMarks op b = false := by first | exact nomark _ | rfl) : jE X G (.Compare a [op] [b] pos) ρ M z M3 := let ⟨_, o, h⟩ := h; e_cmp o ha hb h hm
theorem tcmp {op : CmpOp} (ha : jE X G a ρ M x M1) (hb : jE X G b ρ M1 y M2) (h : J2 X G (compareOp op) M2 x y (.d (.bool k)) M3) (hm : behindInMarks op b = false := by first | exact nomark _ | rfl) : jT X G (.Compare a [op] [b] pos) ρ M k M3 := let ⟨_, o, h⟩ := h; t_cmp o ha hb h hm
theorem un {op : UnaryOp} (ha : jE X G a ρ M x M1) (h : J1 X G (unaryOp op) M1 x z M2) : jE X G (.UnaryOp op a pos) ρ M z M2 := let ⟨_, o, h⟩ := h; e_un o ha h
theorem ix (ha : jE X G a ρ M x M1) (hb : jE X G b ρ M1 y M2) (h : JX X G M2 x y z M3) (hs : PlainIx b := by exact fun _ _ => rfl) : jE X G (.Subscript a b pos) ρ M z M3 := let ⟨_, o, h⟩ := h; e_ix o ha hb h hs
theorem callB {id : String} (ha : jA X G (e :: es) ρ M ds M1) (h : JC X G (.builtin id) M1 ds z M2) (hm : X.mg n = none) (hv : bootBuiltins n = some (.builtin id) := by decide +kernel) (hg : Gl X n := by rfl)
    (hn : n ≠ "__name__" := by decide) (hdb : (n == ("__debug__" : Str)) = false := by decide) (he : starEach (e :: es) X.env = (false, eval e X.env) :: starEach es X.env := by rfl) (hpl : (backTo pos (starEach es X.env)).any (·.1) = false := by rfl) :
    jE X G (.Call (.Name n p) (e :: es) [] pos) ρ M z M2 := let ⟨_, o, h⟩ := h; e_callB o ha h hg hm hv hn hdb he hpl
theorem callT {T : String} (ha : jA X G (e :: es) ρ M ds M1) (h : JC X G (.type T) M1 ds z M2) (hm : X.mg n = none) (hv : bootBuiltins n = some (.type T) := by decide +kernel) (hg : Gl X n := by rfl)
    (hn : n ≠ "__name__" := by decide) (hdb : (n == ("__debug__" : Str)) = false := by decide) (he : starEach (e :: es) X.env = (false, eval e X.env) :: starEach es X.env := by rfl) (hpl : (backTo pos (starEach es X.env)).any (·.1) = false := by rfl) :
    jE X G (.Call (.Name n p) (e :: es) [] pos) ρ M z M2 := let ⟨_, o, h⟩ := h; e_callT o ha h hg hm hv hn hdb he hpl
end
section
variable {X : Cx} {G : Gh} {M : MM} {i j : Int}
theorem j_I0 {g : Int → Int → V} {d : D} (h : ∀ K S, Rp K S d (g i j)) : j2 X G (rI0 g) M (.d (.int i)) (.d (.int j)) (.d d) M := fun S H σ ρ u v st ru rv Q q => by
  obtain rfl : u = .int i := ru
  obtain rfl : v = .int j := rv
  exact ⟨i, j, rfl, rfl, q _ S H (Sub.rfl' S) st (h _ _)⟩
theorem j_I {C : Int → Int → Prop} {g : Int → Int → V} {d : D} (hc : C i j) (h : ∀ K S, Rp K S d (g i j)) : j2 X G (rI C g) M (.d (.int i)) (.d (.int j)) (.d d) M := fun S H σ ρ u v st ru rv Q q => by
  obtain rfl : u = .int i := ru
  obtain rfl : v = .int j := rv
  exact ⟨i, j, rfl, rfl, hc, q _ S H (Sub.rfl' S) st (h _ _)⟩
theorem sub_i : J2 X G (binaryOp .Sub) M (.d (.int i)) (.d (.int j)) (.d (.int (i - j))) M := ⟨_, op_sub, j_I0 fun _ _ => rfl⟩
theorem mod_i (h : 0 < j) : J2 X G (binaryOp .Mod) M (.d (.int i)) (.d (.int j)) (.d (.int (i % j))) M := ⟨_, op_mod, j_I h fun _ _ => rfl⟩
theorem lt_i : J2 X G (compareOp .Lt) M (.d (.int i)) (.d (.int j)) (.d (.bool (decide (i < j)))) M := ⟨_, op_lt, j_I0 fun _ _ => rfl⟩
theorem gt_i : J2 X G (compareOp .Gt) M (.d (.int i)) (.d (.int j)) (.d (.bool (decide (j < i)))) M := ⟨_, op_gt, j_I0 fun _ _ => rfl⟩
theorem eq_i : J2 X G (compareOp .Eq) M (.d (.int i)) (.d (.int j)) (.d (.bool (decide (i = j)))) M := ⟨_, op_eq, fun S H σ ρ u v st ru rv Q q => by
  obtain rfl : u = .int i := ru
  obtain rfl : v = .int j := rv
  refine ⟨rfl, ?_⟩
  have : decide (V.int i = V.int j) = decide (i = j) := by
    by_cases h : i = j
    · subst h; simp
    · rw [decide_eq_false h, decide_eq_false fun z => h (V.int.inj z)]
  rw [this]
  exact q _ S H (Sub.rfl' S) st rfl⟩
/-- data whose == is known: no dict, not too deep -/
def fine (d : D) : Bool := nodct d && SeqAt.shaped d
theorem eq_d {c d : D} (hu : X.A.units + 64 < cLine) (hc : fine c = true) (hd : fine d = true) : J2 X G (compareOp .Eq) M (.d c) (.d d) (.d (.bool (PyData.eqv c d))) M := ⟨_, op_eqD hu, fun S H σ ρ u v st ru rv Q q => by
  simp only [fine, Bool.and_eq_true] at hc hd
  exact ⟨c, d, Rp.dp hc.1 (Rp.mono st.hst.sub _ _ ru), Rp.dp hd.1 (Rp.mono st.hst.sub _ _ rv), hc.2, hd.2, q _ S H (Sub.rfl' S) st rfl⟩⟩
theorem ne_d {c d : D} (hu : X.A.units + 64 < cLine) (hc : fine c = true) (hd : fine d = true) : J2 X G (compareOp .NotEq) M (.d c) (.d d) (.d (.bool (!PyData.eqv c d))) M := ⟨_, op_neD hu, fun S H σ ρ u v st ru rv Q q => by
  simp only [fine, Bool.and_eq_true] at hc hd
  exact ⟨c, d, Rp.dp hc.1 (Rp.mono st.hst.sub _ _ ru), Rp.dp hd.1 (Rp.mono st.hst.sub _ _ rv), hc.2, hd.2, q _ S H (Sub.rfl' S) st rfl⟩⟩
/-- a list that can be read: no one's or one's own -/
def LsV (M : MM) : SV → List SV → Prop
  | .d (.list ds), xs => xs = ds.map SV.d
  | .o a, xs => M a = some (.lst xs)
  | _, _ => False
theorem lsv_at {K : PySem.W.Frag} {S H : Hp} {σ : L2.St} {ρ : List SV} {M : MM} {s : SV} {xs : List SV} {u : V} (st : Sta K G S H σ ρ M) (h : LsV M s xs) (r : Rel K S s u) : ∃ a vs, u = .ref a ∧ H a = some (.lst vs) ∧ RelA K S xs vs := by
  cases s with
  | d x =>
    cases x with
    | list ds =>
      have e : xs = ds.map SV.d := h
      subst e
      obtain ⟨a, vs, rfl, h1, r1⟩ := r
      exact ⟨a, vs, rfl, st.hst.sub a _ h1, RpA.ra r1⟩
    | _ => exact (show False from h).elim
  | o a =>
    obtain rfl : u = .ref a := r
    obtain ⟨_, o, ho, vs, rfl, r1⟩ := st.hst.own a _ h
    exact ⟨a, vs, rfl, ho, r1⟩
  | _ => exact (show False from h).elim
theorem ls_d {ds : List D} : LsV M (.d (.list ds)) (ds.map SV.d) := rfl
theorem cat_l {s t : SV} {xs ys : List SV} (h1 : LsV M s xs) (h2 : LsV M t ys) (hz : xs.length + ys.length ≤ 1000000) : J2L X G (binaryOp .Add) M s t (xs ++ ys) M := ⟨_, op_cat, fun S H σ ρ u v st ru rv Q q => by
  obtain ⟨a, vs, rfl, e1, r1⟩ := lsv_at st h1 ru
  obtain ⟨b, ws, rfl, e2, r2⟩ := lsv_at st h2 rv
  exact ⟨a, b, vs, ws, rfl, rfl, e1, e2, by rw [r1.len, r2.len]; exact sz_le hz, fun p np => q p S _ (Sub.rfl' S) (st.hst.free np).2 ⟨st.hst.newM np ⟨_, rfl, r1.app r2⟩, st.sl⟩⟩⟩
theorem RelA.at : ∀ {K : PySem.W.Frag} {S : Hp} {xs : List SV} {vs : List V} {i : Nat} {d : SV}, RelA K S xs vs → xs[i]? = some d → ∃ v, vs[i]? = some v ∧ Rel K S d v
  | _, _, [], _, _, _, _, e => by simp at e
  | _, _, _ :: _, _, 0, _, ⟨v, r, h1, h2, _⟩, e => by simp at e; subst e; subst h1; exact ⟨v, rfl, h2⟩
  | _, _, _ :: _, _, i + 1, d, ⟨v, r, h1, _, h3⟩, e => by
    subst h1
    obtain ⟨w, a, b⟩ := RelA.at (i := i) h3 (by simpa using e)
    exact ⟨w, by simpa using a, b⟩
theorem RelA.take : ∀ {K : PySem.W.Frag} {S : Hp} {ds : List SV} {vs : List V} (n : Nat), RelA K S ds vs → RelA K S (ds.take n) (vs.take n)
  | _, _, [], _, n, h => by subst h; cases n <;> exact rfl
  | _, _, _ :: _, _, 0, ⟨v, r, h1, _, _⟩ => by subst h1; exact rfl
  | _, _, _ :: _, _, n + 1, ⟨v, r, h1, h2, h3⟩ => by subst h1; exact ⟨v, _, rfl, h2, RelA.take n h3⟩
end
end NL
set_option Elab.async false
set_option linter.all false
set_option maxRecDepth 100000
set_option maxHeartbeats 4000000
namespace NL
open PySem PySem.Spec L2
open PyProof.Rows hiding St
end NL
set_option Elab.async false
set_option linter.all false
set_option maxRecDepth 100000
set_option maxHeartbeats 4000000
namespace NL
open PySem PySem.Spec L2
open PyProof.Rows hiding St
section
variable {X : Cx} {G : Gh} {M : MM} {i j : Int}
theorem c_int : JC X G (.type "int") M [.d (.int i)] (.d (.int i)) M := ⟨_, call_int1, fun S H σ ρ us st r Q q => by
  obtain ⟨v, r, rfl, rv, rfl⟩ := r
  obtain rfl : v = .int i := rv
  exact .inl ⟨i, rfl, q _ S H (Sub.rfl' S) st rfl⟩⟩
theorem c_max2 (hc : X.calm = true) : JC X G (.builtin "max") M [.d (.int i), .d (.int j)] (.d (.int (if j > i then j else i))) M := ⟨_, call_max2 hc, fun S H σ ρ us st r Q q => by
  obtain ⟨v, r, rfl, rv, v2, r2, rfl, rv2, rfl⟩ := r
  obtain rfl : v = .int i := rv
  obtain rfl : v2 = .int j := rv2
  exact ⟨i, j, rfl, q _ S H (Sub.rfl' S) st rfl⟩⟩
theorem c_min2 (hc : X.calm = true) : JC X G (.builtin "min") M [.d (.int i), .d (.int j)] (.d (.int (if j < i then j else i))) M := ⟨_, call_min2 hc, fun S H σ ρ us st r Q q => by
  obtain ⟨v, r, rfl, rv, v2, r2, rfl, rv2, rfl⟩ := r
  obtain rfl : v = .int i := rv
  obtain rfl : v2 = .int j := rv2
  exact ⟨i, j, rfl, q _ S H (Sub.rfl' S) st rfl⟩⟩
end
end NL
set_option Elab.async false
set_option linter.all false
set_option maxRecDepth 100000
set_option maxHeartbeats 4000000
namespace NL
open PySem PySem.Spec L2
open PyProof.Rows hiding St
section
variable {X : Cx} {G : Gh} {ρ : List SV} {M M1 M2 M3 : MM} {o e : Expr} {es : List Expr} {apos cpos : Pos} {a : Addr} {xs : List SV} {d z : SV}
theorem RelA.dropLast {K : PySem.W.Frag} {S : Hp} : ∀ {xs : List SV} {vs : List V}, RelA K S xs vs → RelA K S xs.dropLast vs.dropLast
  | [], _, h => by subst h; exact rfl
  | [_], _, ⟨v, r, h1, _, h3⟩ => by
    have h3' : r = [] := h3
    subst h1; subst h3'; exact rfl
  | _ :: y :: xs, _, ⟨v, r, h1, h2, h3⟩ => by
    obtain ⟨w, t, e1, h4, h5⟩ := h3
    subst h1; subst e1
    exact ⟨v, _, rfl, h2, RelA.dropLast (xs := y :: xs) ⟨w, t, rfl, h4, h5⟩⟩
theorem RelA.set {K : PySem.W.Frag} {S : Hp} {d : SV} {w : V} (h : Rel K S d w) : ∀ {xs : List SV} {vs : List V} (k : Nat), RelA K S xs vs → RelA K S (xs.set k d) (vs.set k w)
  | [], _, k, h => by subst h; exact rfl
  | _ :: _, _, 0, ⟨v, r, h1, _, h3⟩ => by subst h1; exact ⟨w, r, rfl, h, h3⟩
  | _ :: _, _, k + 1, ⟨v, r, h1, h2, h3⟩ => by subst h1; exact ⟨v, _, rfl, h2, RelA.set h k h3⟩
end
end NL
set_option Elab.async false
set_option linter.all false
set_option maxRecDepth 100000
set_option maxHeartbeats 4000000
namespace NL
open PySem PySem.Spec L2
open PyProof.Rows hiding St
/-- a def of the text, where it stands behind the top -/
structure Def (K : PySem.W.Frag) (mg : Str → Option Value) (x : Str) (st : Stmt) (ps : List Str) where
  f : Addr
  fd : FuncData
  F : FunX K x x st f fd
  b : Binds K fd ps []
  g : mg x = some (.ref f)
section
variable {X : Cx} {G : Gh} {ρ : List SV} {M M1 M2 : MM} {z : SV} {ds : List SV} {e : Expr} {es : List Expr} {pos p : Pos}
/-- a def that is called: what its promise makes of the arguments -/
theorem call {k n : Nat} {W : Wp} {x : Str} {st : Stmt} {ps : List Str} (T : Def X.K X.mg x st ps) (F : FnG X.prog X.w X.K X.mg X.base CX0 k T.f T.fd ps (spN X.K n W)) (hr : Rm k X.A) (ha : jA X G (e :: es) ρ M ds M1) (hW : ∀ R : SV → MM → Prop, R z M2 → W ds M1 R) (hl : ds.length = n := by rfl)
    (hg : Gl X x := by rfl) (hdb : (x == ("__debug__" : Str)) = false := by decide) (he : starEach (e :: es) X.env = (false, eval e X.env) :: starEach es X.env := by rfl) (hpl : (backTo pos (starEach es X.env)).any (·.1) = false := by rfl) : jE X G (.Call (.Name x p) (e :: es) [] pos) ρ M z M2 :=
  e_call1 F hr T.g T.F.kp T.b ha hW hl hg hdb he hpl
end
end NL
set_option Elab.async false
set_option linter.all false
set_option maxRecDepth 100000
set_option maxHeartbeats 4000000
namespace NL
open PySem PySem.Spec L2
open PyProof.Rows hiding St
structure okD (k : Nat) (d : D) : Prop where
  nd : nodct d = true
  lay : d.canLay0 = true
  dep : d.depth ≤ k
theorem okD.mono {k j : Nat} {d : D} (h : okD k d) (l : k ≤ j) : okD j d := ⟨h.nd, h.lay, Nat.le_trans h.dep l⟩
theorem ok_int {k : Nat} {i : Int} : okD k (.int i) := ⟨rfl, by simp [PyData.canLay0], by simp [PyData.depth]⟩
theorem ok_all {k : Nat} : ∀ {ds : List D}, (∀ d ∈ ds, okD k d) → nodctA ds = true ∧ PyData.canLayAll0 ds = true ∧ PyData.depthAll ds ≤ k
  | [], _ => ⟨rfl, by simp [PyData.canLayAll0], by simp [PyData.depthAll]⟩
  | d :: ds, h => by
    obtain ⟨a, b, c⟩ := ok_all fun x hx => h x (List.mem_cons_of_mem _ hx)
    have hd := h d (List.mem_cons_self ..)
    refine ⟨by simp [nodctA, hd.nd, a], by simp [PyData.canLayAll0, hd.lay, b], ?_⟩
    simp only [PyData.depthAll]
    have := hd.dep
    omega
theorem ok_list {k : Nat} {ds : List D} (h : ∀ d ∈ ds, okD k d) : okD (k + 1) (.list ds) := by
  obtain ⟨a, b, c⟩ := ok_all h
  exact ⟨by simpa [nodct] using a, by simpa [PyData.canLay0] using b, by simp only [PyData.depth]; omega⟩
def tI (ns : List Int) : D := .tuple (ns.map .int)
def lI (ns : List Int) : D := .list (ns.map .int)
theorem ok_lI (ns : List Int) : okD 1 (lI ns) := ok_list fun d hd => by
  obtain ⟨n, _, rfl⟩ := List.mem_map.mp hd
  exact ok_int
theorem e_nil {X : Cx} {G : Gh} {ρ : List SV} {M : MM} {pos : Pos} : jE X G (.List [] pos) ρ M (.d (.list [])) M := e_ofL (xs := []) (e_lst a_nil)
end NL
namespace NL
open PySem PySem.Spec L2
open PyProof.Rows hiding St
/-- the name in slot i -/
theorem v (i : Nat) {X : Cx} {G : Gh} {ρ : List SV} {M : MM} {d : SV} {n : Str} {pos : Pos} (hN : X.N[i]? = some n := by rfl) (hr : ρ[i]? = some d := by rfl) (hv : Vis X.env.scope n := by first | exact Or.inl rfl | exact Or.inr (Or.inl rfl) | exact Or.inr (Or.inr rfl)) (hd : d ≠ .u := by exact fun q => nomatch q)
    (h1 : (n == ("__debug__" : Str)) = false := by decide) (h2 : (n == ("__classdict__" : Str)) = false := by decide) : jE X G (.Name n pos) ρ M d M := e_var hN hv hr hd h1 h2
end NL
namespace NL
open PySem PySem.Spec L2
open PyProof.Rows hiding St
end NL
namespace NL
theorem snoc {α : Type} (l : List α) : l = [] ∨ ∃ r x, l = r ++ [x] := by
  by_cases h : l = []
  · exact .inl h
  · exact .inr ⟨l.dropLast, l.getLast h, (List.dropLast_concat_getLast h).symm⟩
end NL
namespace NL
open PySem PySem.Spec L2
open PyProof.Rows hiding St
section
variable {X : Cx} {G : Gh} {ρ : List SV} {M M1 M2 : MM} {P : Post} {e c : Expr} {d : SV} {ds : List SV} {pos p' : Pos} {n : Str}
theorem st (i : Nat) (he : jE X G e ρ M d M1) (k : P.nx (ρ.set i d) M1) (hN : X.N.Nodup) (hi : X.N[i]? = some n := by rfl) (hx : Loc X.env.scope n := by first | exact Or.inl rfl | exact Or.inr rfl)
    (hs : swapsWith e (some (.Name n p')) pos.line X.env = pure false := by rfl) (hf : X.fn n = true ∨ X.env.scope.names.lookup n = some .local := by first | exact .inl rfl | exact .inr rfl) : jS X G (.Assign [.Name n p'] e pos) ρ M P := s_set he k hN hi hx hs hf
theorem ret (he : jE X G e ρ M d M1) (k : P.rt d M1) : jS X G (.Return (some e) pos) ρ M P := s_ret he ⟨_, MLe.rfl' _, k⟩
theorem gn (i : Nat) (hN : X.N.Nodup) (hi : X.N[i]? = some n := by rfl) (hx : Loc X.env.scope n := by first | exact Or.inl rfl | exact Or.inr rfl) (hf : X.fn n = true ∨ X.env.scope.names.lookup n = some .local := by first | exact .inl rfl | exact .inr rfl) :
    jG X (.Name n pos) d [i] (fun ρ => ρ.set i d) := g_name hN hi hx hf
end
end NL
set_option Elab.async false
set_option linter.all false
set_option maxRecDepth 100000
set_option maxHeartbeats 4000000
namespace NL
open PySem PySem.Spec L2
open PyProof.Rows hiding St
/-- e gives some d that Φ allows -/
def nE (X : Cx) (G : Gh) (e : Expr) (ρ : List SV) (M : MM) (Φ : SV → MM → Prop) : Prop := ∀ S H σ, Sta X.K G S H σ ρ M → ∀ Q : VK,
  (∀ d M' v S' H', Φ d M' → Sub S S' → Sta X.K G S' H' σ ρ M' → Rel X.K S' d v → Q v H') → semE X e σ H Q
section
variable {X : Cx} {G : Gh} {ρ : List SV} {M M1 M2 M3 : MM} {z d : SV} {ds : List SV} {e a b : Expr} {es : List Expr} {pos p p' : Pos} {Φ Ψ : SV → MM → Prop} {P : Post}
theorem nE.imp (h : nE X G e ρ M Φ) (k : ∀ d M', Φ d M' → Ψ d M') : nE X G e ρ M Ψ := fun S H σ st Q q => h S H σ st Q fun d M' v S' H' f => q d M' v S' H' (k d M' f)
end
theorem bk {N ps : List Str} {sc : Scope} (_ : FnScope N ps sc) {N' : List Str} {sc' scope : Scope} {own : List (Str × Nat)} (h : blkC N sc scope own = true) (e1 : N' = N := by rfl) (e2 : sc' = sc := by rfl) : BlkOk N' sc' scope own := by
  subst e1; subst e2; exact blkOk_by h
end NL
set_option Elab.async false
set_option linter.all false
set_option maxRecDepth 100000
set_option maxHeartbeats 4000000
namespace NL
open PySem PySem.Spec L2
open PyProof.Rows hiding St
inductive Pr2 {α β : Type} (R : α → β → Prop) : List α → List β → Prop where
  | nil : Pr2 R [] []
  | cons {a b as bs} (h : R a b) (t : Pr2 R as bs) : Pr2 R (a :: as) (b :: bs)
theorem Pr2.len {α β : Type} {R : α → β → Prop} : ∀ {xs : List α} {ys : List β}, Pr2 R xs ys → xs.length = ys.length
  | _, _, .nil => rfl
  | _, _, .cons _ t => by rw [List.length_cons, List.length_cons, t.len]
theorem atI_map {α β : Type} (f : α → β) (xs : List α) (z : α) {i : Nat} (h : i < xs.length) : atI (xs.map f) (i : Nat) = some (f (xs.getD i z)) := by
  refine atI_nat ?_
  simp [h]
end NL
set_option Elab.async false
set_option linter.all false
set_option maxRecDepth 100000
set_option maxHeartbeats 4000000
namespace NL
open PySem PySem.Spec L2
open PyProof.Rows hiding St
end NL
set_option Elab.async false
set_option linter.all false
set_option maxRecDepth 100000
set_option maxHeartbeats 4000000
namespace NL
open PySem PySem.Spec L2
open PyProof.Rows hiding St
mutual
def nodes : D → Nat
  | .list ds => 1 + nodesA ds
  | .tuple ds => 1 + nodesA ds
  | _ => 1
def nodesA : List D → Nat
  | [] => 0
  | d :: ds => nodes d + nodesA ds
end
mutual
def tame : D → Bool
  | .none => true
  | .bool _ => true
  | .int i => decide (i.natAbs < 10 ^ 18)
  | .list ds => tameA ds
  | .tuple ds => tameA ds
  | _ => false
def tameA : List D → Bool
  | [] => true
  | d :: ds => tame d && tameA ds
end
theorem shownAll_len : ∀ ds : List D, (PyData.shownAll ds).length = ds.length
  | [] => by simp [PyData.shownAll]
  | d :: ds => by simp [PyData.shownAll, shownAll_len ds]
theorem log_lt {a : Int} (h : a.natAbs < 10 ^ 18) : a.natAbs.log2 < 1920 := by
  by_cases z : a.natAbs = 0
  · rw [z]; decide
  · refine Nat.lt_of_lt_of_le ((Nat.log2_lt z).mpr (Nat.lt_of_lt_of_le h (show 10 ^ 18 ≤ 2 ^ 60 by decide))) (by decide)
mutual
theorem tame_len : ∀ d : D, tame d = true → (PyData.shown d).length + 2 ≤ 26 * nodes d ∧ PyData.showable d = true ∧ PyData.hasDict d = false
  | .none, _ => by simp only [PyData.shown, PyData.showable, PyData.hasDict, nodes]; exact ⟨by decide, trivial, trivial⟩
  | .bool b, _ => by cases b <;> (simp only [PyData.shown, PyData.showable, PyData.hasDict, nodes]; exact ⟨by decide, trivial, trivial⟩)
  | .int i, h => by
    simp only [tame, decide_eq_true_eq] at h
    have h1 := int_text_length_le10 (k := 18) (by decide) h
    have h2 := log_lt h
    simp only [PyData.shown, PyData.showable, PyData.hasDict, nodes, decide_eq_true_eq]
    have e : (Str.ofString (toString i)).length = (toString i).length := PySem.ofString_length _
    have e2 : ((toString i : String) : Str).length = (toString i).length := e
    refine ⟨?_, h2, trivial⟩
    rw [e2]; omega
  | .str _, h => by simp [tame] at h
  | .list ds, h => by
    simp only [tame] at h
    obtain ⟨a, b, c⟩ := tameA_len ds h
    simp only [PyData.shown, PyData.showable, PyData.hasDict, nodes]
    refine ⟨?_, b, c⟩
    have := listText_len_le (PyData.shownAll ds)
    rw [shownAll_len] at this
    omega
  | .tuple ds, h => by
    simp only [tame] at h
    obtain ⟨a, b, c⟩ := tameA_len ds h
    simp only [PyData.shown, PyData.showable, PyData.hasDict, nodes]
    refine ⟨?_, b, c⟩
    have := tupleText_len_le (PyData.shownAll ds)
    rw [shownAll_len] at this
    omega
  | .dict _, h => by simp [tame] at h
theorem tameA_len : ∀ ds : List D, tameA ds = true → ((PyData.shownAll ds).map (·.length)).sum + 2 * ds.length ≤ 26 * nodesA ds ∧ PyData.showableAll ds = true ∧ PyData.hasDictAll ds = false
  | [], _ => by simp [PyData.shownAll, PyData.showableAll, PyData.hasDictAll, nodesA]
  | d :: ds, h => by
    simp only [tameA, Bool.and_eq_true] at h
    obtain ⟨a, b, c⟩ := tame_len d h.1
    obtain ⟨a2, b2, c2⟩ := tameA_len ds h.2
    simp only [PyData.shownAll, PyData.showableAll, PyData.hasDictAll, nodesA, List.map_cons, List.sum_cons, List.length_cons, b, b2, c, c2]
    exact ⟨by omega, rfl, rfl⟩
end
section
variable {X : Cx} {G : Gh} {M M1 M2 : MM} {ρ : List SV}
def rReprD (K : PySem.W.Frag) : List V → Hp → VK → Prop := fun vs H Q => ∃ a d, vs = [.ref a] ∧ Dp K H (.ref a) d ∧ PyData.showable d = true ∧ PyData.hasDict d = false ∧ d.shown.length ≤ sizeLine ∧ d.depth ≤ 60 ∧ Q (.str d.shown) H
theorem cr_repr (gd : X.A.guards = some []) (hu : X.A.units + 64 < cLine) : CallR X (.builtin "repr") (rReprD X.K) := by
  intro pins s σ H vs us Q I r h
  obtain ⟨a, d, rfl, hd, hs, hn, hl, hdp, q⟩ := h
  rw [Vals.ref1 r]
  obtain ⟨as, rd⟩ := Dp.reads I d (.ref a) (.ref a) hd rfl
  refine repr_of_reads' rd hs (PyData.noDict_hsm hn) gd (by omega) (fun _ _ e => e) (fun h' u tk hk => ⟨.str d.shown, H, I.kept (t' := tk) hk, ⟨u, rfl⟩, q⟩) hl
theorem c_repr {d : D} (gd : X.A.guards = some []) (hu : X.A.units + 64 < cLine) (ok : okD 50 d) (tm : tame d = true) (nd : nodes d ≤ 600000) (hr : (match d with | .list _ => true | .tuple _ => true | _ => false) = true) : JC X G (.builtin "repr") M [.d d] (.d (.str d.shown)) M := ⟨_, cr_repr gd hu, fun S H σ ρ us st r Q q => by
  obtain ⟨v, r', rfl, hv, rfl⟩ := r
  obtain ⟨l1, l2, l3⟩ := tame_len d tm
  have hd := Rp.dp ok.nd (Rp.mono st.hst.sub _ _ hv)
  have ha : ∃ a, v = .ref a := by
    cases d with
    | list ds => obtain ⟨a, _, e, _⟩ := hv; exact ⟨a, e⟩
    | tuple ds => obtain ⟨a, _, e, _⟩ := hv; exact ⟨a, e⟩
    | _ => cases hr
  obtain ⟨a, rfl⟩ := ha
  refine ⟨a, d, rfl, hd, l2, l3, ?_, Nat.le_trans ok.dep (by decide), q _ S H (Sub.rfl' S) st rfl⟩
  rw [sizeLine_eq]; omega⟩
theorem ne_s {x y : Str} : J2 X G (compareOp .NotEq) M (.d (.str x)) (.d (.str y)) (.d (.bool (!decide (x = y)))) M := ⟨_, op_ne, fun S H σ ρ u v st ru rv Q q => by
  obtain rfl : u = .str x := ru
  obtain rfl : v = .str y := rv
  refine ⟨rfl, ?_⟩
  have : decide (V.str x = V.str y) = decide (x = y) := by
    by_cases h : x = y
    · subst h; simp
    · rw [decide_eq_false h, decide_eq_false fun z => h (V.str.inj z)]
  rw [this]
  exact q _ S H (Sub.rfl' S) st rfl⟩
theorem eq_s {x y : Str} : J2 X G (compareOp .Eq) M (.d (.str x)) (.d (.str y)) (.d (.bool (decide (x = y)))) M := ⟨_, op_eq, fun S H σ ρ u v st ru rv Q q => by
  obtain rfl : u = .str x := ru
  obtain rfl : v = .str y := rv
  refine ⟨rfl, ?_⟩
  have : decide (V.str x = V.str y) = decide (x = y) := by
    by_cases h : x = y
    · subst h; simp
    · rw [decide_eq_false h, decide_eq_false fun z => h (V.str.inj z)]
  rw [this]
  exact q _ S H (Sub.rfl' S) st rfl⟩
end
section
variable {X : Cx} {G : Gh} {M M1 M2 : MM} {ρ : List SV} {e : Expr} {pos p p2 : Pos} {n : Str} {T : String} {d : SV}
theorem e_ty (hm : X.mg n = none) (hv : bootBuiltins n = some (.type T) := by decide +kernel) (hg : Gl X n := by rfl) (hn : n ≠ "__name__" := by decide) (hdb : (n == ("__debug__" : Str)) = false := by decide) : jE X G (.Name n pos) ρ M (.v (.ty T)) M :=
  e_bltn hg hm hv rfl hn hdb
end
end NL
set_option Elab.async false
set_option linter.all false
set_option maxRecDepth 100000
set_option maxHeartbeats 4000000
namespace NL
open PySem PySem.Spec L2
open PyProof.Rows hiding St
def jCN (X : Cx) (G : Gh) (r : List V → Hp → VK → Prop) (M : MM) (xs : List SV) (Φ : SV → MM → Prop) : Prop := ∀ S H σ ρ us, Sta X.K G S H σ ρ M → RelA X.K S xs us → ∀ Q : VK,
  (∀ d M' w S' H', Φ d M' → Sub S S' → Sta X.K G S' H' σ ρ M' → Rel X.K S' d w → Q w H') → r us H Q
def JCN (X : Cx) (G : Gh) (f : Value) (M : MM) (xs : List SV) (Φ : SV → MM → Prop) : Prop := ∃ r, CallR X f r ∧ jCN X G r M xs Φ
section
variable {X : Cx} {G : Gh} {ρ : List SV} {M M1 M2 M3 : MM} {P : Post} {e o c a b : Expr} {es : List Expr} {d x y z : SV} {ds : List SV} {pos p p' apos cpos : Pos} {Φ Ψ : SV → MM → Prop} {n : Str} {T : String} {f : Value} {k : Bool}
theorem JCN.imp (h : JCN X G f M ds Φ) (k : ∀ d M', Φ d M' → Ψ d M') : JCN X G f M ds Ψ := by
  obtain ⟨r, hc, h⟩ := h
  exact ⟨r, hc, fun S H σ ρ us st ra Q q => h S H σ ρ us st ra Q fun d M' w S' H' g => q d M' w S' H' (k d M' g)⟩
def SetR2 (P : Program) (w : World) (a : Addr) (L : List (List Int)) (S : Hp) (o : HO) : Prop := ∃ Ls : List (Addr × List Int), o = SetTO P w a Ls ∧ (Ls.map (fun p => p.2)).Perm L ∧ ∀ p ∈ Ls, S p.1 = some (.tup (p.2.map V.int))
theorem SetR2.mono {P : Program} {w : World} {a : Addr} {L : List (List Int)} {S S' : Hp} {o : HO} (e : Sub S S') (h : SetR2 P w a L S o) : SetR2 P w a L S' o := by
  obtain ⟨Ls, h1, h2, h3⟩ := h
  exact ⟨Ls, h1, h2, fun p hp => e _ _ (h3 p hp)⟩
end
end NL
set_option Elab.async false
set_option linter.all false
set_option maxRecDepth 100000
set_option maxHeartbeats 4000000
namespace NL
open PySem PySem.Spec L2
open PyProof.Rows hiding St
theorem Flds.len {K : PySem.W.Frag} {S : Hp} : ∀ {fs : List (Str × D)} {vs : List (Str × V)}, Flds K S fs vs → vs.length = fs.length
  | [], _, h => by
    have h' : _ = [] := h
    subst h'; rfl
  | _ :: _, _, ⟨_, _, h1, _, h3⟩ => by subst h1; rw [List.length_cons, List.length_cons, h3.len]
section
variable {X : Cx} {G : Gh} {ρ : List SV} {M M1 M2 M3 : MM} {P : Post} {e o c a b i : Expr} {es : List Expr} {d : SV} {ds : List SV} {pos p p' pd : Pos} {Φ Ψ : SV → MM → Prop}
structure semK' (X : Cx) (kws : List Keyword) (σ : L2.St) (H : Hp) (Q : List V → Hp → Prop) : Prop where
  run : ∀ (pos : Pos) pins s, Inv X pins σ H s → wpAny (model X.prog X.w) X.A (evalAll ((backToKw pos (keywordEach kws X.env)).map (·.2))) (AP X pins σ Q) X.xe s
def semK (X : Cx) (kws : List Keyword) : TA := fun σ H Q => semK' X kws σ H Q
theorem pkS {kws : List Keyword} : PK X kws (semK X kws) := ⟨fun p pins s _ _ _ I h => h.run p pins s I⟩
def jK (X : Cx) (G : Gh) (kws : List Keyword) (ρ : List SV) (M : MM) (ds : List SV) (M' : MM) : Prop := ∀ S H σ, Sta X.K G S H σ ρ M → ∀ Q : List V → Hp → Prop,
  (∀ vs S' H', Sub S S' → Sta X.K G S' H' σ ρ M' → RelA X.K S' ds vs → Q vs H') → semK X kws σ H Q
theorem k_nil : jK X G [] ρ M [] M := fun S H σ st Q q => ⟨fun pos pins s I => pk_nil.run pos pins s σ H Q I (q [] S H (Sub.rfl' S) st rfl)⟩
theorem k_cons {nm : Option Str} {kp : Pos} {kws : List Keyword} (h : jE X G e ρ M d M1) (hr : jK X G kws ρ M1 ds M2) : jK X G (⟨nm, e, kp⟩ :: kws) ρ M (d :: ds) M2 := fun S H σ st Q q => ⟨fun pos pins s I =>
  (pk_cons peS pkS).run pos pins s σ H Q I (h S H σ st _ fun v S1 H1 e1 st1 r1 => hr S1 H1 σ st1 _ fun vs S2 H2 e2 st2 r2 => q _ S2 H2 (e1.tr e2) st2 ⟨v, vs, rfl, r1.mono e2, r2⟩)⟩
end
end NL
set_option Elab.async false
set_option linter.all false
set_option maxRecDepth 100000
set_option maxHeartbeats 1000000
namespace NL
open PySem PySem.Spec L2
open PyProof.Rows hiding St
section
variable {X : Cx} {G : Gh} {ρ : List SV} {M M1 M2 M3 : MM} {P : Post} {st : Stmt} {rest : List Stmt} {e o c a b i : Expr} {es : List Expr} {d : SV} {ds : List SV} {pos p p' pd : Pos} {Φ Ψ : SV → MM → Prop}
theorem nE.less (h : nE X G e ρ M Φ) (k : ∀ d M', Φ d M' → ∃ M'', MLe M'' M' ∧ Ψ d M'') : nE X G e ρ M Ψ := fun S H σ st Q q => h S H σ st Q fun d M' v S' H' g e1 s1 r1 => by
  obtain ⟨M'', hl, hp⟩ := k d M' g
  exact q d M'' v S' H' hp e1 (s1.less hl) r1
theorem MLe.mset {M M' : MM} {q : Addr} {m : MO} (h : MLe M M') : MLe (mset M q m) (mset M' q m) := fun x n z => by
  by_cases hx : x = q
  · subst hx; rw [mset_same] at z ⊢; exact z
  · rw [mset_ne hx] at z ⊢; exact h x n z
end
end NL
set_option Elab.async false
set_option linter.all false
set_option maxRecDepth 100000
set_option maxHeartbeats 1000000
namespace NL
open PySem PySem.Spec L2
open PyProof.Rows hiding St
section
variable {X : Cx} {G : Gh} {ρ : List SV} {M M1 M2 M3 : MM} {P : Post} {st : Stmt} {b : List Stmt} {e o c a i : Expr} {es : List Expr} {d : SV} {ds : List SV} {pos p p' pd : Pos} {Φ Ψ : SV → MM → Prop}
theorem e_ofN (h : nE X G e ρ M Φ) (k : ∀ d' M', Φ d' M' → d' = d ∧ M' = M1) : jE X G e ρ M d M1 := fun S H σ s Q q => h S H σ s Q fun d' M' v S' H' g e1 s1 r1 => by
  obtain ⟨h1, h2⟩ := k d' M' g
  rw [h1] at r1
  rw [h2] at s1
  exact q v S' H' e1 s1 r1
end
end NL
set_option Elab.async false
set_option linter.all false
set_option maxRecDepth 100000
set_option maxHeartbeats 4000000
namespace NL
open PySem PySem.Spec L2
open PyProof.Rows hiding St
section
variable {P : Program} {w : World} {K : PySem.W.Frag} {mg mb : Str → Option Value} {k : Nat} {fa a : Addr} {fd : FuncData} {x : Str} {sp : Sp} {s1 : Shared} {vs : List Value} {ns : List Int}
/-- what is wanted of the call -/
abbrev LawEnd (s1 : Shared) : Result → Shared → Prop := fun r s2 => r = .ok (.ret (.bool true)) ∧ OldK s1.heap s2.heap ∧ s2.os = s1.os ∧ AllBare s2.gens
theorem law_core (inK : K.In s1.heap) (gl : s1.heap.Ns mainGlobals mg) (bl : s1.heap.Ns builtinsNs mb) (bb : ∀ y : Str, y ≠ "__name__" → mb y = bootBuiltins y) (nl : s1.heap.NoLimit) (ge : s1.gens = #[]) (ob : s1.heap.get? a = some { cls := .type "list", data := .seq vs.toArray }) (rm : Room k callerA)
    (F : ∀ base : Heap, K.In base → base.Ns mainGlobals mg → FnG P w K mg base CX0 k fa fd [x] sp) (bd : ∀ (s : Shared) (u : Value), BindsTo s fd ⟨[u], []⟩ [(x, u)]) (hsp : ∀ H : Hp, Only H → SqL K H a (ns.map V.int) → sp [.ref a] H (fun v _ => v = .bl true) E0)
    (H : Hp) (only : Only H) (sq : SqL K H a (ns.map V.int)) (ok : HOk P w H s1.heap) (al : ∀ b, H b ≠ none → b = a) (off : H a ≠ none → K.lookup a = none) : codeAny (model P w) callerA (.call (.ref fa) ⟨[.ref a], []⟩) (LawEnd s1) s1 := by
  have bare : ∀ {b : Addr} {o : Obj}, s1.heap.get? b = some o → H b = none → (hidT s1.heap H).get? b = some o := fun e n => hidT_get e n
  have dicts : ∀ {b : Addr} {o : Obj} {es : Array DictEntry} {ep : Nat}, s1.heap.get? b = some o → o.data = .dict es ep → H b = none := fun {b o es ep} e dd =>
    Classical.byContradiction fun z => by
      have eb : b = a := al b z
      rw [eb, ob] at e
      cases e
      exact nomatch (show Data.seq vs.toArray _ = Data.dict es ep from dd)
  have spaces : ∀ {b : Addr} {m : Str → Option Value}, s1.heap.Ns b m → (hidT s1.heap H).Ns b m := fun {b m} q => by
    obtain ⟨o, es, ep, e, dd, r⟩ := q
    exact ⟨o, es, ep, bare e (dicts e dd), dd, r⟩
  have inB : K.In (hidT s1.heap H) := fun b o e => bare (inK b o e) (Classical.byContradiction fun z => by
    have eb : b = a := al b z
    subst eb
    rw [off z] at e
    cases e)
  have lim : (hidT s1.heap H).NoLimit := by
    obtain ⟨mc, h1, h2⟩ := nl
    exact ⟨mc, spaces h1, h2⟩
  have env : Env0 P w K mg (hidT s1.heap H) callerA [] s1 H := ⟨rfl, ⟨inB, spaces gl, ⟨mb, spaces bl, bb⟩, lim⟩, fun b o e => of_hidT e, Nat.le_of_eq (hidT_size _ _), trivial, fun b hb => absurd (show b ∈ ([] : List Addr) from hb) (by simp), ok, .of_eq ge⟩
  refine codeAny_mono ((F _ inB (spaces gl)).run callerA [] s1 H ⟨[.ref a], []⟩ [.ref a] [.ref a] _ E0 rfl rm env (bd s1 (.ref a)) (.cons rfl .nil) (hsp H only sq)) fun r s2 q => ?_
  cases r with
  | error e => exact q.elim
  | ok fl =>
    cases fl with
    | ret u =>
      obtain ⟨v, H2, os, gb, un, ok2, ru, rfl⟩ := q
      obtain rfl : u = Value.bool true := ru
      refine ⟨rfl, OldK.of_keep fun b o e => ?_, os, gb⟩
      rcases only b with z | ⟨ob2, xs, z⟩
      · exact un.keep b o e z (fun z => nomatch z) (fun z => nomatch z)
      · obtain ⟨g1, _⟩ := ok b _ z
        obtain ⟨g2, _⟩ := ok2 b _ (un.frzs b ob2 _ z)
        rw [e] at g1
        cases g1
        exact g2
    | next => exact q.elim
    | brk => exact q.elim
    | cont => exact q.elim
theorem law_enter (inK : K.In s1.heap) (gl : s1.heap.Ns mainGlobals mg) (bl : s1.heap.Ns builtinsNs mb) (bb : ∀ y : Str, y ≠ "__name__" → mb y = bootBuiltins y) (nl : s1.heap.NoLimit) (ge : s1.gens = #[]) (ob : s1.heap.get? a = some { cls := .type "list", data := .seq vs.toArray }) (it : IntsAre vs ns) (hz : ns.length ≤ sizeLine) (rm : Room k callerA)
    (F : ∀ base : Heap, K.In base → base.Ns mainGlobals mg → FnG P w K mg base CX0 k fa fd [x] sp) (bd : ∀ (s : Shared) (u : Value), BindsTo s fd ⟨[u], []⟩ [(x, u)]) (hsp : ∀ H : Hp, Only H → SqL K H a (ns.map V.int) → sp [.ref a] H (fun v _ => v = .bl true) E0) :
    codeAny (model P w) callerA (.call (.ref fa) ⟨[.ref a], []⟩) (LawEnd s1) s1 := by
  have vi := vals_ints it
  have vl := it.length
  cases kl : K.lookup a with
  | some o =>
    have e := inK a o kl
    rw [ob] at e
    cases e
    exact law_core inK gl bl bb nl ge ob rm F bd hsp (fun _ => none) (fun _ => .inl rfl) (.inr ⟨_, vs.toArray, _, kl, rfl, rfl, rfl, by rw [List.size_toArray, vl]; exact hz, by simpa using vi⟩) (fun _ _ z => nomatch (show (none : Option HO) = some _ from z)) (fun _ z => absurd rfl z) fun z => absurd rfl z
  | none =>
    have at1 : ∀ {b : Addr}, b = a → (fun b => if b = a then some (HO.frz { cls := .type "list", data := .seq vs.toArray } (.lst (ns.map V.int))) else none : Hp) b = some (.frz { cls := .type "list", data := .seq vs.toArray } (.lst (ns.map V.int))) := fun e => if_pos e
    have at2 : ∀ {b : Addr}, b ≠ a → (fun b => if b = a then some (HO.frz { cls := .type "list", data := .seq vs.toArray } (.lst (ns.map V.int))) else none : Hp) b = none := fun e => if_neg e
    refine law_core inK gl bl bb nl ge ob rm F bd hsp (fun b => if b = a then some (.frz { cls := .type "list", data := .seq vs.toArray } (.lst (ns.map V.int))) else none) (fun b => ?_) (.inl (.inr ⟨_, at1 rfl⟩)) (fun b u z => ?_) (fun b z => ?_) fun _ => kl
    · by_cases e : b = a
      · exact .inr ⟨_, _, at1 e⟩
      · exact .inl (at2 e)
    · by_cases e : b = a
      · have z2 := (at1 e).symm.trans z
        cases z2
        subst e
        exact ⟨ob, by rw [List.length_map]; exact hz, vs, _, vi, ob⟩
      · have z2 := (at2 e).symm.trans z
        cases z2
    · exact Classical.byContradiction fun e => z (at2 e)
end
end NL
set_option Elab.async false
set_option linter.all false
set_option maxRecDepth 100000
set_option maxHeartbeats 4000000
namespace NL
open PySem PySem.Spec L2
open PyProof.Rows hiding St
/-- what is wanted of an exception: its class, what it keeps, the slots and own objects where it leaves -/
abbrev EPost := Addr → D → List SV → MM → Prop
/-- W takes what EX tells -/
def FitsX (K : PySem.W.Frag) (G : Gh) (EX : EPost) (W : WX) : Prop := ∀ S H σ ρ M C dx d v, Sta K G S H σ ρ M → S dx = some (.xd [("at", v)]) → Rp K S d v → EX C d ρ M → W (.ref C) (some dx) σ H
/-- __init__(self, at): self.at = at -/
def spAt (C : Addr) : Sp := fun vs H Q _ => ∃ (a : Addr) (v : V), vs = [.ref a, v] ∧ H a = some (exo a C none) ∧ ∀ dx, H dx = none → dx ≠ a → Q .non (upd (upd H dx (exd dx [("at", v)])) a (exo a C (some dx)))
/-- the class as the top has left it -/
structure ExcD (K : PySem.W.Frag) (mg : Str → Option Value) (x qual : Str) (st : Stmt) where
  C : Addr
  f : Addr
  fd : FuncData
  F : Fun K "__init__" qual st f fd
  b : Binds K fd ["self", "at"] []
  g : mg x = some (.ref C)
  cl : OexC K C
  xf : XfC K C
  ini : PySem.W.findIn K (.ref C) "__init__" = some (some (.ref f))
  tyF : PySem.W.typeIn K (.ref f) = some (.type "function")
  no : PySem.W.findIn K (.ref C) "at" = some none
section
variable {X : Cx} {G : Gh} {ρ : List SV} {M M1 : MM} {P : Post} {e : Expr} {pos pos' p : Pos} {d : D}
/-- raise C(e) -/
theorem s_raise {x qual : Str} {st : Stmt} {EX : EPost} {W : WX} (T : ExcD X.K X.mg x qual st) (F : FnOk X.prog X.w X.K X.mg X.base CX0 1 T.f T.fd ["self", "at"] (spAt T.C)) (hr : Rm 2 X.A) (tk : Takes X W) (fx : FitsX X.K G EX W) (ha : jA X G [e] ρ M [.d d] M1) (q : EX T.C d ρ M1) (hc : X.calm = true := by rfl)
    (hg : Gl X x := by rfl) (hdb : (x == ("__debug__" : Str)) = false := by decide) (he : starEach [e] X.env = (false, eval e X.env) :: starEach [] X.env := by rfl) (hpl : (backTo pos (starEach [] X.env)).any (·.1) = false := by rfl) :
    jS X G (.Raise (some (.Call (.Name x p) [e] [] pos)) none pos') ρ M P := fun S H σ s D f =>
  PS.go (ps_raise hc tk (pmk_oex T.cl T.ini T.tyF F hr.room T.b .nil pass0 hg T.g paS hdb he hpl)) (ha S H σ s _ fun vs S1 H1 e1 s1 r1 => by
    obtain ⟨v, r, rfl, rv, rr⟩ := r1
    obtain rfl : r = [] := rr
    refine ⟨(by show 1 ≤ 1000; decide), fun a na => ⟨a, v, by simp, upd_same, fun dx nx ne => ⟨rfl, dx, [("at", v)], upd_same, ?_, ?_, ?_⟩⟩⟩
    · rw [upd_ne ne, upd_same]
    · have := nx
      rw [upd_ne ne] at this
      exact this
    · have nd : H1 dx = none := by
        have := nx
        rw [upd_ne ne] at this
        exact this
      have eh : upd (L2.del (upd (upd (upd H1 a (exo a T.C none)) dx (exd dx [("at", v)])) a (exo a T.C (some dx))) a) dx (.xd [("at", v)]) = upd H1 dx (.xd [("at", v)]) := by
        funext b
        by_cases h1 : b = dx
        · subst h1; rw [upd_same, upd_same]
        · rw [upd_ne h1, upd_ne h1]
          by_cases h2 : b = a
          · subst h2; rw [L2.del_same, na]
          · rw [L2.del_ne h2, upd_ne h2, upd_ne h1, upd_ne h2]
      have sb : Sub S1 (upd S1 dx (.xd [("at", v)])) := Evl.Ex.new (s1.hst.free nd).1
      rw [eh]
      exact fx (upd S1 dx (.xd [("at", v)])) _ σ ρ M1 T.C dx d v ⟨s1.hst.newS nd, s1.sl.mono sb⟩ upd_same (Rp.mono sb _ _ rv) q)
end
end NL
set_option Elab.async false
set_option linter.all false
set_option maxRecDepth 100000
set_option maxHeartbeats 4000000
namespace NL
open PySem PySem.Spec L2
open PyProof.Rows hiding St
section
variable {X : Cx} {G : Gh} {ρ : List SV} {M M1 : MM} {P : Post} {e : Expr} {es : List Expr} {pos p np pos' : Pos} {ds : List SV} {d : D} {Φ : SV → MM → Prop}
/-- what a caught error keeps -/
theorem e_at {a dd C : Addr} {oe : Obj} {pn : List (Addr × Obj)} {o : Expr} (T : XfC X.K C) (no : PySem.W.findIn X.K (.ref C) "at" = some none) (hz : Zc (.ref C) (some dd) oe) (hf : ∃ vs, oe.data = .fields vs) (ho : jE (X.suite a ((a, oe) :: pn)) G o ρ M (.x a dd d) M1)
    (hb : attributeBase o "at" X.env (eval o X.env) = eval o X.env := by rfl) : jE (X.suite a ((a, oe) :: pn)) G (.Attribute o "at" pos) ρ M (.d d) M1 := fun S H σ st Q q =>
  PE.go (pe_xf T no hz hf peS hb) (ho S H σ st _ fun v S1 H1 e1 st1 r1 => by
    obtain ⟨rfl, w, e2, r2⟩ := r1
    exact ⟨rfl, rfl, dd, [("at", w)], w, rfl, st1.hst.sub dd _ e2, by simp [List.lookup], q w S1 H1 e1 st1 r2⟩)
end
end NL
set_option Elab.async false
set_option linter.all false
set_option maxRecDepth 100000
set_option maxHeartbeats 4000000
namespace NL
open PySem PySem.Spec L2
open PyProof.Rows hiding St
open LamX (lamEnv lamCx LamS CodeO lam_start2 TabB Tabs TabS ExtN lam_make2)
end NL
set_option Elab.async false
set_option linter.all false
set_option maxRecDepth 100000
set_option maxHeartbeats 4000000
namespace NL
open PySem PySem.Spec L2
open PyProof.Rows hiding St
open LamX (lamEnv lamCx LamS CodeO lam_start2 TabB TabS inv_table among_app codeO_ne)
end NL
set_option Elab.async false
set_option linter.all false
set_option maxRecDepth 100000
set_option maxHeartbeats 4000000
namespace NL
open PySem PySem.Spec L2
open PyProof.Rows hiding St
open LamX (lamEnv lamCx LamS CodeO lam_start2 TabB TabS)
end NL
set_option Elab.async false
set_option linter.all false
set_option maxRecDepth 100000
set_option maxHeartbeats 1000000
namespace NL
open PySem PySem.Spec L2
open PyProof.Rows hiding St
def lexLe : List Int → List Int → Bool
  | [], _ => true
  | _ :: _, [] => false
  | x :: xs, y :: ys => decide (x < y) || (decide (x = y) && lexLe xs ys)
def Srt (xs : List (List Int)) : Prop := xs.Pairwise fun a b => lexLe a b = true
theorem Srt.sub {xs ys : List (List Int)} (h : Srt xs) (s : ys.Sublist xs) : Srt ys := h.sublist s
end NL
set_option Elab.async false
set_option linter.all false
set_option maxRecDepth 100000
set_option maxHeartbeats 4000000
namespace NL
open PySem PySem.Spec L2
open PyProof.Rows hiding St
def oexB (K : PySem.W.Frag) (C : Addr) : Bool := match K.lookup C with
  | some ⟨.type t, _, .cls cd, sl⟩ => (match cd.mro, sl.toList with
    | .ref C' :: bm, [_, _, _, _, some (.builtin n), _] => decide (t = "type") && (decide (C' = C) && (decide (n = "ValueError.__new__") && (!cd.hasDel && (cd.hasDict && PySem.HandSPX.refsVE bm))))
    | _, _ => false)
  | _ => false
theorem oexB_ok {K : PySem.W.Frag} {C : Addr} (h : oexB K C = true) : ∃ nm q N bs bm sn sub ab col dd k0 k1 k2 k3 k5, K.lookup C = some (excClassObj nm q C N bs bm true sn sub ab col dd k0 k1 k2 k3 k5 "ValueError.__new__") ∧ PySem.HandSPX.refsVE bm = true := by
  unfold oexB at h
  split at h
  · rename_i t dd cd sl ho
    split at h
    · rename_i C' bm k0 k1 k2 k3 n k5 hm hs
      simp only [Bool.and_eq_true, decide_eq_true_eq, Bool.not_eq_true'] at h
      obtain ⟨e1, e2, e3, e4, e5, e6⟩ := h
      obtain ⟨nm, bs, mro, ns, qn, hd, sn, sub, ab, col, del⟩ := cd
      dsimp only at hm e4 e5
      subst e1 e2 e3 e4 e5 hm
      have es : sl = #[k0, k1, k2, k3, some (.builtin "ValueError.__new__"), k5] := by
        obtain ⟨l⟩ := sl
        dsimp only at hs
        rw [hs]
      subst es
      exact ⟨nm, qn, ns, bs, bm, sn, sub, ab, col, dd, k0, k1, k2, k3, k5, ho, e6⟩
    · cases h
  · cases h
/-- what isinstance asks of the class of an error that has a dict -/
structure IsX (K : PySem.W.Frag) (C : Addr) : Prop where
  cl : (PySem.W.clsIn K C).isSome = true
  cc : PySem.W.findIn K (.ref C) "__class__" = some (some (.builtin "object.__class__"))
  ge : PySem.W.specialIn K (.builtin "object.__class__") "__get__" = some (some (.builtin "getset_descriptor.__get__"))
  tk : PySem.W.takesIn K (.builtin "object.__class__") = some true
  mr : PySem.W.mroIn K C (.type "object") = some true
def isxB (K : PySem.W.Frag) (C : Addr) : Bool := (PySem.W.clsIn K C).isSome && (decide (PySem.W.findIn K (.ref C) "__class__" = some (some (.builtin "object.__class__"))) && (decide (PySem.W.specialIn K (.builtin "object.__class__") "__get__" = some (some (.builtin "getset_descriptor.__get__"))) &&
  (decide (PySem.W.takesIn K (.builtin "object.__class__") = some true) && decide (PySem.W.mroIn K C (.type "object") = some true))))
theorem isxB_ok {K : PySem.W.Frag} {C : Addr} (h : isxB K C = true) : IsX K C := by
  unfold isxB at h
  simp only [Bool.and_eq_true, decide_eq_true_eq] at h
  obtain ⟨a, b, c, d, e⟩ := h
  exact ⟨a, b, c, d, e⟩
def iniB (K : PySem.W.Frag) (C f : Addr) : Bool := decide (PySem.W.findIn K (.ref C) "__setattr__" = some (some (.builtin "object.__setattr__"))) && (decide (PySem.W.subIn K (.ref C) (.type "BaseException") = some true) && (decide (PySem.W.typeIn K (.ref C) = some (.type "type")) && (PySem.W.keepIn K (.ref C) &&
  (decide (PySem.W.findIn K (.ref C) "__init__" = some (some (.ref f))) && (decide (PySem.W.typeIn K (.ref f) = some (.type "function")) && decide (PySem.W.findIn K (.ref C) "at" = some none))))))
/-- the class named x, whole -/
def excB (K : PySem.W.Frag) (x : Str) : Bool := oexB K (He.ga K x) && (xfB K (He.ga K x) && (isxB K (He.ga K x) && iniB K (He.ga K x) (He.ma K (He.ga K x) "__init__")))
theorem Fun.ofD {K : PySem.W.Frag} {x qual : Str} {st : Stmt} {f : Addr} {fd : FuncData} (F : FunD K x qual (defArgs st) (defBody st) (defScope st) [] [] f fd) : Fun K x qual st f fd := by
  obtain ⟨oc, od, dV, kV, doc, pm, an, cdv, ct, osl, rfl, lk, hcd, hD, _⟩ := F.ex
  rcases hD with ⟨_, rfl⟩ | ⟨z, _⟩
  · exact ⟨⟨oc, od, kV, doc, pm, an, cdv, ct, osl, rfl, lk, hcd⟩, F.kp⟩
  · exact absurd rfl z
/-- the class and what is asked of its errors -/
structure ExcK (K : PySem.W.Frag) (mg : Str → Option Value) (x qual : Str) (st : Stmt) extends ExcD K mg x qual st where
  is : IsX K C
abbrev dInit (x qual : Str) (st : Stmt) : He.DefD := ⟨(x, some "__init__"), "__init__", qual, defArgs st, defBody st, defScope st, [], []⟩
def rIsX (K : PySem.W.Frag) (C a dd : Addr) : List V → Hp → VK → Prop := fun xs H Q => ∃ (c : V) (cv : Value) (b : Bool) (fs : List (Str × V)), xs = [.ref a, c] ∧ H dd = some (.xd fs) ∧ (∀ u, RelV c u → u = cv) ∧ PySem.W.kitOne K (.ref C) cv = some b ∧ Q (.bl b) H
section
variable {X : Cx} {G : Gh} {ρ : List SV} {M M1 : MM} {P : Post} {e : Expr} {es : List Expr} {pos p np pos' : Pos} {ds : List SV} {d : SV} {Φ Ψ : SV → MM → Prop}
theorem c_isX {a dd C : Addr} {cv : Value} {b : Bool} {dv : D} (h : PySem.W.kitOne X.K (.ref C) cv = some b) {c : V} (hc : ∀ u, RelV c u → u = cv) : jC X G (rIsX X.K C a dd) M [.x a dd dv, .v c] (.d (.bool b)) M := fun S H σ ρ us st r Q q => by
  obtain ⟨v, r2, rfl, ⟨rfl, w, e2, _⟩, v2, r3, rfl, rv, re⟩ := r
  obtain rfl : r3 = [] := re
  obtain rfl : v2 = c := rv
  exact ⟨v2, cv, b, _, rfl, st.hst.sub dd _ e2, hc, h, q (.bl b) S H (Sub.rfl' S) st rfl⟩
theorem s_dropN (he : nE X G e ρ M Φ) (k : ∀ d M', Φ d M' → P.nx ρ M') (hs : swapsWith e none pos.line X.env = pure false := by rfl) : jS X G (.Expr e pos) ρ M P := fun S H σ s D f =>
  PS.go (ps_expr peS hs) (he S H σ s _ fun d M' v S1 H1 z e1 s1 r1 => f.nx S1 H1 _ _ M' s1 (k d M' z))
end
end NL
set_option Elab.async false
set_option linter.all false
set_option maxRecDepth 100000
set_option maxHeartbeats 4000000
namespace NL
open PySem PySem.Spec L2
open PyProof.Rows hiding St
open LamX (TabB TabS CodeO)
end NL
set_option Elab.async false
set_option linter.all false
set_option maxRecDepth 100000
set_option maxHeartbeats 4000000
namespace NL
open PySem PySem.Spec L2
open PyProof.Rows hiding St
abbrev FnP (K : PySem.W.Frag) (x qual : Str) (st : Stmt) (f : Addr) (fd : FuncData) : Prop := FunD K x qual (defArgs st) (defBody st) (defScope st) [] [] f fd
theorem FunX.ofD {K : PySem.W.Frag} {x qual : Str} {st : Stmt} {dvs : List V} {kws : List (Str × V)} {f : Addr} {fd : FuncData} (F : FunD K x qual (defArgs st) (defBody st) (defScope st) dvs kws f fd) : FunX K x qual st f fd := by
  obtain ⟨oc, od, dV, kV, doc, pm, an, cdv, ct, osl, rfl, lk, hcd, _, _⟩ := F.ex
  exact ⟨⟨oc, od, dV, kV, doc, pm, an, cdv, ct, osl, rfl, lk, hcd⟩, F.kp⟩
abbrev dPlain (x : Str) (st : Stmt) : He.DefD := ⟨(x, none), x, x, defArgs st, defBody st, defScope st, [], []⟩
section
variable {K : PySem.W.Frag} {mg : Str → Option Value} {h : Heap} {fa : List He.Fa} {fn : List He.DefD}
theorem def_of {x : Str} {st : Stmt} {ps : List Str} (X : K.In h) (G : h.Ns mainGlobals mg) (c : He.SaysD fa fn K) (i j : Nat) (h1 : fn[i]? = some (dPlain x st)) (h2 : fa[j]? = some (.glo x))
    (hb : ∀ (kV doc pm : Value) (an : Option Addr) (cdv ct : Value) (us : List Value), us.length = ps.length → bindArgs (PySem.W.fnOf x x (defArgs st) (defBody st) (defScope st) .none kV doc pm an cdv ct) ⟨us, []⟩ = pure (ps.zip us)) : ∃ T : Def K mg x st ps, FnP K x x st T.f T.fd ∧ T.f = He.fAd K (x, none) := by
  obtain ⟨fd, F⟩ := c.def_ i h1
  exact ⟨⟨_, fd, FunX.ofD F, F.bindsN hb, He.glo_ok X G (c.fact j h2)⟩, F, rfl⟩
/-- the error's class by its name -/
theorem excK_at {x qual : Str} {st : Stmt} (X : K.In h) (G : h.Ns mainGlobals mg) (c : He.SaysD fa fn K) (i j : Nat) (h1 : fn[i]? = some (dInit x qual st)) (h2 : fa[j]? = some (.glo x)) (hx : excB K x = true)
    (hb : ∀ (kV doc pm : Value) (an : Option Addr) (cdv ct : Value) (us : List Value), us.length = 2 → bindArgs (PySem.W.fnOf "__init__" qual (defArgs st) (defBody st) (defScope st) .none kV doc pm an cdv ct) ⟨us, []⟩ = pure ((["self", "at"] : List Str).zip us)) : ∃ X : ExcK K mg x qual st, X.C = He.ga K x := by
  obtain ⟨fd, F⟩ := c.def_ i h1
  unfold excB iniB at hx
  simp only [Bool.and_eq_true, decide_eq_true_eq] at hx
  obtain ⟨e1, e2, e3, e4, e5, e6, e7, e8, e9, e10⟩ := hx
  exact ⟨⟨⟨_, _, fd, Fun.ofD F, F.bindsN hb, He.glo_ok X G (c.fact j h2), ⟨oexB_ok e1, e4, e5, e6, e7⟩, xfB_ok e2, e8, e9, e10⟩, isxB_ok e3⟩, rfl⟩
/-- the law's def: how it binds, its code object -/
theorem law_facts {st : Stmt} {x : Str} {f : Addr} {fd : FuncData} (F : FnP K "law" "law" st f fd) (hf : f = He.fAd K ("law", none)) (hb : ∀ (kV doc pm : Value) (an : Option Addr) (cdv ct v : Value), bindArgs (PySem.W.fnOf "law" "law" (defArgs st) (defBody st) (defScope st) .none kV doc pm an cdv ct) ⟨[v], []⟩ = pure [(x, v)]) :
    (∀ (s : Shared) (v : Value), BindsTo s fd ⟨[v], []⟩ [(x, v)]) ∧ fd.code = .ref (He.cT K ("law", none)).1 := by
  obtain ⟨oc, od, dV, kV, doc, pm, an, cdv, ct, osl, rfl, lk, hcd, hD, hK⟩ := F.ex
  rcases hD with ⟨_, rfl⟩ | ⟨e, _⟩
  · refine ⟨fun s v => .of_eq (hb kV doc pm an cdv ct v), ?_⟩
    obtain ⟨c, rfl⟩ := He.codeIn_ref hcd
    rw [hf] at lk
    have := He.codeOf_eq lk rfl
    show Value.ref c = .ref (He.codeOf K ("law", none))
    rw [this]
  · exact absurd rfl e
end
end NL
set_option Elab.async false
set_option linter.all false
set_option maxRecDepth 100000
set_option maxHeartbeats 4000000
namespace NL
open PySem PySem.Spec L2
open PyProof.Rows hiding St
/-- the law's walk, the written part found by facts -/
theorem walk_lawE {l : PySem.W.OpenLaw} {n k : Nat} {q : Program} {loose : List Str} {XP : (Str → Option Value) → Heap → Prop} {YP : World → Heap → Prop} {d : DefRec} {x : Str} (hn : l.most = some n) (hz : n ≤ sizeLine) (hd : d.params.defaults = []) (rm : Room k callerA)
    (F : ∀ (w : World) (mg : Str → Option Value) (fa : Addr) (h : Heap), YP w h → h.Ns mainGlobals mg → mg d.name = some (.ref fa) →
      ∃ (K : PySem.W.Frag) (fd : FuncData) (sp : Sp), K.In h ∧ (∀ (s : Shared) (u : Value), BindsTo s fd ⟨[u], []⟩ [(x, u)]) ∧
        (∀ (H : Hp) (a : Addr) (ns : List Int), ns.length ≤ n → Only H → SqL K H a (ns.map V.int) → sp [.ref a] H (fun v _ => v = .bl true) E0) ∧
        ∀ base : Heap, K.In base → base.Ns mainGlobals mg → FnG l.prog w K mg base CX0 k fa fd [x] sp) :
    PySem.W.WalkO q loose XP YP l.row.toRowW d [] (fun f vs => PySem.call f vs) := by
  refine Att.attach_call hn hd fun w s0 s1 mg mb fa o pm cd doc a vs ns G Y h1 h2 h3 h4 hobj hints hlen hg => ?_
  obtain ⟨K, fd, sp, inK, bd, hsp, hF⟩ := F w mg fa _ Y G.T.g h4
  exact law_enter inK G.T.g G.T.b G.T.builtins G.T.nolimit hg hobj hints (Nat.le_trans hlen hz) rm hF bd fun H hO hS => hsp H a ns hlen hO hS
end NL
set_option Elab.async false
set_option linter.all false
set_option maxRecDepth 100000
set_option maxHeartbeats 4000000
namespace NL
open PySem PySem.Spec L2
open PyProof.Rows hiding St
end NL
set_option Elab.async false
set_option linter.all false
set_option maxRecDepth 100000
set_option maxHeartbeats 4000000
namespace K00
open PySem PySem.Spec L2 NL
open PyProof.Rows hiding St
def topS (i : Nat) : Stmt := PySem.Challenge.pw_noneleft_k00_errors_and_what_they_keep.main.body.getD i (.Pass ⟨0, 0, 0, 0⟩)
abbrev s_marks : Stmt := topS 12
abbrev N_marks : List Str := ["_law_e", "_law_found"]
abbrev A_marks : List Str := ["_law_e"]
theorem sc_marks : FnScope N_marks A_marks (defScope s_marks) := ⟨rfl, rfl, rfl, by decide +kernel, rfl, by decide +kernel, by decide +kernel⟩
abbrev s_raise : Stmt := topS 13
abbrev N_raise : List Str := ["_law_at", "_law_thing"]
abbrev A_raise : List Str := ["_law_at", "_law_thing"]
theorem sc_raise : FnScope N_raise A_raise (defScope s_raise) := ⟨rfl, rfl, rfl, by decide +kernel, rfl, by decide +kernel, by decide +kernel⟩
abbrev s_heard : Stmt := topS 14
abbrev N_heard : List Str := ["_law_at", "_law_thing", "_law_e", "_law_spot"]
abbrev A_heard : List Str := ["_law_at", "_law_thing"]
theorem sc_heard : FnScope N_heard A_heard (defScope s_heard) := ⟨rfl, rfl, rfl, by decide +kernel, rfl, by decide +kernel, by decide +kernel⟩
abbrev s_named : Stmt := topS 15
abbrev N_named : List Str := ["_law_thing", "_law_made", "_law_one"]
abbrev A_named : List Str := ["_law_thing"]
theorem sc_named : FnScope N_named A_named (defScope s_named) := ⟨rfl, rfl, rfl, by decide +kernel, rfl, by decide +kernel, by decide +kernel⟩
abbrev s_law : Stmt := topS 16
abbrev N_law : List Str := ["_law_script", "_law_k", "_law_cell", "_law_things", "_law_thing", "_law_at"]
abbrev A_law : List Str := ["_law_script"]
theorem sc_law : FnScope N_law A_law (defScope s_law) := ⟨rfl, rfl, rfl, by decide +kernel, rfl, by decide +kernel, by decide +kernel⟩
structure Txt (K : PySem.W.Frag) (mg : Str → Option Value) where
  marks : Def K mg "_law_marks" s_marks A_marks
  raise : Def K mg "_law_raise" s_raise A_raise
  heard : Def K mg "_law_heard" s_heard A_heard
  named : Def K mg "_law_named" s_named A_named
  law : Def K mg "law" s_law A_law
  z_ValueError : mg "ValueError" = none
  z_int : mg "int" = none
  z_isinstance : mg "isinstance" = none
  z_len : mg "len" = none
  z_max : mg "max" = none
  z_min : mg "min" = none
  z_range : mg "range" = none
  z_repr : mg "repr" = none
  z_str : mg "str" = none
end K00
set_option Elab.async false
set_option linter.all false
set_option maxRecDepth 100000
set_option maxHeartbeats 4000000
namespace NL
open PySem PySem.Spec L2 HotX L2H
open PyProof.Rows hiding St
/-- the handled error is among what is pinned -/
def HotP (X : Cx) (pins : List (Addr × Obj)) : Prop := ∃ p, L2H.Hot1 X.A p ∧ p ∈ X.pn ++ pins
theorem HotP.at {X : Cx} {pins : List (Addr × Obj)} {σ : L2.St} {H : Hp} {s : Shared} (c : HotP X pins) (I : Inv X pins σ H s) : ∃ x1, HotAt X.A x1 s.heap := by
  obtain ⟨p, ⟨hh, v1, e1, c1⟩, hp⟩ := c
  exact ⟨p.1, hh, p.2, v1, (I.pin p hp).1, e1, c1⟩
abbrev tnR (it : Addr) (lo : Int) (n : Nat) : Nat → Heap → Prop := fun i h => IsRangeIter h it (lo + (i : Nat) * 1) ((n : Int) - (i : Nat)) 1
theorem rg_item {X : Cx} {tg : Expr} {it : Addr} {lo : Int} {n i : Nat} {pins : List (Addr × Obj)} {s : Shared} {σ : L2.St} {H : Hp} {E : Value → Shared → Prop} (I : Inv X pins σ H s) (hf : FpOk X pins H it) (st : tnR it lo n i s.heap) (hlt : i < n) :
    wpAny (model X.prog X.w) X.A (pyNext (.ref it)) (fun r s1 => ∃ u, r = some u ∧
      wpAny (model X.prog X.w) X.A (letOwnedTupleGo tg (.ref it) u) (fun _ s2 => Inv X pins σ H s2 ∧ RelV (.int (lo + (i : Nat))) u ∧ tnR it lo n (i + 1) s2.heap) E s1) E s := by
  obtain ⟨f0, f1, f2, f3, f4, f5⟩ := hf
  refine wpAny_pyNext_range_item st (by omega) fun h' st' sb => ?_
  have st2 : IsRangeIter h' it (lo + ((i + 1 : Nat) : Int) * 1) ((n : Int) - ((i + 1 : Nat) : Int)) 1 := by
    have e1 : lo + ((i : Nat) : Int) * 1 + 1 = lo + ((i + 1 : Nat) : Int) * 1 := by omega
    have e2 : (n : Int) - ((i : Nat) : Int) - 1 = (n : Int) - ((i + 1 : Nat) : Int) := by omega
    rw [← e1, ← e2]
    exact st'
  have I1 : Inv X pins σ H { s with heap := h', toks := s.toks + 1 } := I.turned (fun b o hb e => (sb.2 b hb).trans e) f0 f1 f3 f4 f5
  refine ⟨_, rfl, go_of (s := { s with heap := h', toks := s.toks + 1 }) (n := "range_iterator") st2 rfl rfl (by decide) ⟨I1, ⟨s.toks, ?_⟩, st2⟩⟩
  rw [Int.mul_one]
theorem rg_done {X : Cx} {it : Addr} {lo : Int} {n i : Nat} {pins : List (Addr × Obj)} {s : Shared} {σ : L2.St} {H : Hp} {E : Value → Shared → Prop} (hc : HotP X pins) (I : Inv X pins σ H s) (hf : FpOk X pins H it) (st : tnR it lo n i s.heap) (hle : n ≤ i) :
    wpAny (model X.prog X.w) X.A (pyNext (.ref it)) (fun r s1 => r = none ∧ Inv X pins σ H s1) E s := by
  obtain ⟨f0, f1, f2, f3, f4, f5⟩ := hf
  obtain ⟨x1, hot⟩ := hc.at I
  exact pyNext_range_end_hot hot st (by omega) fun h' eb => ⟨rfl, I.turned (t' := s.toks) (fun b o _ e => eb b o e) f0 f1 f3 f4 f5⟩
theorem rg_keep {it : Addr} {lo : Int} {n i : Nat} {h h' : Heap} (st : tnR it lo n i h) (k : ∀ o, h.get? it = some o → h'.get? it = some o) : tnR it lo n i h' := k _ st
theorem rg_obj {it : Addr} {lo : Int} {n i : Nat} {h : Heap} (st : tnR it lo n i h) : ∀ b ∈ [it], ∃ o, h.get? b = some o ∧ ∀ v, o.data ≠ .cell v := fun b hb => by
  have e : b = it := by simpa using hb
  subst e
  exact ⟨_, st, fun v z => by
    have z' : Data.fields _ = Data.cell v := z
    cases z'⟩
/-- what range(n) leaves, as a value to be walked -/
def PIR (X : Cx) (pins : List (Addr × Obj)) (σ : L2.St) (n : Nat) (R : Hp → Prop) (itv : Value) (s2 : Shared) : Prop :=
  ∃ (it : Addr) (H' : Hp), itv = .ref it ∧ Inv X pins σ H' s2 ∧ tnR it 0 n 0 s2.heap ∧ FpOk X pins H' it ∧ R H'
theorem rg_start {X : Cx} {pins : List (Addr × Obj)} {σ : L2.St} {H : Hp} {s : Shared} {R : Hp → Prop} {E : Value → Shared → Prop} {n : Nat} {t u v : Tok} {tk : Nat} (I : Inv X pins σ H s) (h4 : (n : Int) < 2 ^ 62)
    (q : R H) : wpAny (model X.prog X.w) X.A (pyIter (.ref s.heap.objs.size)) (PIR X pins σ n R) E { s with heap := s.heap.push { cls := .type "range", data := .fields #[.int 0 t, .int n u, .int 1 v] }, toks := tk } := by
  refine wpAny_pyIter_range (IsRange.new ..) (small_one (by decide) (by decide) (by omega) h4) ?_
  have I1 : Inv X pins σ H { s with heap := s.heap.push { cls := .type "range", data := .fields #[.int 0 t, .int n u, .int 1 v] }, toks := tk } := I.kept fun b o e => Heap.get?_push_of_some _ e
  refine ⟨(s.heap.push { cls := .type "range", data := .fields #[.int 0 t, .int n u, .int 1 v] }).objs.size, H, rfl,
    I1.kept (t' := tk) fun b o e => Heap.get?_push_of_some _ e, ?_, I1.fpOk (Nat.le_refl _) (I1.hok.fresh (Nat.le_refl _)), q⟩
  have e1 : (0 : Int) + ((0 : Nat) : Int) * 1 = 0 := by simp
  have e2 : (n : Int) - ((0 : Nat) : Int) = Builtin.Range.rangeSize 0 n 1 := by rw [rangeSize_one]; split <;> omega
  show IsRangeIter _ _ ((0 : Int) + ((0 : Nat) : Int) * 1) ((n : Int) - ((0 : Nat) : Int)) 1
  rw [e1, e2]
  exact Heap.get?_push_size _ rfl
section
variable {X : Cx}
theorem lc_hot {pins : List (Addr × Obj)} {s : Shared} {σ : L2.St} {H : Hp} {Q : VK} {elt tg a : Expr} {ifs : List Expr} {scope : Scope} {own : List (Str × Nat)} {pos pos' rp rpos : Pos} {ta : TA} {g : TG} {tt : TT} {te : TE} {use : Option (Value → Sem Unit)} {Qf : Value → Shared → Prop} {n : Nat}
    (hot : HotC X) (hN : X.N.Nodup) (I : Inv X pins σ H s) (hgl : Gl X "range") (hm : X.mg "range" = none) (ha : PA X [a] ta) (hst : starEach [a] X.env = [(false, eval a X.env)]) (ok : BlkOk X.N X.env.scope scope own)
    (hg : ∀ (s : Shared) (H : Hp) (C : Addr) (cl : List (Str × Addr)) (fp : List Addr), PG (X.blk s H scope (compEnvC scope cl C X.env) fp) tg g) (ht : ∀ (s : Shared) (H : Hp) (C : Addr) (cl : List (Str × Addr)) (fp : List Addr), PTs (X.blk s H scope (compEnvC scope cl C X.env) fp) ifs tt)
    (he : ∀ (s : Shared) (H : Hp) (C : Addr) (cl : List (Str × Addr)) (fp : List Addr), PE (X.blk s H scope (compEnvC scope cl C X.env) fp) elt te) (hs : ∀ x, foldedSetIterable (.Call (.Name "range" rp) [a] [] rpos) X.env x = pure x)
    (hn62 : (n : Int) < 2 ^ 62)
    (h : tLc (fun σ H R => ta σ H fun vs H1 => vs = [.int n] ∧ R (Itr 0 n) H1) g tt te (own.map (·.2)) σ H Q)
    (hRR : ∀ D C s' m H', Inv X pins σ H' s' → Q (.ref D) H' → s'.heap.Ns C m → FpOk X pins H' C → compPost (model X.prog X.w) X.A X.xe use Qf (.ref D) C (.ok .next) s') :
    wpAny (model X.prog X.w) X.A (comprehension (.ListComp elt [⟨tg, .Call (.Name "range" rp) [a] [] rpos, ifs, 0⟩] scope pos) scope X.env pos' (newList []) false (eval (.Call (.Name "range" rp) [a] [] rpos) X.env) use) Qf X.xe s := by
  have hfree : ∀ y ∈ scope.names, y.2 = .free → ∃ c, X.env.cells.lookup y.1 = some c := fun y hy e => by
    rcases ok.free y hy e with k | k
    · exact I.ok.has _ (.inl k)
    · exact I.ok.has _ (.inr k)
  have walk : wpAny (model X.prog X.w) X.A (eval (.Call (.Name "range" rp) [a] [] rpos) X.env) (fun v s1 => wpAny (model X.prog X.w) X.A (pyIter v) (PIR X pins σ n fun H1 => ∀ D, H1 D = none → ∃ W : Nat → Nat → Hp → Prop, (∃ m, W 0 m (upd H1 D (.lst []))) ∧ ∀ i m H, W i m H →
      ((Itr 0 n).stop i H ∧ Q (.ref D) H) ∨ ((Itr 0 n).go i H ∧ ∃ Nx : Hp → Prop, (∀ H', Nx H' → ∃ m', m' < m ∧ W (i + 1) m' H') ∧ ∀ x H', (Itr 0 n).yld i H x H' → g x (wipe σ (own.map (·.2))) H' fun σ2 H2 => wipe σ2 (own.map (·.2)) = wipe σ (own.map (·.2)) ∧ tt σ2 H2 fun b H3 =>
        if b = true then te σ2 H3 fun y H4 => ∃ acc, H4 D = some (.lst acc) ∧ acc.length < sizeLine ∧ Nx (upd H4 D (.lst (acc ++ [y]))) else Nx H3)) X.xe s1) X.xe s := by
    refine Call_ (ld_blt I hgl hm boot_range (PyProof.Rows.callWith_type1 (thn (ha.run rpos pins s σ H _ I h) fun us s1 ⟨vs, H1, I1, r1, q1⟩ => ?_) hst rfl))
    obtain ⟨rfl, q⟩ := q1
    cases r1 with
    | cons r rr =>
      cases rr
      obtain ⟨t, rfl⟩ := r
      exact call_range_1 (rg_start I1 hn62 q)
  refine wpAny_comprehension_free (use := use) rfl hs (closure_ok hfree) ok.kind (fun y hy e => by rw [ok.uniq y hy, e])
    (thn walk fun xv s1 hx => thn hx fun itv s2 h2 => ?_)
  obtain ⟨it, H2, e, I2, st2, f2, q⟩ := h2
  subst e
  refine wpAny_newObj_type (newEnv_comp ?_) (by show 0 ≤ sizeLine; decide)
  generalize hD : s2.heap.objs.size = D
  have hDn : H2 D = none := I2.hok.fresh (Nat.le_of_eq hD)
  obtain ⟨W, ⟨m0, w0⟩, turn⟩ := q D hDn
  generalize hs3 : ({ s2 with heap := s2.heap.push { cls := .type "list", data := .seq ([] : List Value).toArray } } : Shared) = s3
  have I3 : Inv X pins σ (upd H2 D (.lst [])) s3 := by
    rw [← hs3]
    refine I2.laid (t' := s2.toks) (fun b o e => Heap.get?_push_of_some _ e) (Nat.le_of_eq hD) ⟨Nat.zero_le _, [], 0, .nil, ?_⟩
    rw [← hD]
    exact Heap.get?_push_size _ rfl
  have h3 : s3.heap = s2.heap.push { cls := .type "list", data := .seq ([] : List Value).toArray } := by rw [← hs3]
  have hit : it < s2.heap.objs.size := Heap.lt_size (show s2.heap.get? it = some _ from st2)
  have f3 : FpOk X pins (upd H2 D (.lst [])) it ∧ it < s3.heap.objs.size := by
    refine ⟨⟨?_, f2.2⟩, by rw [h3, Heap.size_push]; exact Nat.lt_succ_of_lt hit⟩
    rw [upd_ne (by rw [← hD]; exact Nat.ne_of_lt hit)]
    exact f2.1
  have f3' : ∀ b ∈ [it], FpOk X pins (upd H2 D (.lst [])) b ∧ b < s3.heap.objs.size := fun b hb => by
    have e : b = it := by simpa using hb
    rw [e]; exact f3
  have st3 : tnR it 0 n 0 s3.heap := rg_keep st2 fun o e => by rw [h3]; exact Heap.get?_push_of_some _ e
  have I4 := block_start I3 ok hN f3'
  obtain ⟨p, hp1, hpm⟩ := hot
  have P3 := I3.pin p (List.mem_append_left _ hpm)
  have nfr : p.1 ∉ frs X.stack := fun hm => (List.mem_cons.mp (I3.stkSub p.1 hm)).elim P3.2.2.1 P3.2.2.2.1
  have pit : p.1 ≠ it := f3.1.2.2.2.2.2 p (List.mem_append_left _ hpm)
  have pg := hg s3 (upd H2 D (.lst [])) s3.heap.objs.size (cellsFrom (s3.heap.objs.size + 1) scope.names (cloFrom X.env.cells scope.names [])) [it]
  have pt := ht s3 (upd H2 D (.lst [])) s3.heap.objs.size (cellsFrom (s3.heap.objs.size + 1) scope.names (cloFrom X.env.cells scope.names [])) [it]
  have pe := he s3 (upd H2 D (.lst [])) s3.heap.objs.size (cellsFrom (s3.heap.objs.size + 1) scope.names (cloFrom X.env.cells scope.names [])) [it]
  show codeAny _ _ (.compStart (.ListComp elt [⟨tg, .Call (.Name "range" rp) [a] [] rpos, ifs, 0⟩] scope pos) 0 (.ref it) (.ref D) (compEnvC scope (cellsFrom (s3.heap.objs.size + 1) scope.names (cloFrom X.env.cells scope.names [])) s3.heap.objs.size X.env)) (compPost (model X.prog X.w) X.A X.xe use Qf (.ref D) s3.heap.objs.size) { s3 with heap := pushCells (s3.heap.push { cls := .type "dict", data := .dict #[] }) scope.names }
  generalize hce : compEnvC scope (cellsFrom (s3.heap.objs.size + 1) scope.names (cloFrom X.env.cells scope.names [])) s3.heap.objs.size X.env = ce at I4 pg pt pe ⊢
  have cL : ce.locals = s3.heap.objs.size := by subst hce; rfl
  generalize hH3 : upd H2 D (.lst []) = H3 at I3 I4 pg pt pe w0 f3 f3' P3
  generalize hs4 : ({ s3 with heap := pushCells (s3.heap.push { cls := .type "dict", data := .dict #[] }) scope.names } : Shared) = s4 at I4 ⊢
  have kp4 : ∀ b o, s3.heap.get? b = some o → s4.heap.get? b = some o := fun b o e => by rw [← hs4]; exact pushCells_keeps _ _ _ _ (Heap.get?_push_of_some _ e)
  have st4 : tnR it 0 n 0 s4.heap := rg_keep st3 fun o e => kp4 _ o e
  have I4p : Inv (X.blk s3 H3 scope ce [it]) [p] (wipe σ (own.map (·.2))) H3 s4 := I4.pins_of fun q hq => by
    have e : q = p := by simpa using hq
    rw [e]
    refine ⟨kp4 _ _ P3.1, P3.2.1, ?_, nfr, P3.2.2.2.2⟩
    show p.1 ≠ ce.locals
    rw [cL]
    exact Nat.ne_of_lt (Heap.lt_size P3.1)
  have hotB : HotP (X.blk s3 H3 scope ce [it]) [p] := ⟨p, ⟨hp1.1, hp1.2⟩, List.mem_append_right _ List.mem_cons_self⟩
  have stat : ∀ {σ' : L2.St} {H' : Hp} {s' : Shared}, Inv (X.blk s3 H3 scope ce [it]) [p] σ' H' s' → H' it = none → FpOk (X.blk s3 H3 scope ce [it]) [p] H' it := fun {σ' H' s'} I' hn =>
    ⟨hn, (I'.ok.exf it List.mem_cons_self).1, I'.ok.exfs it List.mem_cons_self, .inl List.mem_cons_self, fun x c e => (I'.ok.exf it List.mem_cons_self).2 x c e, fun q hq => by
      have e : q = p := by simpa using (show q ∈ ([] : List (Addr × Obj)) ++ [p] from hq)
      rw [e]; exact pit⟩
  have loop : codeAny (model X.prog X.w) X.A (.compLoop (.ListComp elt [⟨tg, .Call (.Name "range" rp) [a] [] rpos, ifs, 0⟩] scope pos) 0 (.ref it) (.ref D) ce) (compPost (model X.prog X.w) X.A X.xe use Qf (.ref D) s3.heap.objs.size) s4 := by
    refine compLoop_any (fun m s' => ∃ i H', Inv (X.blk s3 H3 scope ce [it]) [p] (wipe σ (own.map (·.2))) H' s' ∧ tnR it 0 n i s'.heap ∧ H' it = none ∧ W i m H') ?_ m0 ⟨0, H3, I4p, st4, f3.1.1, w0⟩
    rintro m s5 ⟨i, H5, I5, st5, n5, w5⟩
    rcases turn i m H5 w5 with ⟨stop, qq⟩ | ⟨go, Nx, hNx, step⟩
    · have td := rg_done (E := fun _ _ => False) hotB I5 (stat I5 n5) st5 stop
      refine thnF td fun r s6 ⟨hr, I6⟩ => ?_
      subst hr
      have I7 : Inv X pins σ H5 s6 := I3.call' (ch := [it]) I6.os I6.base I6.hok I6.bare fun b hb => ⟨(f3' b hb).1.2.2.2.1, (f3' b hb).1.2.1, (f3' b hb).1.2.2.2.2.1, (f3' b hb).1.2.2.2.2.2⟩
      have nC : H5 s3.heap.objs.size = none := by
        have z : H5 ce.locals = none := I6.free
        rw [cL] at z
        exact z
      obtain ⟨m, hn, _⟩ := I6.loc
      have hn : s6.heap.Ns ce.locals m := hn
      rw [cL] at hn
      exact hRR D s3.heap.objs.size s6 m H5 I7 qq hn (I3.fpOk (Nat.le_refl _) nC)
    · have ti := rg_item (tg := tg) (E := fun _ _ => False) I5 (stat I5 n5) st5 go
      refine thnF ti fun r s6 ⟨u, hr, h6⟩ => ?_
      subst hr
      refine thnF h6 fun _ s7 ⟨I7, r7, st7⟩ => ?_
      have I7' := I7.pinned (fp := [it]) (fun b hb => by
        have e : b = it := by simpa using hb
        rw [e]; exact stat I7 n5) (rg_obj st7)
      refine thnF (pg.run _ s7 _ H5 _ u _ I7' r7 (step _ H5 ⟨rfl, rfl⟩)) fun _ s8 ⟨σ8, H8, I8, hw8, q8⟩ => ?_
      refine thnF (pt.run _ s8 σ8 H8 _ I8 q8) fun b s9 ⟨H9, I9, q9⟩ => ?_
      have fin : ∀ {s' : Shared} {H' : Hp}, Inv (X.blk s3 H3 scope ce [it]) ([p] ++ pinsAt [it] s7.heap) σ8 H' s' → Nx H' → ∃ m', m' < m ∧ ∃ i H', Inv (X.blk s3 H3 scope ce [it]) [p] (wipe σ (own.map (·.2))) H' s' ∧ tnR it 0 n i s'.heap ∧ H' it = none ∧ W i m' H' := fun {s' H'} I' nx => by
        obtain ⟨m', hm, w'⟩ := hNx H' nx
        have pin' : ∀ o, s7.heap.get? it = some o → s'.heap.get? it = some o ∧ H' it = none := fun o e =>
          let z := I'.pin (it, o) (List.mem_append_right _ (List.mem_append_right _ (mem_pinsAt List.mem_cons_self e)))
          ⟨z.1, z.2.1⟩
        have hl : (wipe σ (own.map (·.2))).length = σ8.length := by rw [← hw8, wipe_length]
        refine ⟨m', hm, i + 1, H', (I'.unpinned (pins := [p])).weak hl (fun j v e => ?_), rg_keep st7 fun o e => (pin' o e).1, ?_, w'⟩
        · rw [← hw8] at e
          exact (wipe_some e).1
        · exact (pin' _ st7).2
      cases b with
      | false =>
        simp only [Bool.false_eq_true, if_false] at q9 ⊢
        exact fin I9 q9
      | true =>
        simp only [if_true] at q9 ⊢
        refine thnF (pe.run _ s9 σ8 H9 _ I9 q9) fun z s10 ⟨yv, H10, I10, r10, acc, hD10, hz10, nx⟩ => ?_
        exact app_ok (X := X.blk s3 H3 scope ce [it]) I10 hD10 hz10 r10 fun s11 I11 => fin I11 nx
  exact codeAny_compStart_list loop (wpAny_pyIter_rangeiter st4 loop)
/-- as a value -/
theorem pe_lcHot {elt tg a : Expr} {ifs : List Expr} {scope : Scope} {own : List (Str × Nat)} {pos rp rpos : Pos} {ta : TA} {g : TG} {tt : TT} {te : TE} {n : Nat} (hot : HotC X) (hN : X.N.Nodup) (hgl : Gl X "range") (hm : X.mg "range" = none) (ha : PA X [a] ta) (hst : starEach [a] X.env = [(false, eval a X.env)]) (ok : BlkOk X.N X.env.scope scope own)
    (hg : ∀ (s : Shared) (H : Hp) (C : Addr) (cl : List (Str × Addr)) (fp : List Addr), PG (X.blk s H scope (compEnvC scope cl C X.env) fp) tg g) (ht : ∀ (s : Shared) (H : Hp) (C : Addr) (cl : List (Str × Addr)) (fp : List Addr), PTs (X.blk s H scope (compEnvC scope cl C X.env) fp) ifs tt)
    (he : ∀ (s : Shared) (H : Hp) (C : Addr) (cl : List (Str × Addr)) (fp : List Addr), PE (X.blk s H scope (compEnvC scope cl C X.env) fp) elt te) (hn62 : (n : Int) < 2 ^ 62) (hs : ∀ x, foldedSetIterable (.Call (.Name "range" rp) [a] [] rpos) X.env x = pure x := by intro _; rfl) :
    PE X (.ListComp elt [⟨tg, .Call (.Name "range" rp) [a] [] rpos, ifs, 0⟩] scope pos) (tLc (fun σ H R => ta σ H fun vs H1 => vs = [.int n] ∧ R (Itr 0 n) H1) g tt te (own.map (·.2))) := by
  refine ⟨fun pins s σ H Q I h => ?_⟩
  rw [eval_ListComp]
  refine lc_hot hot hN I hgl hm ha hst ok hg ht he hs hn62 h fun D C s' m H' I' q hn f => ⟨m, hn, fun h'' sb => ?_⟩
  obtain ⟨f0, f1, f2, f3, f4, f5⟩ := f
  exact ⟨.ref D, H', I'.turned (t' := s'.toks) (fun b o hb e => (sb.2 b hb).trans e) f0 f1 f3 f4 f5, rfl, q⟩
end
end NL
set_option Elab.async false
set_option linter.all false
set_option maxRecDepth 100000
set_option maxHeartbeats 4000000
namespace NL
open PySem PySem.Spec L2
open PyProof.Rows hiding St
end NL
set_option Elab.async false
set_option linter.all false
set_option maxRecDepth 100000
set_option maxHeartbeats 4000000
namespace NL
open PySem PySem.Spec L2
open PyProof.Rows hiding St
end NL
set_option Elab.async false
set_option linter.all false
set_option maxRecDepth 100000
set_option maxHeartbeats 4000000
namespace NL
open PySem PySem.Spec L2
open PyProof.Rows hiding St
def nA (X : Cx) (G : Gh) (es : List Expr) (ρ : List SV) (M : MM) (Ψ : List SV → MM → Prop) : Prop := ∀ S H σ, Sta X.K G S H σ ρ M → ∀ Q : List V → Hp → Prop,
  (∀ ds M' vs S' H', Ψ ds M' → Sub S S' → Sta X.K G S' H' σ ρ M' → RelA X.K S' ds vs → Q vs H') → semA X es σ H Q
section
variable {X : Cx} {G : Gh} {ρ : List SV} {M M1 M2 M3 : MM} {z d : SV} {ds : List SV} {e a b c : Expr} {es : List Expr} {pos p p' : Pos} {Φ Ψ Ξ : SV → MM → Prop} {Γ Δ : List SV → MM → Prop} {P : Post} {k : Bool}
theorem nA.imp (h : nA X G es ρ M Γ) (k : ∀ ds M', Γ ds M' → Δ ds M') : nA X G es ρ M Δ := fun S H σ st Q q => h S H σ st Q fun ds M' vs S' H' f => q ds M' vs S' H' (k ds M' f)
theorem nE.never (h : nE X G e ρ M fun _ _ => False) : nE X G e ρ M Φ := h.imp fun _ _ z => z.elim
end
end NL
set_option Elab.async false
set_option linter.all false
set_option maxRecDepth 100000
set_option maxHeartbeats 4000000
namespace NL
open PySem PySem.Spec L2
open PyProof.Rows hiding St
section
variable {X : Cx} {G : Gh} {ρ : List SV} {M M1 M2 : MM} {d : SV} {ds zs : List SV} {e e2 : Expr} {kws : List Keyword} {pos p p' : Pos} {Φ Ψ : SV → MM → Prop} {P : Post}
def boolS (b : Bool) : Str := if b then "True" else "False"
def rReprA : List V → Hp → VK → Prop := fun vs H Q => (∃ b, vs = [.bl b] ∧ Q (.str (boolS b)) H) ∨ (∃ i : Int, vs = [.int i] ∧ i.natAbs.log2 < 1920 ∧ Q (.str (toString i)) H) ∨ (vs = [.non] ∧ Q (.str "None") H) ∨ ∃ x : Str, vs = [.str x] ∧ (reprText x).length ≤ sizeLine ∧ Q (.str (reprText x)) H
theorem cr_reprA : CallR X (.builtin "repr") rReprA := by
  intro pins s σ H vs us Q I r h
  have one : ∀ {v : V}, vs = [v] → ∃ u, us = [u] ∧ RelV v u := fun e => by
    subst e
    cases r with
    | cons h t =>
      cases t
      exact ⟨_, rfl, h⟩
  rcases h with ⟨b, e, q⟩ | ⟨i, e, hz, q⟩ | ⟨e, q⟩ | ⟨x, e, hz, q⟩
  · obtain ⟨u, rfl, ru⟩ := one e
    obtain rfl : u = .bool b := ru
    exact PySem.P.repr_of_bool ⟨.str _, H, I.tok _, ⟨_, by unfold boolS; cases b <;> rfl⟩, q⟩
  · obtain ⟨u, rfl, t, rfl⟩ := one e
    exact PySem.P.repr_of_int hz ⟨.str _, H, I.tok _, ⟨_, rfl⟩, q⟩
  · obtain ⟨u, rfl, ru⟩ := one e
    obtain rfl : u = .none := ru
    exact PySem.P.repr_of_none ⟨.str _, H, I.tok _, ⟨_, rfl⟩, q⟩
  · obtain ⟨u, rfl, t, rfl⟩ := one e
    exact PySem.P.repr_of_str ⟨.str _, H, I.tok _, ⟨_, rfl⟩, q⟩ hz
theorem c_reprN {i : Int} (hi : i.natAbs.log2 < 1920) : JC X G (.builtin "repr") M [.d (.int i)] (.d (.str (toString i))) M := ⟨_, cr_reprA, fun S H σ ρ us st r Q q => by
  obtain ⟨v, r', rfl, hv, rfl⟩ := r
  obtain rfl : v = .int i := hv
  exact .inr (.inl ⟨i, rfl, hi, q _ S H (Sub.rfl' S) st rfl⟩)⟩
theorem c_repr0 : JC X G (.builtin "repr") M [.d .none] (.d (.str "None")) M := ⟨_, cr_reprA, fun S H σ ρ us st r Q q => by
  obtain ⟨v, r', rfl, hv, rfl⟩ := r
  obtain rfl : v = .non := hv
  exact .inr (.inr (.inl ⟨rfl, q _ S H (Sub.rfl' S) st rfl⟩))⟩
theorem c_reprS {x : Str} (hx : (reprText x).length ≤ sizeLine) : JC X G (.builtin "repr") M [.d (.str x)] (.d (.str (reprText x))) M := ⟨_, cr_reprA, fun S H σ ρ us st r Q q => by
  obtain ⟨v, r', rfl, hv, rfl⟩ := r
  obtain rfl : v = .str x := hv
  exact .inr (.inr (.inr ⟨x, rfl, hx, q _ S H (Sub.rfl' S) st rfl⟩))⟩
end
end NL
set_option Elab.async false
set_option linter.all false
set_option maxRecDepth 100000
set_option maxHeartbeats 4000000
namespace NL
open PySem PySem.Spec L2
open PyProof.Rows hiding St
end NL
set_option Elab.async false
set_option linter.all false
set_option maxRecDepth 100000
set_option maxHeartbeats 4000000
namespace NL
open PySem PySem.Spec L2
open PyProof.Rows hiding St
end NL
set_option Elab.async false
set_option linter.all false
set_option maxRecDepth 100000
set_option maxHeartbeats 4000000
namespace NL
open PySem PySem.Spec L2
open PyProof.Rows hiding St
end NL
set_option Elab.async false
set_option linter.all false
set_option maxRecDepth 100000
set_option maxHeartbeats 4000000
namespace NL
open PySem PySem.Spec L2
open PyProof.Rows hiding St
end NL
set_option Elab.async false
set_option linter.all false
set_option maxRecDepth 100000
set_option maxHeartbeats 4000000
namespace NL
open PySem PySem.Spec L2
open PyProof.Rows hiding St
abbrev TH := Value × (Addr → Value → Option Addr → TS)
/-- the wishes of a suite, whose name goes at its end -/
def gonE (i : Nat) (D : Ends) : Ends := { nx := fun τ J => D.nx (τ.set i none) J, rt := D.rt, bk := fun τ J => D.bk (τ.set i none) J, ct := fun τ J => D.ct (τ.set i none) J }
inductive HdL (X : Cx) (n : Str) : List ExceptHandler → List TH → Prop
  | nil : HdL X n [] []
  | cons {x : Str} {c : Value} {np pp : Pos} {b0 : Stmt} {sb : List Stmt} {ts : Addr → Value → Option Addr → TS} {hds : List ExceptHandler} {l : List TH} (hc : Names X x c)
      (su : ∀ (a : Addr) (oe : Obj) (k : Value) (d : Option Addr) (pn : List (Addr × Obj)), Zc k d oe → (∃ vs, oe.data = .fields vs) → PSs (X.suite a ((a, oe) :: pn)) (b0 :: sb) (ts a k d)) (r : HdL X n hds l) :
      HdL X n (.ExceptHandler (some (.Name x np)) (some n) (b0 :: sb) pp :: hds) ((c, ts) :: l)
end NL
set_option Elab.async false
set_option linter.all false
set_option maxRecDepth 100000
set_option maxHeartbeats 4000000
namespace NL
open PySem PySem.Spec L2
open PyProof.Rows hiding St
section
variable {X : Cx} {G : Gh} {ρ : List SV} {M : MM} {P : Post} {pos : Pos}
abbrev tsB (X : Cx) (bs : List Stmt) : Addr → Value → Option Addr → TS := fun a k dd D σ H => ∀ (oe : Obj) (pn : List (Addr × Obj)), Zc k dd oe → (∃ vs, oe.data = .fields vs) → semB' (X.suite a ((a, oe) :: pn)) bs D σ H
theorem hd_cons {n x : Str} {c : Value} {np pp : Pos} {b0 : Stmt} {sb : List Stmt} {hds : List ExceptHandler} {l : List TH} (hc : Names X x c) (r : HdL X n hds l) : HdL X n (.ExceptHandler (some (.Name x np)) (some n) (b0 :: sb) pp :: hds) ((c, tsB X (b0 :: sb)) :: l) :=
  .cons hc (fun a oe k d pn z v => ⟨fun pins s σ H D I h => (h oe pn z v).run pins s I⟩) r
end
end NL
set_option Elab.async false
set_option linter.all false
set_option maxRecDepth 100000
set_option maxHeartbeats 4000000
namespace NL
open PySem PySem.Spec L2
open PyProof.Rows hiding St
section
variable {X : Cx} {G : Gh} {ρ : List SV} {M M1 M2 M3 : MM} {P : Post} {pos : Pos} {a b c : Expr} {x y z : SV} {k k2 : Bool} {op op' : CmpOp}
inductive Cls (X : Cx) (n : Str) : List ExceptHandler → List (Value × List Stmt) → Prop where
  | nil : Cls X n [] []
  | cons {x : Str} {c : Value} {np pp : Pos} {b0 : Stmt} {sb : List Stmt} {hds : List ExceptHandler} {l : List (Value × List Stmt)} (hc : Names X x c) (r : Cls X n hds l) : Cls X n (.ExceptHandler (some (.Name x np)) (some n) (b0 :: sb) pp :: hds) ((c, b0 :: sb) :: l)
theorem Cls.hd {n : Str} : ∀ {hds : List ExceptHandler} {l : List (Value × List Stmt)}, Cls X n hds l → HdL X n hds (l.map fun q => (q.1, tsB X q.2))
  | _, _, .nil => .nil
  | _, _, .cons hc r => hd_cons hc r.hd
end
end NL
set_option Elab.async false
set_option linter.all false
set_option maxRecDepth 100000
set_option maxHeartbeats 4000000
namespace NL
open PySem PySem.Spec L2 L2H
open PyProof.Rows hiding St
abbrev EPN := Addr → Option D → List SV → MM → Prop
structure FitsN (K : PySem.W.Frag) (G : Gh) (EX : EPN) (W : WX) : Prop where
  kept : ∀ S H σ ρ M C dx d v, Sta K G S H σ ρ M → S dx = some (.xd [("at", v)]) → Rp K S d v → EX C (some d) ρ M → W (.ref C) (some dx) σ H
  bare : ∀ S H σ ρ M C, Sta K G S H σ ρ M → EX C none ρ M → W (.ref C) none σ H
abbrev WpN := List SV → MM → (SV → MM → Prop) → (Addr → Option D → MM → Prop) → Prop
def spXN (K : PySem.W.Frag) (n : Nat) (W : WpN) : Sp := fun vs H Q E => ∃ (S : Hp) (ds : List SV) (M : MM) (R : SV → MM → Prop) (RE : Addr → Option D → MM → Prop), RelA K S ds vs ∧ ds.length = n ∧ Hst K (gh S H M) S H M ∧ W ds M R RE ∧
  (∀ d M' v S' H', Hst K (gh S H M) S' H' M' → Rel K S' d v → R d M' → Q v H') ∧
  (∀ C d M' dx v S' H', Hst K (gh S H M) S' H' M' → S' dx = some (.xd [("at", v)]) → Rp K S' d v → RE C (some d) M' → E (.ref C) (some dx) H') ∧
  ∀ C M' S' H', Hst K (gh S H M) S' H' M' → RE C none M' → E (.ref C) none H'
section
variable {P : Program} {w : World} {K : PySem.W.Frag} {mg : Str → Option Value} {base : Heap}
theorem fn_okXN {x qual : Str} {st : Stmt} {f : Addr} {fd : FuncData} {N ps : List Str} {k : Nat} {W : WpN} (F : FunX K x qual st f fd) (sc : FnScope N ps (defScope st))
    (hb : ∀ (cdv : Value) (A : Around) (outer : List Env) (s : Shared) (H : Hp) (E : XK) (G : Gh) (ds : List SV) (M : MM) (R : SV → MM → Prop) (RE : Addr → Option D → MM → Prop) (T : WX), Rm k (A.deeper (envOfC qual (defScope st) s.heap.objs.size f cdv)) → ds.length = ps.length → W ds M R RE →
      FitsN K G (fun C d _ M => ∃ M', MLe M' M ∧ RE C d M') T → L2N.Takes (cxOf (L2N.CX P w) P w K mg base N qual (defScope st) f cdv A outer s H E) T → jB (cxOf (L2N.CX P w) P w K mg base N qual (defScope st) f cdv A outer s H E) G (defBody st) (rho0 N ds) M (pEnd R)) :
    FnG P w K mg base (L2N.CX P w) (k + 1) f fd ps (spXN K ps.length W) := by
  refine F.ok sc (fun vs H Q E h => ?_) (fun cdv A outer s H vs Q E gd hr h => ?_)
  · obtain ⟨S, ds, M, R, RE, r, hl, _⟩ := h
    rw [r.len, hl]
  · obtain ⟨S, ds, M, R, RE, r, hl, hs, hw, q, qe, qn⟩ := h
    refine ⟨_, pbS, hb cdv A outer s H E (gh S H M) ds M R RE _ ⟨hr, gd⟩ hl hw ⟨fun S1 H1 σ1 ρ1 M1 C dx d v st1 e1 r1 z => ?_, fun S1 H1 σ1 ρ1 M1 C st1 z => ?_⟩ (L2N.takes_of rfl rfl rfl rfl) S H _ ⟨hs, ?_⟩ _ ⟨fun S1 H1 σ1 ρ1 M1 st1 h1 => ?_, fun S1 H1 M1 d v h1 r1 q1 => ?_, fun _ _ _ _ _ _ z => z.elim, fun _ _ _ _ _ _ z => z.elim⟩⟩
    · obtain ⟨M', hle, z⟩ := z
      exact qe C d M' dx v S1 H1 (st1.hst.less hle) e1 r1 z
    · obtain ⟨M', hle, z⟩ := z
      exact qn C M' S1 H1 (st1.hst.less hle) z
    · unfold rho0 L2.start
      refine (r.slots).app ?_
      rw [r.len]
      exact Slots.us _ _ (List.length_replicate ..)
    · obtain ⟨M', hle, h1⟩ := h1
      exact q (.d .none) M' .non S1 H1 (st1.hst.less hle) rfl h1
    · exact q d M1 v S1 H1 h1 r1 q1
end
/-- C(e, ..), nothing being handled -/
theorem pmkN_oex {X : Cx} {CX : CXT} {x : Str} {e : Expr} {es : List Expr} {ta : TA} {p pos : Pos} {C fI : Addr} {k : Nat} {fd : FuncData} {ps : List Str} {sp : Sp} (T : OexC X.K C) (iC : PySem.W.findIn X.K (.ref C) "__init__" = some (some (.ref fI))) (tI : PySem.W.typeIn X.K (.ref fI) = some (.type "function"))
    (F1 : FnOk X.prog X.w X.K X.mg X.base CX k fI fd ps sp) (hr : Room (k + 1) X.A) {us0 : List Value} {vs0 : List V} (hb : Binds X.K fd ps us0) (hd0 : Vals vs0 us0) (hx : Passes CX X (fun _ _ _ => False)) (hg : Gl X x) (hm : X.mg x = some (.ref C)) (ha : PA X (e :: es) ta)
    (hdb : (x == ("__debug__" : Str)) = false := by decide) (he : starEach (e :: es) X.env = (false, eval e X.env) :: starEach es X.env := by rfl) (hpl : (backTo pos (starEach es X.env)).any (·.1) = false := by rfl) :
    L2N.PMk X (.Call (.Name x p) (e :: es) [] pos) (tMkO C sp vs0 ta) := by
  intro pins s σ H Q I h
  obtain ⟨nm, q, N, bs, bm, sn, sub, ab, col, dd, k0, k1, k2, k3, k5, hC, hbm⟩ := T.cls
  refine wpAny_Call_Name_kw (ld_glob I hg hm ?_ hdb)
  refine PySem.W.callWith_K (h₀ := X.base) I.ok.mod.kin T.kC (thn (ha.run pos pins s σ H _ I h) fun us s1 ⟨vs, H1, I1, r1, hz, q1⟩ => ⟨I1.kIn, ?_⟩) he hpl
  show wpAny _ _ (PySem.call (.ref C) us) _ _ _
  obtain ⟨hp, g, dr, tk, os⟩ := s1
  have hsz : hp.objs.size ≤ hp.objs.size + 1 := Nat.le_succ _
  have hn : H1 (hp.objs.size + 1) = none := I1.hok.fresh hsz
  have hq := q1 (hp.objs.size + 1) hn
  have kk : ∀ b o, hp.get? b = some o → ((hp.push (PySem.W.kdv_tup us)).push (PySem.HandSPX.excO C hp.objs.size)).get? b = some o := fun b o e => Heap.get?_push_of_some _ (Heap.get?_push_of_some _ e)
  have hget : ((hp.push (PySem.W.kdv_tup us)).push (PySem.HandSPX.excO C hp.objs.size)).get? (hp.objs.size + 1) = some (PySem.HandSPX.excO C hp.objs.size) := by heap_get
  have I2 : Inv X pins σ (upd H1 (hp.objs.size + 1) (exo (hp.objs.size + 1) C none)) ⟨(hp.push (PySem.W.kdv_tup us)).push (PySem.HandSPX.excO C hp.objs.size), g, dr, tk, os⟩ :=
    I1.laid (t' := tk) (a := hp.objs.size + 1) (o := exo (hp.objs.size + 1) C none) (h' := (hp.push (PySem.W.kdv_tup us)).push (PySem.HandSPX.excO C hp.objs.size)) kk hsz (exo_ok hget)
  have r2 : Vals (V.ref (hp.objs.size + 1) :: (vs ++ vs0)) (Value.ref (hp.objs.size + 1) :: (us ++ us0)) := .cons rfl (r1.append hd0)
  have hl : (Value.ref (hp.objs.size + 1) :: us ++ us0).length = ps.length := by
    have e := r2.length
    rw [F1.len _ _ _ _ hq] at e
    exact e.symm
  have hus : us.length ≤ sizeLine := by
    rw [← Paired.length r1, sizeLine_eq]
    omega
  refine wpAny_call (PySem.HandSPX.call_own F.excBase_ValueError (fun Y => PySem.HandSPX.refsVE_contains Y bm hbm) (I1.kIn _ _ hC) (PySem.W.looks_findIn I1.kIn iC) (fun self => PySem.W.bind_fn I1.kIn self tI) hus
    (codeAny_mono (F1.run _ X.stack _ _ ⟨Value.ref (hp.objs.size + 1) :: us, []⟩ (Value.ref (hp.objs.size + 1) :: (us ++ us0)) _ _ (fun _ _ _ => False) (hr.make C us []) (I2.env0.make C us []) (hb _ (Value.ref (hp.objs.size + 1) :: us) I2.kIn hl) r2 hq) fun r s' hq' => ?_))
  cases r with
  | error er => exact hx pins σ _ _ er s' I2 hq'
  | ok fl =>
    cases fl with
    | ret u =>
      obtain ⟨v, H2, os2, bare2, un2, hok2, rv, ev, d, fs, ea, ed, hd1, q2⟩ := hq'
      subst ev
      obtain ⟨h2, g2, d2, t2, os'⟩ := s'
      obtain ⟨t0, G, J, kG, ge, hoe, na⟩ := mk_end0 (d2 := d2) (t2 := t2) I1 hsz kk un2 hok2 os2 bare2 ea ed hd1
      refine ⟨rv, hp.objs.size + 1, _, _, ⟨G, g2, d2, t2, os'⟩, _, .ref C, some d, rfl, J, kG, ge, hoe, ⟨rfl, rfl, fun vs hv => ?_⟩, rfl, rfl, na, rfl, bare2, raises_own T.exC T.tyC, q2⟩
      cases hv
      rfl
    | next => exact False.elim hq'
    | brk => exact False.elim hq'
    | cont => exact False.elim hq'
/-- a class of errors that keeps nothing -/
structure ExcO (K : PySem.W.Frag) (mg : Str → Option Value) (x : Str) where
  C : Addr
  g : mg x = some (.ref C)
  bm : List Value
  F : ExcBaseFacts "ValueError" "ValueError.__new__" "ValueError.__init__" bm
  q : PySem.W.excIn K C bm "ValueError.__new__" = true
  kp : PySem.W.keepIn K (.ref C) = true
  sub : PySem.W.subIn K (.ref C) (.type "BaseException") = some true
  ty : PySem.W.typeIn K (.ref C) = some (.type "type")
/-- C(), nothing being handled -/
theorem pmkN_own0 {X : Cx} {x : Str} {p pos : Pos} (T : ExcO X.K X.mg x) (hg : Gl X x) (hdb : (x == ("__debug__" : Str)) = false := by decide) : L2N.PMk X (.Call (.Name x p) [] [] pos) (fun _ H Q => Q (.ref T.C) none H) := by
  intro pins s σ H Q I h
  refine wpAny_Call_Name_kw (ld_glob I hg T.g ?_ hdb)
  have hk : PySem.W.keepIn X.K (.ref T.C) = true := T.kp
  obtain ⟨hp1, g1, d1, tk1, os1⟩ := s
  obtain ⟨bm, N, nm, qn, bs, hdct, sn, sub, ab, col, dd, k0, k1, k2, k3, k5, mN, hC, hN, hni, T2⟩ := exc_obj I.kIn T.q
  refine PySem.W.callWith_K0 (first := []) I.kIn hk ?_
  show wpAny _ _ (PySem.call (.ref T.C) []) _ _ _
  refine wpAny_call_exc_subT T.F T2 hC hN hni (fun h1 e hm => ?_) (Nat.zero_le _)
  exact L2N.mk_of I hm (raises_own T.sub T.ty) h (I.hok.gone hm.new)
section
variable {X : Cx} {G : Gh} {ρ : List SV} {M M1 : MM} {P : Post} {e : Expr} {es : List Expr} {pos pos' p np : Pos} {d : D} {ds : List SV} {Φ : SV → MM → Prop}
/-- raise C(e) -/
theorem s_raiseN {x qual : Str} {st : Stmt} {EX : EPN} {W : WX} (T : ExcD X.K X.mg x qual st) (F : FnOk X.prog X.w X.K X.mg X.base CX0 1 T.f T.fd ["self", "at"] (spAt T.C)) (hr : Rm 2 X.A) (tk : L2N.Takes X W) (fx : FitsN X.K G EX W) (ha : jA X G [e] ρ M [.d d] M1) (q : EX T.C (some d) ρ M1) (hc : X.calm = true := by rfl)
    (hg : Gl X x := by rfl) (hdb : (x == ("__debug__" : Str)) = false := by decide) (he : starEach [e] X.env = (false, eval e X.env) :: starEach [] X.env := by rfl) (hpl : (backTo pos (starEach [] X.env)).any (·.1) = false := by rfl) :
    jS X G (.Raise (some (.Call (.Name x p) [e] [] pos)) none pos') ρ M P := fun S H σ s D f =>
  PS.go (L2N.ps_raise hc tk (pmkN_oex T.cl T.ini T.tyF F hr.room T.b .nil pass0 hg T.g paS hdb he hpl)) (ha S H σ s _ fun vs S1 H1 e1 s1 r1 => by
    obtain ⟨v, r, rfl, rv, rr⟩ := r1
    obtain rfl : r = [] := rr
    refine ⟨(by show 1 ≤ 1000; decide), fun a na => ⟨a, v, by simp, upd_same, fun dx nx ne => ⟨rfl, dx, [("at", v)], upd_same, ?_, ?_, ?_⟩⟩⟩
    · rw [upd_ne ne, upd_same]
    · have := nx
      rw [upd_ne ne] at this
      exact this
    · have nd : H1 dx = none := by
        have := nx
        rw [upd_ne ne] at this
        exact this
      have eh : upd (L2.del (upd (upd (upd H1 a (exo a T.C none)) dx (exd dx [("at", v)])) a (exo a T.C (some dx))) a) dx (.xd [("at", v)]) = upd H1 dx (.xd [("at", v)]) := by
        funext b
        by_cases h1 : b = dx
        · subst h1; rw [upd_same, upd_same]
        · rw [upd_ne h1, upd_ne h1]
          by_cases h2 : b = a
          · subst h2; rw [L2.del_same, na]
          · rw [L2.del_ne h2, upd_ne h2, upd_ne h1, upd_ne h2]
      have sb : Sub S1 (upd S1 dx (.xd [("at", v)])) := Evl.Ex.new (s1.hst.free nd).1
      rw [eh]
      exact fx.kept (upd S1 dx (.xd [("at", v)])) _ σ ρ M1 T.C dx d v ⟨s1.hst.newS nd, s1.sl.mono sb⟩ upd_same (Rp.mono sb _ _ rv) q)
/-- raise C() -/
theorem s_raise0 {x : Str} {EX : EPN} {W : WX} (T : ExcO X.K X.mg x) (tk : L2N.Takes X W) (fx : FitsN X.K G EX W) (q : EX T.C none ρ M) (hc : X.calm = true := by rfl) (hg : Gl X x := by rfl) (hdb : (x == ("__debug__" : Str)) = false := by decide) :
    jS X G (.Raise (some (.Call (.Name x p) [] [] pos)) none pos') ρ M P := fun S H σ s D f =>
  PS.go (L2N.ps_raise hc tk (pmkN_own0 T hg hdb)) (fx.bare S H σ ρ M T.C s q)
theorem runXN {k : Nat} {f : Addr} {fd : FuncData} {ps : List Str} {sp : Sp} {E : XK} {pins : List (Addr × Obj)} {σ : L2.St} {H : Hp} {s : Shared} {Q : VK} {us : List Value} {vs : List V} (F : FnG X.prog X.w X.K X.mg X.base (L2N.CX X.prog X.w) k f fd ps sp) (hr : Rm k X.A) (hb : Binds X.K fd ps [])
    (up : ∀ u s', L2N.CX X.prog X.w X.stack H s E u s' → X.xe u s') (I : Inv X pins σ H s) (rel : Vals vs us) (h : sp vs H Q E) : wpAny (model X.prog X.w) X.A (PySem.call (.ref f) us) (EP X pins σ Q) X.xe s := by
  have hl : us.length = ps.length := by rw [← rel.length]; exact F.len _ _ _ _ h
  have bd := hb s us I.kIn (by rw [List.append_nil]; exact hl)
  rw [List.append_nil] at bd
  refine wpAny_call (codeAny_mono (F.run X.A X.stack s H ⟨us, []⟩ us vs Q E hr.gd hr.room I.env0 bd rel h) fun r s2 q => ?_)
  cases r with
  | error u => exact up u s2 q
  | ok fl =>
    cases fl with
    | ret u => exact I.after q
    | next => exact q.elim
    | brk => exact q.elim
    | cont => exact q.elim
theorem n_callXZ {k n : Nat} {W : WpN} {x : Str} {st : Stmt} {ps : List Str} {EX : EPN} {TW : WX} (T : Def X.K X.mg x st ps) (F : FnG X.prog X.w X.K X.mg X.base (L2N.CX X.prog X.w) k T.f T.fd ps (spXN X.K n W)) (hr : Rm k X.A) (tk : L2N.Takes X TW) (fx : FitsN X.K G EX TW) (ha : jA X G (e :: es) ρ M ds M1)
    (hW : W ds M1 Φ fun C d M' => EX C d ρ M') (hl : ds.length = n := by rfl) (hg : Gl X x := by rfl) (hdb : (x == ("__debug__" : Str)) = false := by decide) (he : starEach (e :: es) X.env = (false, eval e X.env) :: starEach es X.env := by rfl) (hpl : (backTo pos (starEach es X.env)).any (·.1) = false := by rfl) :
    nE X G (.Call (.Name x p) (e :: es) [] pos) ρ M Φ := fun S H σ st Q q => by
  have ar := ha S H σ st (fun vs H1 => spXN X.K n W vs H1 Q fun cls dd H2 => TW cls dd σ H2) fun vs S1 H1 e1 st1 r1 =>
    ⟨S1, ds, M1, Φ, fun C d M' => EX C d ρ M', r1, hl, st1.hst.enter, hW, fun d M' v S' H' h' r' q' => q d M' v S' H' q' (e1.tr h'.g1) ⟨st1.hst.leave h', st1.sl.mono h'.g1⟩ r', fun C d M' dx v S' H' h' e' r' q' => fx.kept S' H' σ ρ M' C dx d v ⟨st1.hst.leave h', st1.sl.mono h'.g1⟩ e' r' q',
      fun C M' S' H' h' q' => fx.bare S' H' σ ρ M' C ⟨st1.hst.leave h', st1.sl.mono h'.g1⟩ q'⟩
  refine ⟨fun pins s I => wpAny_Call_Name_kw (ld_glob I hg T.g ?_ hdb)⟩
  refine PySem.W.callWith_K (h₀ := X.base) I.ok.mod.kin T.F.kp (thn (ar.run pos pins s I) fun us s1 z => ?_) he hpl
  obtain ⟨vs, H1, I1, r, hsp⟩ := z
  exact ⟨I1.kIn, runXN F hr T.b (fun u s2 c => tk u s2 (L2N.XE.of_call I1 (fun _ _ _ y => y) c)) I1 r hsp⟩
/-- a caught error in its slot -/
def xsv (a : Addr) : Option Addr → Option D → SV
  | some dd, some d => .x a dd d
  | _, _ => .v (.ref a)
/-- try: .. except x as n: .., the suite's errors of both sorts -/
theorem s_tryN {x n : Str} {c : Value} {body suite : List Stmt} {b0 : Stmt} {EX : EPN} {Wout : WX} (i : Nat) (hc : Names X x c) (tk : L2N.Takes X Wout)
    (hb : ∀ (pn : List (Addr × Obj)) (xe : Value → Shared → Prop) (W : WX), L2N.Takes (X.tr pn xe) W → PassesOwn (model X.prog X.w) X.A X.env xe → FitsN X.K G EX W → jB (X.tr pn xe) G body ρ M P)
    (hh : ∀ C d ρ' M', EX C d ρ' M' → PySem.W.exmOne X.K (.ref C) c = some true ∧ ∀ (a : Addr) (dd : Option Addr) (oe : Obj) (pn : List (Addr × Obj)), dd.isSome = d.isSome → L2N.Zn (.ref C) dd oe → (∃ vs, oe.data = .fields vs) →
      jB (X.suite a ((a, oe) :: pn)) G (b0 :: suite) (ρ'.set i (xsv a dd d)) M' { nx := fun ρ M => P.nx (ρ.set i .u) M, rt := P.rt, bk := fun ρ M => P.bk (ρ.set i .u) M, ct := fun ρ M => P.ct (ρ.set i .u) M })
    (hN : X.N.Nodup) (hi : X.N[i]? = some n := by rfl) (hln : X.env.kindOf n = some .local := by rfl) (hs : X.stack = X.env :: X.outer := by rfl) (hf : X.env.frame = some X.env.locals := by rfl) :
    jS X G (.Try body [.ExceptHandler (some (.Name x np)) (some n) (b0 :: suite) pos'] [] [] pos) ρ M P := fun S H σ s De f => by
  have suiteOk : ∀ {S1 H1 : Hp} {σ1 : L2.St} {ρ1 : List SV} {M1 : MM} {C : Addr} {d : Option D} {dd : Option Addr} {a : Addr} {oe : Obj} {pn : List (Addr × Obj)}, Sta X.K G S1 H1 (σ1.set i (some (.ref a))) (ρ1.set i (xsv a dd d)) M1 → dd.isSome = d.isSome → EX C d ρ1 M1 → L2N.Zn (.ref C) dd oe → (∃ vs, oe.data = .fields vs) →
      semB' (X.suite a ((a, oe) :: pn)) (b0 :: suite) (gonE i De) (σ1.set i (some (.ref a))) H1 := fun {S1 H1 σ1 ρ1 M1 C d dd a oe pn} st1 hd hex z vs =>
    (hh C d ρ1 M1 hex).2 a dd oe pn hd z vs S1 H1 _ st1 _ ⟨fun S2 H2 σ2 ρ2 M2 st2 z => f.nx S2 H2 _ _ M2 ⟨st2.hst, st2.sl.set (s := .u) trivial i⟩ z, fun S2 H2 M2 d2 v2 h2 r2 z => f.rt S2 H2 M2 d2 v2 h2 r2 z, fun S2 H2 σ2 ρ2 M2 st2 z => f.bk S2 H2 _ _ M2 ⟨st2.hst, st2.sl.set (s := .u) trivial i⟩ z, fun S2 H2 σ2 ρ2 M2 st2 z => f.ct S2 H2 _ _ M2 ⟨st2.hst, st2.sl.set (s := .u) trivial i⟩ z⟩
  exact PS.go (L2N.ps_try_as (tb := fun W D σ H => ∀ (pn : List (Addr × Obj)) (xe : Value → Shared → Prop), L2N.Takes (X.tr pn xe) W → PassesOwn (model X.prog X.w) X.A X.env xe → semB' (X.tr pn xe) body D σ H)
    (ts := fun a cls dd D σ H => ∀ (oe : Obj) (pn : List (Addr × Obj)), L2N.Zn cls dd oe → (∃ vs, oe.data = .fields vs) → semB' (X.suite a ((a, oe) :: pn)) (b0 :: suite) D σ H)
    hs hf hN hi hln hc tk (fun W pn xe t po => ⟨fun pins s σ H D I h => (h pn xe t po).run pins s I⟩) (fun a oe cls dd pn z v => ⟨fun pins s σ H D I h => (h oe pn z v).run pins s I⟩))
    fun pn xe t po => hb pn xe _ t po ⟨fun S1 H1 σ1 ρ1 M1 C dx d v st1 e1 r1 q1 => ⟨true, (hh C _ ρ1 M1 q1).1, fun eb a na oe pn z vs => suiteOk (d := some d) (dd := some dx) ⟨st1.hst, st1.sl.set (s := .x a dx d) (v := some (.ref a)) ⟨rfl, v, e1, r1⟩ i⟩ rfl q1 z vs, fun z => nomatch z⟩,
      fun S1 H1 σ1 ρ1 M1 C st1 q1 => ⟨true, (hh C _ ρ1 M1 q1).1, fun eb a na oe pn z vs => suiteOk (d := none) (dd := none) ⟨st1.hst, st1.sl.set (s := .v (.ref a)) (v := some (.ref a)) rfl i⟩ rfl q1 z vs, fun z => nomatch z⟩⟩ S H σ s De f
end
end NL
set_option Elab.async false
set_option linter.all false
set_option maxRecDepth 100000
set_option maxHeartbeats 4000000
namespace NL
open PySem PySem.Spec L2
open PyProof.Rows hiding St
end NL
set_option Elab.async false
set_option linter.all false
set_option maxRecDepth 100000
set_option maxHeartbeats 4000000
namespace NL
open PySem PySem.Spec L2
open PyProof.Rows hiding St
end NL
set_option Elab.async false
set_option linter.all false
set_option maxRecDepth 100000
set_option maxHeartbeats 4000000
namespace NL
open PySem PySem.Spec L2
open PyProof.Rows hiding St
end NL
set_option Elab.async false
set_option linter.all false
set_option maxRecDepth 100000
set_option maxHeartbeats 4000000
namespace NL
open PySem PySem.Spec L2
open PyProof.Rows hiding St
end NL
set_option Elab.async false
set_option linter.all false
set_option maxRecDepth 100000
set_option maxHeartbeats 4000000
namespace NL
open PySem PySem.Spec L2
open PyProof.Rows hiding St
end NL
set_option Elab.async false
set_option linter.all false
set_option maxRecDepth 100000
set_option maxHeartbeats 4000000
namespace NL
open PySem PySem.Spec L2 HotX L2H
open PyProof.Rows hiding St
section
variable {X : Cx} {G : Gh} {ρ : List SV} {M M1 : MM}
theorem lcTW {elt tg : Expr} {ifs : List Expr} {scope : Scope} {own : List (Str × Nat)} {xs : List SV} {need : MM → Prop} (Ms : Nat → MM) (o : Nat → Option SV) (ok : BlkOk X.N X.env.scope scope own) (hN : X.N.Nodup)
    (hneed : ∀ i, i ≤ xs.length → need (Ms i)) (hlen : xs.length ≤ 1000000)
    (step : ∀ i d, xs[i]? = some d → ∃ (b : Bool) (ow : List Nat) (f : List SV → List SV) (M2 : MM), (∀ j ∈ ow, j ∈ own.map (·.2)) ∧ (∀ s H C cl fp, jG (blk X scope s H C cl fp) tg d ow f) ∧
      (∀ s H C cl fp G, jTs (blk X scope s H C cl fp) G ifs (f (wipeR ρ (own.map (·.2)))) (Ms i) b M2) ∧
      (b = true → ∃ y, o i = some y ∧ ∀ s H C cl fp G, jE (blk X scope s H C cl fp) G elt (f (wipeR ρ (own.map (·.2)))) M2 y (Ms (i + 1))) ∧ (b = false → o i = none ∧ M2 = Ms (i + 1)))
    {S H : Hp} {σ : L2.St} {wi : TI} (hi : ∀ R : It → Hp → Prop, (∀ J S1 H1, Sub S S1 → Sta X.K G S1 H1 σ ρ (Ms 0) → Walks X.K J S1 xs need → R J H1) → wi σ H R) {Q : VK} (q : ∀ p S' H', Sub S S' → Ms xs.length p = none → Sta X.K G S' H' σ ρ (mset (Ms xs.length) p (.lst (outs o xs.length))) → Q (.ref p) H') :
    tLc wi (fun v σ H Q => ∀ s H0 C cl fp, semG (blk X scope s H0 C cl fp) tg v σ H Q) (fun σ H Q => ∀ s H0 C cl fp, semTs (blk X scope s H0 C cl fp) ifs σ H Q) (fun σ H Q => ∀ s H0 C cl fp, semE (blk X scope s H0 C cl fp) elt σ H Q) (own.map (·.2)) σ H Q := by
  obtain ⟨vs, hvs⟩ : ∃ vs, vs = own.map (·.2) := ⟨_, rfl⟩
  rw [← hvs] at step ⊢
  refine hi _ fun J S1 H1 e1 st1 w Dl nD => ?_
  have stW : Sta X.K G S1 H1 (wipe σ vs) (wipeR ρ vs) (Ms 0) := ⟨st1.hst, slots_wipe st1.sl vs⟩
  obtain ⟨nS, nM⟩ := st1.hst.free nD
  have gD := st1.hst.back nD
  refine ⟨fun i m H' => m = xs.length - i ∧ i ≤ xs.length ∧ ∃ S' ws, Sub S1 S' ∧ S' Dl = none ∧ Ms i Dl = none ∧ Sta X.K G S' H' (wipe σ vs) (wipeR ρ vs) (Ms i) ∧ H' Dl = some (.lst ws) ∧ RelA X.K S' (outs o i) ws,
    ⟨xs.length, by simp, Nat.zero_le _, S1, [], Sub.rfl' _, nS, nM, ⟨stW.hst.grow (Evl.Ex.new nD), stW.sl⟩, upd_same, rfl⟩, ?_⟩
  rintro i m H' ⟨rfl, hle, S', ws, es, nS', nM', st', hD, hw⟩
  have hn := hneed i hle
  by_cases hlt : i < xs.length
  · refine .inr ⟨w.go G i S' H' (Ms i) _ _ es st' hn hlt, fun H2 => ∃ S' ws, Sub S1 S' ∧ S' Dl = none ∧ Ms (i + 1) Dl = none ∧ Sta X.K G S' H2 (wipe σ vs) (wipeR ρ vs) (Ms (i + 1)) ∧ H2 Dl = some (.lst ws) ∧ RelA X.K S' (outs o (i + 1)) ws,
      fun H2 h2 => ⟨xs.length - (i + 1), by omega, rfl, hlt, h2⟩, fun x H2 y => ?_⟩
    obtain ⟨eH, S2, d, hd, e2, fr2, st2, r2⟩ := w.yld G i S' H' (Ms i) _ _ x H2 es st' hn hlt y
    have hD2 : H2 Dl = some (.lst ws) := eH _ _ hD
    have nS2 : S2 Dl = none := by
      cases q2 : S2 Dl with
      | none => rfl
      | some u => exact absurd (fr2 Dl (by rw [q2]; exact fun z => nomatch z)) (by rw [nS', hD]; simp)
    obtain ⟨b, ow, f, M2, how, hg, ht, hy, hno⟩ := step i d hd
    intro s H0 C cl fp
    refine hg s H0 C cl fp S2 H2 (wipe σ vs) _ (Ms i) G x st2 r2 _ fun σ3 st3 w3 => ⟨by rw [w3 vs how, wipe_wipe σ vs vs fun _ h => h], ?_⟩
    intro s H0 C cl fp
    -- the inner part, from here on by itself: the new list is not its own
    have foreign : ∀ {S4 H4 M4}, Hst X.K (gh S2 H2 (Ms i)) S4 H4 M4 → S4 Dl = none ∧ M4 Dl = none ∧ H4 Dl = some (.lst ws) := fun {S4 H4 M4} h4 => by
      refine ⟨?_, ?_, h4.g2 Dl _ hD2 fun z => z nM'⟩
      · cases q2 : S4 Dl with
        | none => rfl
        | some u =>
          rcases h4.g3 Dl (by rw [q2]; exact fun z => nomatch z) with z | z | z | ⟨xs, z⟩
          · exact absurd nS2 z
          · have z' : H2 Dl = none := z
            rw [hD2] at z'; cases z'
          · exact absurd nM' z
          · have z' : H2 Dl = some (.tup xs) := z
            rw [hD2] at z'; cases z'
      · cases q2 : M4 Dl with
        | none => rfl
        | some u =>
          rcases h4.g4 Dl (by rw [q2]; exact fun z => nomatch z) with z | z
          · have z' : H2 Dl = none := z
            rw [hD2] at z'; cases z'
          · exact absurd nM' z
    refine ht s H0 C cl fp (gh S2 H2 (Ms i)) S2 H2 σ3 st3.enter _ fun S4 H4 e4 st4 => ?_
    cases b with
    | true =>
      refine iteT ?_
      obtain ⟨yv, ho, hel⟩ := hy rfl
      intro s H0 C cl fp
      refine hel s H0 C cl fp (gh S2 H2 (Ms i)) S4 H4 σ3 st4 _ fun v S5 H5 e5 st5 r5 => ?_
      obtain ⟨a1, a2, a3⟩ := foreign st5.hst
      have e25 : Sub S2 S5 := e4.tr e5
      refine ⟨ws, a3, ?_, S5, ws ++ [v], (es.tr e2).tr e25, a1, a2, ?_, upd_same, ?_⟩
      · rw [hw.len]
        have := outs_len o i
        exact sz_lt (by omega)
      · have h5 : Hst X.K G S5 H5 (Ms (i + 1)) := st2.hst.leave st5.hst
        refine ⟨?_, Slots.mono (e2.tr e25) st'.sl⟩
        -- the new list is written
        refine ⟨fun a u z => ?_, fun a m z => ?_, h5.g1, fun a u z f => ?_, h5.g3, h5.g4⟩
        · have na : a ≠ Dl := fun e => by rw [e, a1] at z; cases z
          rw [upd_ne na]; exact h5.sub a u z
        · have na : a ≠ Dl := fun e => by rw [e, a2] at z; cases z
          obtain ⟨k1, u, k2, k3⟩ := h5.own a m z
          exact ⟨k1, u, by rw [upd_ne na]; exact k2, k3⟩
        · have na : a ≠ Dl := fun e => by
            rcases gD with g | g
            · rw [e, g] at z; cases z
            · exact f (e ▸ g)
          rw [upd_ne na]; exact h5.g2 a u z f
      · rw [outs_succ, ho]
        exact (hw.mono (e2.tr e25)).app ⟨v, [], rfl, r5, rfl⟩
    | false =>
      refine iteF ?_
      obtain ⟨ho, rfl⟩ := hno rfl
      obtain ⟨a1, a2, a3⟩ := foreign st4.hst
      refine ⟨S4, ws, (es.tr e2).tr e4, a1, a2, ⟨st2.hst.leave st4.hst, Slots.mono (e2.tr e4) st'.sl⟩, a3, ?_⟩
      rw [outs_succ, ho]
      simp only [Option.toList, List.append_nil]
      exact hw.mono (e2.tr e4)
  · have e : i = xs.length := by omega
    subst e
    refine .inl ⟨w.stop G _ S' H' _ _ _ es st' hn rfl, q Dl S' H' (e1.tr es) nM' ⟨?_, st1.sl.mono es⟩⟩
    have h := st'.hst
    refine ⟨h.sub, fun a m z => ?_, h.g1, h.g2, h.g3, fun a z => ?_⟩
    · by_cases ha : a = Dl
      · subst ha
        rw [mset_same] at z; cases z
        exact ⟨nS', _, hD, ws, rfl, hw⟩
      · rw [mset_ne ha] at z; exact h.own a m z
    · by_cases ha : a = Dl
      · subst ha; exact gD
      · rw [mset_ne ha] at z; exact h.g4 a z
/-- [elt for tg in range(n) if ..] within an except suite -/
theorem l_lcHot {elt tg a : Expr} {ifs : List Expr} {scope : Scope} {own : List (Str × Nat)} {pos rp rpos : Pos} {n : Nat} (hot : HotC X) (Ms : Nat → MM) (o : Nat → Option SV) (ha : jA X G [a] ρ M [.d (.int (n : Nat))] (Ms 0)) (hn : n ≤ 1000000) (ok : BlkOk X.N X.env.scope scope own) (hN : X.N.Nodup)
    (step : ∀ i d, (rgD 0 n)[i]? = some d → ∃ (b : Bool) (ow : List Nat) (f : List SV → List SV) (M2 : MM), (∀ j ∈ ow, j ∈ own.map (·.2)) ∧ (∀ s H C cl fp, jG (blk X scope s H C cl fp) tg d ow f) ∧
      (∀ s H C cl fp G, jTs (blk X scope s H C cl fp) G ifs (f (wipeR ρ (own.map (·.2)))) (Ms i) b M2) ∧
      (b = true → ∃ y, o i = some y ∧ ∀ s H C cl fp G, jE (blk X scope s H C cl fp) G elt (f (wipeR ρ (own.map (·.2)))) M2 y (Ms (i + 1))) ∧ (b = false → o i = none ∧ M2 = Ms (i + 1)))
    (hm : X.mg "range" = none) (hgl : Gl X "range" := by rfl) (hst : starEach [a] X.env = [(false, eval a X.env)] := by rfl) (hs : ∀ x, foldedSetIterable (.Call (.Name "range" rp) [a] [] rpos) X.env x = pure x := by intro _; rfl) :
    jL X G (.ListComp elt [⟨tg, .Call (.Name "range" rp) [a] [] rpos, ifs, 0⟩] scope pos) ρ M (outs o (rgD 0 n).length) (Ms (rgD 0 n).length) := fun S H σ st Q q =>
  PE.go (pe_lcHot (n := n) (g := fun v σ H Q => ∀ s H0 C cl fp, semG (blk X scope s H0 C cl fp) tg v σ H Q) (tt := fun σ H Q => ∀ s H0 C cl fp, semTs (blk X scope s H0 C cl fp) ifs σ H Q) (te := fun σ H Q => ∀ s H0 C cl fp, semE (blk X scope s H0 C cl fp) elt σ H Q) hot hN hgl hm paS hst ok (fun s H0 C cl fp => ⟨fun pins s2 σ2 H2 v u Q2 I r h => (h s H0 C cl fp).run pins s2 u I r⟩) (fun s H0 C cl fp => ⟨fun pins s2 σ2 H2 Q2 I h => (h s H0 C cl fp).run pins s2 I⟩) (fun s H0 C cl fp => ⟨fun pins s2 σ2 H2 Q2 I h => (h s H0 C cl fp).run pins s2 I⟩) (by omega) hs)
    (lcTW (need := any1) Ms o ok hN (fun _ _ => trivial) (by simpa [rgD] using hn) step (fun R hR => ha S H σ st _ fun vs S1 H1 e1 st1 r1 => by
      obtain ⟨v, r, rfl, hv, rfl⟩ := r1
      obtain rfl : v = .int n := hv
      exact ⟨rfl, hR _ S1 H1 e1 st1 walks_range⟩) q)
end
structure FnHZ (Z : Addr × Obj → Prop) (P : Program) (w : World) (K : PySem.W.Frag) (mg : Str → Option Value) (base : Heap) (CX : CXT) (k : Nat) (f : Addr) (fd : FuncData) (ps : List Str) (sp : Sp) : Prop where
  len : ∀ vs H Q E, sp vs H Q E → vs.length = ps.length
  run : ∀ (A : Around) (outer : List Env) (s : Shared) (H : Hp) (args : Args) (us : List Value) (vs : List V) (Q : VK) (E : XK) (p : Addr × Obj), RoomH k A → L2H.Hot1 A p → Z p → PinOk outer H s p → Env0 P w K mg base A outer s H → BindsTo s fd args (ps.zip us) → Vals vs us → sp vs H Q E →
    codeAny (model P w) A (.call (.ref f) args) (CR CX outer P w H s Q E) s
section
variable {P : Program} {w : World} {K : PySem.W.Frag} {mg : Str → Option Value} {base : Heap}
theorem fn_okHZ {Z : Addr × Obj → Prop} {x qual : Str} {st : Stmt} {f : Addr} {fd : FuncData} {N ps : List Str} {k : Nat} {W : Wp} (F : FunX K x qual st f fd) (sc : FnScope N ps (defScope st))
    (hb : ∀ (cdv : Value) (A : Around) (outer : List Env) (s : Shared) (H : Hp) (E : XK) (p : Addr × Obj) (G : Gh) (ds : List SV) (M : MM) (R : SV → MM → Prop), Z p → L2H.Hot1 A p → RoomH k (A.deeper (envOfC qual (defScope st) s.heap.objs.size f cdv)) → ds.length = ps.length → W ds M R →
      jB (cxH CX0 P w K mg base N qual (defScope st) f cdv A outer s H E p).nox G (defBody st) (rho0 N ds) M (pEnd R)) :
    FnHZ Z P w K mg base CX0 (k + 1) f fd ps (spN K ps.length W) := by
  obtain ⟨oc, od, dV, kV, doc, pm, an, cdv, ct, osl, rfl, lk, hcd⟩ := F.ex
  have len : ∀ vs H Q E, spN K ps.length W vs H Q E → vs.length = ps.length := fun vs H Q E h => by
    obtain ⟨S, ds, M, R, r, hl, _⟩ := h
    rw [r.len, hl]
  refine ⟨len, fun A outer s H args us vs Q E p hr hot hz hpin e0 hb2 r hsp => ?_⟩
  have hl := len _ _ _ _ hsp
  have KX : K.In s.heap := e0.mod.kin.keeps fun b o e => (e0.bs b o e).1
  have lim : s.heap.NoLimit := e0.mod.nolimit.keeps fun b o e => (e0.bs b o e).1
  have hkind : ∀ y ∈ ps.zip us, (defScope st).names.lookup y.1 = some .local ∨ ((defScope st).names.lookup y.1 = some .cell ∧ ((cellsFrom (s.heap.objs.size + 1) (defScope st).names []).lookup y.1).isSome = true) := fun ⟨n, v⟩ hy =>
    (sc.par n (List.of_mem_zip hy).1).imp id fun q => ⟨q, PySem.W.cellsFrom_some _ _ _ (.inl q)⟩
  refine codeAny_call_function hr.depth (KX _ _ lk) rfl sc.co sc.gen rfl (PySem.W.codeRec_of KX hcd) (hb2 _ _ _ _ (wpAny_newFunctionEnv_cells sc.kind hkind fun env1 he s1 x => ?_))
  subst he
  refine ⟨lim.keeps x.toInCall.keep, codeAny_func ?_⟩
  have I : Inv (cxH CX0 P w K mg base N qual (defScope st) f cdv A outer s H E p) [] (L2.start N vs) H s1 := inv_startH sc hpin e0 hl r x
  obtain ⟨S, ds, M, R, ra, hdl, hs, hw, q⟩ := hsp
  have body : semB' (cxH CX0 P w K mg base N qual (defScope st) f cdv A outer s H E p).nox (defBody st) { nx := fun _ H' => Q .non H', rt := Q } (L2.start N vs) H := by
    refine hb cdv A outer s H E p (gh S H M) ds M R hz hot (hr.deeper _) hdl hw S H _ ⟨hs, ?_⟩ _ ⟨fun S1 H1 σ1 ρ1 M1 st1 h1 => ?_, fun S1 H1 M1 d v h1 r1 q1 => ?_, fun _ _ _ _ _ _ z => z.elim, fun _ _ _ _ _ _ z => z.elim⟩
    · unfold rho0 L2.start
      refine (ra.slots).app ?_
      rw [ra.len]
      exact Slots.us _ _ (List.length_replicate ..)
    · obtain ⟨M', hle, h1⟩ := h1
      exact q (.d .none) M' .non S1 H1 (st1.hst.less hle) rfl h1
    · exact q d M1 v S1 H1 h1 r1 q1
  have bd : PSs (cxH CX0 P w K mg base N qual (defScope st) f cdv A outer s H E p) (defBody st) _ := PSs.nox pbS
  refine wpAny_mono (bd.run [] s1 (L2.start N vs) H _ I body) (fun fl s' hs => ?_) fun e s' hs => hs
  cases fl with
  | ret u =>
    obtain ⟨v, σ', H', J, rv, q⟩ := hs
    exact ⟨v, H', J.os, J.bare, J.base, J.hok, rv, q⟩
  | next =>
    obtain ⟨σ', H', J, q⟩ := hs
    exact ⟨V.non, H', J.os, J.bare, J.base, J.hok, rfl, q⟩
  | brk =>
    obtain ⟨_, _, _, q⟩ := hs
    exact False.elim q
  | cont =>
    obtain ⟨_, _, _, q⟩ := hs
    exact False.elim q
end
section
variable {X : Cx} {G : Gh} {ρ : List SV} {M M1 M2 : MM} {z : SV} {ds : List SV} {e : Expr} {es : List Expr} {pos p : Pos} {Φ : SV → MM → Prop}
theorem run_fnHZ {Z : Addr × Obj → Prop} {k : Nat} {f : Addr} {fd : FuncData} {ps : List Str} {sp : Sp} {pins : List (Addr × Obj)} {σ : L2.St} {H : Hp} {s : Shared} {Q : VK} {us : List Value} {vs : List V} {p : Addr × Obj} (F : FnHZ Z X.prog X.w X.K X.mg X.base CX0 k f fd ps sp) (hr : RoomH k X.A) (hot : L2H.Hot1 X.A p) (hz : Z p) (hp : p ∈ X.pn) (hb : Binds X.K fd ps [])
    (I : Inv X pins σ H s) (r : Vals vs us) (h : sp vs H Q E0) : wpAny (model X.prog X.w) X.A (PySem.call (.ref f) us) (EP X pins σ Q) X.xe s := by
  have hl : us.length = ps.length := by rw [← r.length]; exact F.len _ _ _ _ h
  have b := hb s us I.kIn (by rw [List.append_nil]; exact hl)
  rw [List.append_nil] at b
  have P1 := I.pin p (List.mem_append_left _ hp)
  have hpin : PinOk X.stack H s p := ⟨P1.1, P1.2.1, fun hm => (List.mem_cons.mp (I.stkSub p.1 hm)).elim P1.2.2.1 P1.2.2.2.1, P1.2.2.2.2⟩
  refine wpAny_call (codeAny_mono (F.run X.A X.stack s H ⟨us, []⟩ us vs Q E0 p hr hot hz hpin I.env0 b r h) fun r s' hq => ?_)
  cases r with
  | error e => exact False.elim hq
  | ok fl =>
    cases fl with
    | ret u => exact I.after hq
    | next => exact False.elim hq
    | brk => exact False.elim hq
    | cont => exact False.elim hq
theorem n_callHZ {Z : Addr × Obj → Prop} {k n : Nat} {W : Wp} {x : Str} {st : Stmt} {ps : List Str} {pr : Addr × Obj} (T : Def X.K X.mg x st ps) (F : FnHZ Z X.prog X.w X.K X.mg X.base CX0 k T.f T.fd ps (spN X.K n W)) (hr : RoomH k X.A) (hot : L2H.Hot1 X.A pr) (hz : Z pr) (hp : pr ∈ X.pn) (ha : jA X G (e :: es) ρ M ds M1)
    (hW : W ds M1 Φ) (hl : ds.length = n := by rfl) (hg : Gl X x := by rfl) (hdb : (x == ("__debug__" : Str)) = false := by decide) (he : starEach (e :: es) X.env = (false, eval e X.env) :: starEach es X.env := by rfl) (hpl : (backTo pos (starEach es X.env)).any (·.1) = false := by rfl) :
    nE X G (.Call (.Name x p) (e :: es) [] pos) ρ M Φ := fun S H σ st Q q => by
  have ar := ha S H σ st (fun vs H1 => spN X.K n W vs H1 Q E0) fun vs S1 H1 e1 st1 r1 =>
    ⟨S1, ds, M1, Φ, r1, hl, st1.hst.enter, hW, fun d M' v S' H' h' r' q' => q d M' v S' H' q' (e1.tr h'.g1) ⟨st1.hst.leave h', st1.sl.mono h'.g1⟩ r'⟩
  refine ⟨fun pins s I => wpAny_Call_Name_kw (ld_glob I hg T.g ?_ hdb)⟩
  refine PySem.W.callWith_K (h₀ := X.base) I.ok.mod.kin T.F.kp (thn (ar.run pos pins s I) fun us s1 z => ?_) he hpl
  obtain ⟨vs, H1, I1, r, hsp⟩ := z
  exact ⟨I1.kIn, run_fnHZ F hr hot hz hp T.b I1 r hsp⟩
theorem call_isXp {a C dd : Addr} {oe : Obj} (hm : (a, oe) ∈ X.pn) (T : XfC X.K C) (I0 : IsX X.K C) (hz : Zc (.ref C) (some dd) oe) (hf : ∃ vs, oe.data = .fields vs) : CallR X (.builtin "isinstance") (rIsX X.K C a dd) := by
  intro pins s σ H xs us Q I r h
  obtain ⟨c, cv, b, fs, rfl, hd, hcv, e, q⟩ := h
  obtain ⟨u1, r1, rfl, a1, u2, r2, rfl, a2, rfl⟩ : ∃ u1 r1, us = u1 :: r1 ∧ RelV (.ref a) u1 ∧ ∃ u2 r2, r1 = u2 :: r2 ∧ RelV c u2 ∧ r2 = [] := by
    cases r with
    | cons h1 t1 =>
      cases t1 with
      | cons h2 t2 =>
        cases t2
        exact ⟨_, _, rfl, h1, _, _, rfl, h2, rfl⟩
  obtain rfl : u1 = .ref a := a1
  obtain rfl : u2 = cv := hcv u2 a2
  obtain ⟨got, _⟩ := I.pin (a, oe) (List.mem_append_left _ hm)
  obtain ⟨vs, hv⟩ := hf
  obtain ⟨mA, hns, _⟩ : ObjOk X.prog X.w H s.heap dd (.xd fs) := I.hok dd _ hd
  obtain ⟨od, ho, _⟩ := lookIn_ns hns
  have J : PySem.W.InstAt s.heap a oe C (some od) := ⟨got, hz.1, by unfold PySem.W.notCls; rw [hv] <;> rfl, by rw [hz.2]; exact ho⟩
  exact PySem.W.kia_one (PySem.W.kitx_exc I0.cl T.ga T.gg T.exC I0.cc I0.ge I0.tk I0.mr) I.kIn J e (fun z => nomatch z) fun tk => ⟨.bl b, H, I.kept (t' := tk) fun _ _ z => z, rfl, q⟩
theorem call_isEp {a D : Addr} {oe : Obj} (hm : (a, oe) ∈ X.pn) (C : ExcC X.K D) (hz : Zc (.ref D) none oe) (hf : ∃ vs, oe.data = .fields vs) : CallR X (.builtin "isinstance") (rIsE X.K D a) := by
  intro pins s σ H xs us Q I r h
  obtain ⟨c, cv, b, rfl, hcv, e, q⟩ := h
  cases r with
  | cons rx rr =>
    cases rr with
    | cons rt rr =>
      cases rr
      cases rx
      have ec := hcv _ rt
      subst ec
      obtain ⟨hget, _⟩ := I.pin (a, oe) (List.mem_append_left _ hm)
      obtain ⟨vs, hv⟩ := hf
      have J : PySem.W.InstAt s.heap a oe D none := by
        obtain ⟨oc, od, oda, osl⟩ := oe
        obtain ⟨h1, h2⟩ := hz
        dsimp only at h1 h2 hv
        subst h1 h2 hv
        exact ⟨hget, rfl, rfl, trivial⟩
      exact PySem.W.kia_one (PySem.W.handS_kitx_exc C.hg C.hk C.hs C.hd C.ha C.hn C.ht C.hm) I.kIn J e (fun z => nomatch z) fun tk => ⟨.bl b, H, I.kept (t' := tk) fun _ _ z => z, rfl, q⟩
theorem c_isEp {a C : Addr} {cv : Value} {b : Bool} (h : PySem.W.kitOne X.K (.ref C) cv = some b) {c : V} (hc : ∀ u, RelV c u → u = cv) : jC X G (rIsE X.K C a) M [.v (.ref a), .v c] (.d (.bool b)) M := fun S H σ ρ us st r Q q => by
  obtain ⟨v, r2, rfl, rv0, v2, r3, rfl, rv, re⟩ := r
  obtain rfl : v = .ref a := rv0
  obtain rfl : r3 = [] := re
  obtain rfl : v2 = c := rv
  exact ⟨v2, cv, b, rfl, hc, h, q (.bl b) S H (Sub.rfl' S) st rfl⟩
end
end NL
set_option Elab.async false
set_option linter.all false
set_option maxRecDepth 100000
set_option maxHeartbeats 4000000
namespace NL
open PySem PySem.Spec
section
variable {M : Model} {A : Around} {E : Value → Shared → Prop} {h : Heap} {g : Array GenState} {d : Drawn} {t : Nat} {os : OsState}
variable {nm q : Str} {C N : Addr} {bs bm bmB : List Value} {hdct : Bool} {sn : List Str} {sub : List Value} {ab : Bool} {col : Option Bool} {dd : Option Addr} {k0 k1 k2 k3 k5 : Option Value} {B newId initId : String}
theorem check_newK (F : ExcBaseFacts B newId initId bmB) (hT : ∀ X : String, bm.contains (.type X) = bmB.contains (.type X)) {kw : List (Str × Value)} {Q : Unit → Shared → Prop}
    (hC : h.get? C = some (excClassObj nm q C N bs bm hdct sn sub ab col dd k0 k1 k2 k3 k5 newId)) (hq : Q () ⟨h, g, d, t, os⟩) : wpAny M A (checkBuiltinCall newId ⟨[.ref C], kw⟩) Q E ⟨h, g, d, t, os⟩ := by
  have hcont : (Value.ref C :: bm).contains (.type B) = true := by rw [List.contains_cons, hT, F.hasB, Bool.or_true]
  have hstar := F.noStar
  simp only [checkBuiltinCall, F.newKind, F.newSplit, F.newRow]
  repeat (first | refine wpAny_loadPart_at hC ?_ | (refine wpAny_isSubtype_exc hC ?_; rw [hcont]) | refine wpAny_staticBase_exc hC ?_ | refine wpAny_madeBy_exc hC ?_ | simp only [bne_self_eq_false, Bool.false_eq_true, if_false] | wp_step)
  exact hq
theorem check_callK {kw : List (Str × Value)} {Q : Unit → Shared → Prop} (hC : h.get? C = some (excClassObj nm q C N bs bm hdct sn sub ab col dd k0 k1 k2 k3 k5 newId))
    (hq : Q () ⟨h, g, d, t, os⟩) : wpAny M A (checkBuiltinCall "type.__call__" ⟨[.ref C], kw⟩) Q E ⟨h, g, d, t, os⟩ := by
  have f3 := tc_sub
  have hT : (⟨h, g, d, t, os⟩ : Shared).TypeIs (.ref C) "type" := ⟨_, hC, rfl⟩
  simp only [checkBuiltinCall, tc_kind, tc_split]
  repeat (any_goals (first | assumption | with_reducible refine wpAny_loadPart_at hC ?_ | with_reducible refine wpAny_onRaise ?_ | with_reducible refine wpAny_map ?_ | wp_step))
end
section
variable {prog : Program} {w : World} {A : Around} {E : Value → Shared → Prop} {R : Result → Shared → Prop} {h : Heap} {g : Array GenState} {d : Drawn} {t : Nat} {os : OsState}
variable {nm q : Str} {C N : Addr} {bs bm bmB : List Value} {hdct : Bool} {sn : List Str} {sub : List Value} {ab : Bool} {col : Option Bool} {dd : Option Addr} {k0 k1 k2 k3 k5 : Option Value} {B newId initId : String}
theorem new_ownK (F : ExcBaseFacts B newId initId bmB) (hT : ∀ X : String, bm.contains (.type X) = bmB.contains (.type X)) {kw : List (Str × Value)}
    (hC : h.get? C = some (excClassObj nm q C N bs bm hdct sn sub ab col dd k0 k1 k2 k3 k5 newId))
    (hq : R (.ok (.ret (.ref (h.objs.size + 1)))) ⟨(h.push { cls := .type "tuple", data := .seq ([] : List Value).toArray }).push
      { cls := .ref C, data := .fields #[.ref h.objs.size, .none, .none, .none, .bool false, .none] }, g, d, t, os⟩) :
    codeAny (model prog w) A (.builtin newId ⟨[.ref C], kw⟩) R ⟨h, g, d, t, os⟩ := by
  have hends := F.ends
  have hrest : ([] : List Value).length ≤ sizeLine := Nat.zero_le _
  have hcB : (Value.ref C :: bm).contains (.type B) = true := by rw [List.contains_cons, hT, F.hasB, Bool.or_true]
  have hcA : (Value.ref C :: bm).contains (.type "AttributeError") = false := by rw [List.contains_cons, hT, F.noAttr]; rfl
  have hcN : (Value.ref C :: bm).contains (.type "NameError") = false := by rw [List.contains_cons, hT, F.noName]; rfl
  refine codeAny_builtinAt F.entry ?_
  unfold Builtin.«BaseException.__new__»
  refine wpAt_bind ?_
  show wpAt _ _ _ (stack >>= _) _ _ _
  refine wpAt_bind (wpAt_stack fun p below => wpAt_of_wpAny ?_)
  wp_walk
  refine wpAt_of_wpAny ?_
  rw [F.owner]
  repeat (first | with_reducible refine wpAny_madeHere_exc F.canon hC ?_ | with_reducible refine wpAny_loadPart_at hC ?_ | (with_reducible refine wpAny_isSubtype_exc hC ?_; first | rw [hcB] | rw [hcA] | rw [hcN]) | wp_step)
  show R _ _
  rw [Heap.size_push]
  exact hq
theorem type_callK (F : ExcBaseFacts B newId initId bmB) (hT : ∀ X : String, bm.contains (.type X) = bmB.contains (.type X)) {n : Str} {x : Value} {fI : Addr} {Q : Fin → Shared → Prop}
    (hC : h.get? C = some (excClassObj nm q C N bs bm hdct sn sub ab col dd k0 k1 k2 k3 k5 newId))
    (hi : W.Looks (model prog w) h (typeLookup (.ref C) "__init__") (some (.ref fI))) (hb : ∀ self, W.Looks (model prog w) h (bindSpecial (.ref fI) self) (.ref fI, [self]))
    (hq : codeAny (model prog w) A (.call (.ref fI) ⟨[.ref (h.objs.size + 1)], [(n, x)]⟩)
      (fun r s' => match r with | .ok (.ret v) => v = .none ∧ Q (.done (.ret (.ref (h.objs.size + 1)))) s' | .ok _ => False | .error e => E e s')
      ⟨(h.push (W.kdv_tup [])).push (HandSPX.excO C h.objs.size), g, d, t, os⟩) :
    wpAny (model prog w) A (Builtin.«type.__call__» ⟨[.ref C], [(n, x)]⟩) Q E ⟨h, g, d, t, os⟩ := by
  repeat (first | with_reducible refine wpAny_loadPart_at hC ?_ | with_reducible refine wpAny_madeBy_exc hC ?_ | wp_step)
  refine codeAny_call_builtin_code (Code.quiet_builtin _ F.quiet) (check_newK F hT hC ?_)
  refine new_ownK F hT hC ?_
  show wpAny _ _ _ _ _ _
  have k : ∀ b o, h.get? b = some o → ((h.push (W.kdv_tup [])).push (HandSPX.excO C h.objs.size)).get? b = some o := fun b o e => Heap.get?_push_of_some _ (Heap.get?_push_of_some _ e)
  have hC₁ := k _ _ hC
  have hget : ((h.push (W.kdv_tup [])).push (HandSPX.excO C h.objs.size)).get? (h.objs.size + 1) = some (HandSPX.excO C h.objs.size) := by heap_get
  have hcC : (Value.ref C :: bm).contains (.ref C) = true := by simp
  have i1 := hi.keeps k
  have b1 := (hb (.ref (h.objs.size + 1))).keeps k
  unfold isInstance
  repeat (first | with_reducible refine wpAny_loadPart_at hget ?_ | (with_reducible refine wpAny_isSubtype_exc hC₁ ?_; rw [hcC]) | wp_step)
  show wpAny _ _ (typeLookup (.ref C) _) _ _ _
  refine i1.at ?_
  refine wpAny_holding (wpAny_bind (b1.at ?_))
  refine wpAny_bind (wpAny_call (codeAny_mono hq fun r s' z => ?_))
  rcases r with e | (v | _ | _ | _) <;> first | exact z | exact z.elim | skip
  obtain ⟨rfl, z⟩ := z
  first
    | exact wpAny_pure (wpAny_pure z)
    | (wp_walk; exact z)
theorem call_ownK (F : ExcBaseFacts B newId initId bmB) (hT : ∀ X : String, bm.contains (.type X) = bmB.contains (.type X)) {n : Str} {x : Value} {fI : Addr}
    (hC : h.get? C = some (excClassObj nm q C N bs bm hdct sn sub ab col dd k0 k1 k2 k3 k5 newId))
    (hi : W.Looks (model prog w) h (typeLookup (.ref C) "__init__") (some (.ref fI))) (hb : ∀ self, W.Looks (model prog w) h (bindSpecial (.ref fI) self) (.ref fI, [self]))
    (hq : codeAny (model prog w) (A.under (.builtin "type.__call__" ⟨[.ref C], [(n, x)]⟩)) (.call (.ref fI) ⟨[.ref (h.objs.size + 1)], [(n, x)]⟩) (W.InitBack (h.objs.size + 1) R)
      ⟨(h.push (W.kdv_tup [])).push (HandSPX.excO C h.objs.size), g, d, t, os⟩) :
    codeAny (model prog w) A (.call (.ref C) ⟨[], [(n, x)]⟩) R ⟨h, g, d, t, os⟩ := by
  have f1 := tc_lookup
  have f2 := tc_bind (.ref C)
  have hTy : (⟨h, g, d, t, os⟩ : Shared).TypeIs (.ref C) "type" := ⟨_, hC, rfl⟩
  refine codeAny_of_tree ?_
  show wpAny _ _ (callAny (.ref C) _) _ _ _
  repeat (any_goals (first | assumption | with_reducible refine wpAny_loadPart_at hC ?_ | wp_step))
  refine ⟨rfl, ?_⟩
  refine codeAny_call_builtin_at (Code.quiet_builtin _ (by decide +kernel)) entry_typeCall (check_callK hC (type_callK F hT hC hi hb ?_))
  refine codeAny_mono hq fun r s' z => ?_
  rcases r with e | (v | _ | _ | _) <;> exact z
end
end NL
set_option Elab.async false
set_option linter.all false
set_option maxRecDepth 100000
set_option maxHeartbeats 4000000
namespace NL
open PySem PySem.Spec L2
open PyProof.Rows hiding St
/-- how __init__(self, at) binds C(at = x) -/
theorem kb_init {K : PySem.W.Frag} {qual : Str} {st : Stmt} {f : Addr} {fd : FuncData} (F : Fun K "__init__" qual st f fd)
    (hb : ∀ (kV doc pm : Value) (an : Option Addr) (cdv ct a b : Value), bindArgs (PySem.W.fnOf "__init__" qual (defArgs st) (defBody st) (defScope st) .none kV doc pm an cdv ct) ⟨[a], [("at", b)]⟩ = pure [(Str.ofString "self", a), (Str.ofString "at", b)]) : KBn K fd ["self", "at"] 1 ["at"] (fun us ws => us ++ ws) (fun vs zs => vs ++ zs) := by
  obtain ⟨oc, od, kV, doc, pm, an, cdv, ct, osl, rfl, lk, hcd⟩ := F.ex
  refine ⟨fun s us ws _ hu hw => ?_, fun r1 r2 => r1.append r2⟩
  match us, ws, hu, hw with
  | [a], [b], _, _ => exact .of_eq (hb kV doc pm an cdv ct a b)
/-- C(at = e).at -/
theorem pe_kwAt {X : Cx} {x : Str} {tk : TA} {p pos apos : Pos} {C fI : Addr} {fd : FuncData} {kws : List Keyword} (T : OexC X.K C) (xf : XfC X.K C) (no : PySem.W.findIn X.K (.ref C) "at" = some none) (iC : PySem.W.findIn X.K (.ref C) "__init__" = some (some (.ref fI))) (tI : PySem.W.typeIn X.K (.ref fI) = some (.type "function"))
    (F1 : FnOk X.prog X.w X.K X.mg X.base CX0 1 fI fd ["self", "at"] (spAt C)) (hr : Room 2 X.A) (kb : KBn X.K fd ["self", "at"] 1 ["at"] (fun us ws => us ++ ws) (fun vs zs => vs ++ zs)) (hg : Gl X x) (hm : X.mg x = some (.ref C)) (hkw : PK X kws tk)
    (hall : (backToKw pos (keywordEach kws X.env)).all (·.1.isSome) = true := by rfl) (hks : (backToKw pos (keywordEach kws X.env)).filterMap (·.1) = [Str.ofString "at"] := by rfl) (hdb : (x == ("__debug__" : Str)) = false := by decide)
    (hpl : ((backTo pos (starEach [] X.env)).any (·.1) || (backToKw pos (keywordEach kws X.env)).any (·.1.isNone)) = false := by rfl)
    (hab : attributeBase (.Call (.Name x p) [] kws pos) "at" X.env (eval (.Call (.Name x p) [] kws pos) X.env) = eval (.Call (.Name x p) [] kws pos) X.env := by rfl) :
    PE X (.Attribute (.Call (.Name x p) [] kws pos) "at" apos) (fun σ H Q => tk σ H fun zs H1 => ∃ v, zs = [v] ∧ ∀ dx, H1 dx = none → Q v (upd H1 dx (.xd [("at", v)]))) := by
  refine ⟨fun pins s σ H Q I h => ?_⟩
  obtain ⟨nm, q, N, bs, bm, sn, sub, ab, col, dd, k0, k1, k2, k3, k5, hC, hbm⟩ := T.cls
  refine attr_of hab (wpAny_Call_Name_kw (ld_glob I hg hm ?_ hdb))
  refine PySem.W.callWith_KW0 (h₀ := X.base) I.ok.mod.kin T.kC hall (thn (hkw.run pos pins s σ H _ I h) fun ws s1 ⟨zs, H1, I1, rz, q1⟩ => ⟨I1.kIn, ?_⟩) hpl
  rw [hks]
  obtain ⟨v, rfl, q1⟩ := q1
  obtain ⟨u, rfl, ru⟩ : ∃ u, ws = [u] ∧ RelV v u := by
    cases rz with
    | cons r rr => cases rr; exact ⟨_, rfl, r⟩
  show wpAny _ _ (PySem.call (.ref C) [] [("at", u)]) _ _ _
  obtain ⟨hp, g, dr, tk', os⟩ := s1
  have hsz : hp.objs.size ≤ hp.objs.size + 1 := Nat.le_succ _
  have hn : H1 (hp.objs.size + 1) = none := I1.hok.fresh hsz
  have kk : ∀ b o, hp.get? b = some o → ((hp.push (PySem.W.kdv_tup [])).push (PySem.HandSPX.excO C hp.objs.size)).get? b = some o := fun b o e => Heap.get?_push_of_some _ (Heap.get?_push_of_some _ e)
  have hget : ((hp.push (PySem.W.kdv_tup [])).push (PySem.HandSPX.excO C hp.objs.size)).get? (hp.objs.size + 1) = some (PySem.HandSPX.excO C hp.objs.size) := by heap_get
  have I2 : Inv X pins σ (upd H1 (hp.objs.size + 1) (exo (hp.objs.size + 1) C none)) ⟨(hp.push (PySem.W.kdv_tup [])).push (PySem.HandSPX.excO C hp.objs.size), g, dr, tk', os⟩ :=
    I1.laid (t' := tk') (a := hp.objs.size + 1) (o := exo (hp.objs.size + 1) C none) (h' := (hp.push (PySem.W.kdv_tup [])).push (PySem.HandSPX.excO C hp.objs.size)) kk hsz (exo_ok hget)
  have r2 : Vals [V.ref (hp.objs.size + 1), v] [Value.ref (hp.objs.size + 1), u] := .cons rfl (.cons ru .nil)
  have b2 := kb.to ⟨(hp.push (PySem.W.kdv_tup [])).push (PySem.HandSPX.excO C hp.objs.size), g, dr, tk', os⟩ [Value.ref (hp.objs.size + 1)] [u] I2.kIn rfl rfl
  have hq : spAt C [V.ref (hp.objs.size + 1), v] (upd H1 (hp.objs.size + 1) (exo (hp.objs.size + 1) C none)) (fun vv H2 => vv = V.non ∧ ∃ d, H2 (hp.objs.size + 1) = some (exo (hp.objs.size + 1) C (some d)) ∧ H2 d = some (exd d [("at", v)]) ∧ H1 d = none ∧
      upd (del H2 (hp.objs.size + 1)) d (.xd [("at", v)]) = upd H1 d (.xd [("at", v)])) (fun _ _ _ => False) := by
    refine ⟨hp.objs.size + 1, v, rfl, upd_same, fun dx nx ne => ⟨rfl, dx, upd_same, ?_, ?_, ?_⟩⟩
    · rw [upd_ne ne, upd_same]
    · have := nx
      rw [upd_ne ne] at this
      exact this
    · funext b
      by_cases h1 : b = dx
      · subst h1; rw [upd_same, upd_same]
      · rw [upd_ne h1, upd_ne h1]
        by_cases h2 : b = hp.objs.size + 1
        · subst h2; rw [L2.del_same, hn]
        · rw [L2.del_ne h2, upd_ne h2, upd_ne h1, upd_ne h2]
  refine wpAny_call (call_ownK F.excBase_ValueError (fun Y => PySem.HandSPX.refsVE_contains Y bm hbm) (I1.kIn _ _ hC) (PySem.W.looks_findIn I1.kIn iC) (fun self => PySem.W.bind_fn I1.kIn self tI)
    (codeAny_mono (F1.run _ X.stack _ _ ⟨[Value.ref (hp.objs.size + 1)], [("at", u)]⟩ _ _ _ (fun _ _ _ => False) (hr.make C [] [("at", u)]) (I2.env0.make C [] [("at", u)]) b2 r2 hq) fun r s' hq' => ?_))
  cases r with
  | error er => exact hq'.elim
  | ok fl =>
    cases fl with
    | ret u2 =>
      obtain ⟨vv, H2, os2, bare2, un2, hok2, rv, ev, d, ea, ed, hd1, eH⟩ := hq'
      subst ev
      obtain ⟨h2, g2, d2, t2, os'⟩ := s'
      refine ⟨rv, ?_⟩
      obtain ⟨t0, G, J, kG, ge, hoe, na⟩ := mk_end0 (d2 := d2) (t2 := t2) I1 hsz kk un2 hok2 os2 bare2 ea ed hd1
      rw [eH] at J
      have J2 : Inv X pins σ (upd H1 d (.xd [("at", v)])) ⟨h2, g2, d2, t2, os'⟩ := J.kept (t' := t2) kG
      have hx : ObjOk X.prog X.w (upd H1 d (.xd [("at", v)])) h2 d (.xd [("at", v)]) := J2.hok d _ upd_same
      obtain ⟨mA, hns, hrr⟩ := hx
      obtain ⟨od, ho, hl⟩ := lookIn_ns hns
      obtain ⟨u3, hu, ru3⟩ := RelO.some_of (v := v) (o := mA "at") (by
        have z := hrr "at"
        simpa [List.lookup] using z)
      have JI : PySem.W.InstAt h2 (hp.objs.size + 1) _ C (some od) := ⟨hoe, rfl, rfl, ho⟩
      exact PySem.HandSPX.exc_get J2.kIn JI xf.ga xf.gg xf.exC (PySem.W.findObj_own xf.hdC no rfl (by rw [hl, hu])) (handed_of ru3) ⟨v, _, J2.tok _, ru3, q1 d hd1⟩
    | next => exact False.elim hq'
    | brk => exact False.elim hq'
    | cont => exact False.elim hq'
section
variable {X : Cx} {G : Gh} {ρ : List SV} {M M1 : MM} {d : D} {kws : List Keyword} {p pos apos : Pos}
theorem e_kwAt {x qual : Str} {st : Stmt} (T : ExcK X.K X.mg x qual st) (F : FnOk X.prog X.w X.K X.mg X.base CX0 1 T.f T.fd ["self", "at"] (spAt T.C)) (hr : Rm 2 X.A) (kb : KBn X.K T.fd ["self", "at"] 1 ["at"] (fun us ws => us ++ ws) (fun vs zs => vs ++ zs)) (ha : jK X G kws ρ M [.d d] M1)
    (hg : Gl X x := by rfl) (hall : (backToKw pos (keywordEach kws X.env)).all (·.1.isSome) = true := by rfl) (hks : (backToKw pos (keywordEach kws X.env)).filterMap (·.1) = [Str.ofString "at"] := by rfl) (hdb : (x == ("__debug__" : Str)) = false := by decide)
    (hpl : ((backTo pos (starEach [] X.env)).any (·.1) || (backToKw pos (keywordEach kws X.env)).any (·.1.isNone)) = false := by rfl)
    (hab : attributeBase (.Call (.Name x p) [] kws pos) "at" X.env (eval (.Call (.Name x p) [] kws pos) X.env) = eval (.Call (.Name x p) [] kws pos) X.env := by rfl) :
    jE X G (.Attribute (.Call (.Name x p) [] kws pos) "at" apos) ρ M (.d d) M1 := fun S H σ st Q q =>
  PE.go (pe_kwAt T.cl T.xf T.no T.ini T.tyF F hr.room kb hg T.g pkS hall hks hdb hpl hab) (ha S H σ st _ fun vs S1 H1 e1 st1 r1 => by
    obtain ⟨v, r, rfl, rv, rfl⟩ := r1
    refine ⟨v, rfl, fun dx nx => ?_⟩
    have sb : Sub S1 (upd S1 dx (.xd [("at", v)])) := Evl.Ex.new (st1.hst.free nx).1
    exact q v (upd S1 dx (.xd [("at", v)])) _ (e1.tr sb) ⟨st1.hst.newS nx, st1.sl.mono sb⟩ (Rp.mono sb _ _ rv))
end
end NL
set_option Elab.async false
set_option linter.all false
set_option maxRecDepth 100000
set_option maxHeartbeats 4000000
namespace K00
open PySem PySem.Spec L2 NL
open PyProof.Rows hiding St
abbrev s_xB : Stmt := inClass (topS 2) 0
abbrev s_xC : Stmt := inClass (topS 3) 0
abbrev s_xR : Stmt := inClass (topS 4) 0
abbrev s_xG : Stmt := inClass (topS 5) 0
abbrev s_xQ : Stmt := inClass (topS 6) 0
abbrev s_xT : Stmt := inClass (topS 7) 0
abbrev s_xS : Stmt := inClass (topS 8) 0
abbrev s_xF : Stmt := inClass (topS 9) 0
theorem sc_xB : FnScope ["self", "at"] ["self", "at"] (defScope s_xB) := ⟨rfl, rfl, rfl, by decide +kernel, rfl, by decide +kernel, by decide +kernel⟩
theorem ok_xB {P : Program} {w : World} {K : PySem.W.Frag} {mg : Str → Option Value} {base : Heap} (TE : ExcD K mg "InvalidBook" "InvalidBook.__init__" s_xB) : FnOk P w K mg base CX0 1 TE.f TE.fd ["self", "at"] (spAt TE.C) := by
  refine TE.F.ok sc_xB (fun vs H Q E h => ?_) (fun cdv A outer s H vs Q E hr h => ?_)
  · obtain ⟨a, v, rfl, _⟩ := h
    rfl
  · obtain ⟨a, v, rfl, ha, k⟩ := h
    exact ⟨_, pss_one (ps_ost (pv 0) (pv 1) rfl), _, rfl, _, rfl, a, TE.C, rfl, TE.cl, TE.no, .inl ⟨ha, k⟩⟩
theorem kb_xB {K : PySem.W.Frag} {mg : Str → Option Value} (TE : ExcD K mg "InvalidBook" "InvalidBook.__init__" s_xB) : KBn K TE.fd ["self", "at"] 1 ["at"] (fun us ws => us ++ ws) (fun vs zs => vs ++ zs) := kb_init TE.F fun _ _ _ _ _ _ _ _ => rfl
theorem sc_xC : FnScope ["self", "at"] ["self", "at"] (defScope s_xC) := ⟨rfl, rfl, rfl, by decide +kernel, rfl, by decide +kernel, by decide +kernel⟩
theorem ok_xC {P : Program} {w : World} {K : PySem.W.Frag} {mg : Str → Option Value} {base : Heap} (TE : ExcD K mg "InvalidCrowd" "InvalidCrowd.__init__" s_xC) : FnOk P w K mg base CX0 1 TE.f TE.fd ["self", "at"] (spAt TE.C) := by
  refine TE.F.ok sc_xC (fun vs H Q E h => ?_) (fun cdv A outer s H vs Q E hr h => ?_)
  · obtain ⟨a, v, rfl, _⟩ := h
    rfl
  · obtain ⟨a, v, rfl, ha, k⟩ := h
    exact ⟨_, pss_one (ps_ost (pv 0) (pv 1) rfl), _, rfl, _, rfl, a, TE.C, rfl, TE.cl, TE.no, .inl ⟨ha, k⟩⟩
theorem kb_xC {K : PySem.W.Frag} {mg : Str → Option Value} (TE : ExcD K mg "InvalidCrowd" "InvalidCrowd.__init__" s_xC) : KBn K TE.fd ["self", "at"] 1 ["at"] (fun us ws => us ++ ws) (fun vs zs => vs ++ zs) := kb_init TE.F fun _ _ _ _ _ _ _ _ => rfl
theorem sc_xR : FnScope ["self", "at"] ["self", "at"] (defScope s_xR) := ⟨rfl, rfl, rfl, by decide +kernel, rfl, by decide +kernel, by decide +kernel⟩
theorem ok_xR {P : Program} {w : World} {K : PySem.W.Frag} {mg : Str → Option Value} {base : Heap} (TE : ExcD K mg "InvalidRun" "InvalidRun.__init__" s_xR) : FnOk P w K mg base CX0 1 TE.f TE.fd ["self", "at"] (spAt TE.C) := by
  refine TE.F.ok sc_xR (fun vs H Q E h => ?_) (fun cdv A outer s H vs Q E hr h => ?_)
  · obtain ⟨a, v, rfl, _⟩ := h
    rfl
  · obtain ⟨a, v, rfl, ha, k⟩ := h
    exact ⟨_, pss_one (ps_ost (pv 0) (pv 1) rfl), _, rfl, _, rfl, a, TE.C, rfl, TE.cl, TE.no, .inl ⟨ha, k⟩⟩
theorem kb_xR {K : PySem.W.Frag} {mg : Str → Option Value} (TE : ExcD K mg "InvalidRun" "InvalidRun.__init__" s_xR) : KBn K TE.fd ["self", "at"] 1 ["at"] (fun us ws => us ++ ws) (fun vs zs => vs ++ zs) := kb_init TE.F fun _ _ _ _ _ _ _ _ => rfl
theorem sc_xG : FnScope ["self", "at"] ["self", "at"] (defScope s_xG) := ⟨rfl, rfl, rfl, by decide +kernel, rfl, by decide +kernel, by decide +kernel⟩
theorem ok_xG {P : Program} {w : World} {K : PySem.W.Frag} {mg : Str → Option Value} {base : Heap} (TE : ExcD K mg "InvalidGroup" "InvalidGroup.__init__" s_xG) : FnOk P w K mg base CX0 1 TE.f TE.fd ["self", "at"] (spAt TE.C) := by
  refine TE.F.ok sc_xG (fun vs H Q E h => ?_) (fun cdv A outer s H vs Q E hr h => ?_)
  · obtain ⟨a, v, rfl, _⟩ := h
    rfl
  · obtain ⟨a, v, rfl, ha, k⟩ := h
    exact ⟨_, pss_one (ps_ost (pv 0) (pv 1) rfl), _, rfl, _, rfl, a, TE.C, rfl, TE.cl, TE.no, .inl ⟨ha, k⟩⟩
theorem kb_xG {K : PySem.W.Frag} {mg : Str → Option Value} (TE : ExcD K mg "InvalidGroup" "InvalidGroup.__init__" s_xG) : KBn K TE.fd ["self", "at"] 1 ["at"] (fun us ws => us ++ ws) (fun vs zs => vs ++ zs) := kb_init TE.F fun _ _ _ _ _ _ _ _ => rfl
theorem sc_xQ : FnScope ["self", "at"] ["self", "at"] (defScope s_xQ) := ⟨rfl, rfl, rfl, by decide +kernel, rfl, by decide +kernel, by decide +kernel⟩
theorem ok_xQ {P : Program} {w : World} {K : PySem.W.Frag} {mg : Str → Option Value} {base : Heap} (TE : ExcD K mg "InvalidQuestion" "InvalidQuestion.__init__" s_xQ) : FnOk P w K mg base CX0 1 TE.f TE.fd ["self", "at"] (spAt TE.C) := by
  refine TE.F.ok sc_xQ (fun vs H Q E h => ?_) (fun cdv A outer s H vs Q E hr h => ?_)
  · obtain ⟨a, v, rfl, _⟩ := h
    rfl
  · obtain ⟨a, v, rfl, ha, k⟩ := h
    exact ⟨_, pss_one (ps_ost (pv 0) (pv 1) rfl), _, rfl, _, rfl, a, TE.C, rfl, TE.cl, TE.no, .inl ⟨ha, k⟩⟩
theorem kb_xQ {K : PySem.W.Frag} {mg : Str → Option Value} (TE : ExcD K mg "InvalidQuestion" "InvalidQuestion.__init__" s_xQ) : KBn K TE.fd ["self", "at"] 1 ["at"] (fun us ws => us ++ ws) (fun vs zs => vs ++ zs) := kb_init TE.F fun _ _ _ _ _ _ _ _ => rfl
theorem sc_xT : FnScope ["self", "at"] ["self", "at"] (defScope s_xT) := ⟨rfl, rfl, rfl, by decide +kernel, rfl, by decide +kernel, by decide +kernel⟩
theorem ok_xT {P : Program} {w : World} {K : PySem.W.Frag} {mg : Str → Option Value} {base : Heap} (TE : ExcD K mg "InvalidText" "InvalidText.__init__" s_xT) : FnOk P w K mg base CX0 1 TE.f TE.fd ["self", "at"] (spAt TE.C) := by
  refine TE.F.ok sc_xT (fun vs H Q E h => ?_) (fun cdv A outer s H vs Q E hr h => ?_)
  · obtain ⟨a, v, rfl, _⟩ := h
    rfl
  · obtain ⟨a, v, rfl, ha, k⟩ := h
    exact ⟨_, pss_one (ps_ost (pv 0) (pv 1) rfl), _, rfl, _, rfl, a, TE.C, rfl, TE.cl, TE.no, .inl ⟨ha, k⟩⟩
theorem kb_xT {K : PySem.W.Frag} {mg : Str → Option Value} (TE : ExcD K mg "InvalidText" "InvalidText.__init__" s_xT) : KBn K TE.fd ["self", "at"] 1 ["at"] (fun us ws => us ++ ws) (fun vs zs => vs ++ zs) := kb_init TE.F fun _ _ _ _ _ _ _ _ => rfl
theorem sc_xS : FnScope ["self", "at"] ["self", "at"] (defScope s_xS) := ⟨rfl, rfl, rfl, by decide +kernel, rfl, by decide +kernel, by decide +kernel⟩
theorem ok_xS {P : Program} {w : World} {K : PySem.W.Frag} {mg : Str → Option Value} {base : Heap} (TE : ExcD K mg "NotSafe" "NotSafe.__init__" s_xS) : FnOk P w K mg base CX0 1 TE.f TE.fd ["self", "at"] (spAt TE.C) := by
  refine TE.F.ok sc_xS (fun vs H Q E h => ?_) (fun cdv A outer s H vs Q E hr h => ?_)
  · obtain ⟨a, v, rfl, _⟩ := h
    rfl
  · obtain ⟨a, v, rfl, ha, k⟩ := h
    exact ⟨_, pss_one (ps_ost (pv 0) (pv 1) rfl), _, rfl, _, rfl, a, TE.C, rfl, TE.cl, TE.no, .inl ⟨ha, k⟩⟩
theorem kb_xS {K : PySem.W.Frag} {mg : Str → Option Value} (TE : ExcD K mg "NotSafe" "NotSafe.__init__" s_xS) : KBn K TE.fd ["self", "at"] 1 ["at"] (fun us ws => us ++ ws) (fun vs zs => vs ++ zs) := kb_init TE.F fun _ _ _ _ _ _ _ _ => rfl
theorem sc_xF : FnScope ["self", "at"] ["self", "at"] (defScope s_xF) := ⟨rfl, rfl, rfl, by decide +kernel, rfl, by decide +kernel, by decide +kernel⟩
theorem ok_xF {P : Program} {w : World} {K : PySem.W.Frag} {mg : Str → Option Value} {base : Heap} (TE : ExcD K mg "Refused" "Refused.__init__" s_xF) : FnOk P w K mg base CX0 1 TE.f TE.fd ["self", "at"] (spAt TE.C) := by
  refine TE.F.ok sc_xF (fun vs H Q E h => ?_) (fun cdv A outer s H vs Q E hr h => ?_)
  · obtain ⟨a, v, rfl, _⟩ := h
    rfl
  · obtain ⟨a, v, rfl, ha, k⟩ := h
    exact ⟨_, pss_one (ps_ost (pv 0) (pv 1) rfl), _, rfl, _, rfl, a, TE.C, rfl, TE.cl, TE.no, .inl ⟨ha, k⟩⟩
theorem kb_xF {K : PySem.W.Frag} {mg : Str → Option Value} (TE : ExcD K mg "Refused" "Refused.__init__" s_xF) : KBn K TE.fd ["self", "at"] 1 ["at"] (fun us ws => us ++ ws) (fun vs zs => vs ++ zs) := kb_init TE.F fun _ _ _ _ _ _ _ _ => rfl
/-- the errors -/
structure Tx (K : PySem.W.Frag) (mg : Str → Option Value) (T : Txt K mg) where
  EB : ExcK K mg "InvalidBook" "InvalidBook.__init__" s_xB
  EC : ExcK K mg "InvalidCrowd" "InvalidCrowd.__init__" s_xC
  ER : ExcK K mg "InvalidRun" "InvalidRun.__init__" s_xR
  EG : ExcK K mg "InvalidGroup" "InvalidGroup.__init__" s_xG
  EQ : ExcK K mg "InvalidQuestion" "InvalidQuestion.__init__" s_xQ
  ET : ExcK K mg "InvalidText" "InvalidText.__init__" s_xT
  ES : ExcK K mg "NotSafe" "NotSafe.__init__" s_xS
  EF : ExcK K mg "Refused" "Refused.__init__" s_xF
  EO : ExcO K mg "InvalidCommand"
  oc : ExcC K EO.C
  cL : Addr
  gL : mg "LeftError" = some (.ref cL)
  kit : ∀ (i j : Nat) (x y : Addr), [EB.C, EC.C, ER.C, EG.C, EQ.C, ET.C, ES.C, EF.C, EO.C][i]? = some x → [EB.C, EC.C, ER.C, EG.C, EQ.C, ET.C, ES.C, EF.C, EO.C][j]? = some y → PySem.W.kitOne K (.ref x) (.ref y) = some (decide (i = j))
  kitV : ∀ x ∈ [EB.C, EC.C, ER.C, EG.C, EQ.C, ET.C, ES.C, EF.C, EO.C], PySem.W.kitOne K (.ref x) (.type "ValueError") = some true
  exm : ∀ x ∈ [EB.C, EC.C, ER.C, EG.C, EQ.C, ET.C, ES.C, EF.C, EO.C], PySem.W.exmOne K (.ref x) (.ref cL) = some true
section
variable {P : Program} {w : World} {K : PySem.W.Frag} {mg : Str → Option Value} {base : Heap} {T : Txt K mg}
def Tx.cls (E : Tx K mg T) : List Addr := [E.EB.C, E.EC.C, E.ER.C, E.EG.C, E.EQ.C, E.ET.C, E.ES.C, E.EF.C, E.EO.C]
/-- what a caught error of a class keeps, and where -/
def Kd (K : PySem.W.Frag) (C : Addr) (dd : Option Addr) (d : Option D) : Prop := (∃ x y, dd = some x ∧ d = some y ∧ XfC K C ∧ IsX K C ∧ PySem.W.findIn K (.ref C) "at" = some none) ∨ (dd = none ∧ d = none ∧ ExcC K C)
def atD (i : Nat) (th : D) : Option D := if i < 8 then some th else none
theorem Tx.kd (E : Tx K mg T) {i : Nat} {C : Addr} (h : E.cls[i]? = some C) {dd : Option Addr} {th : D} (hd : dd.isSome = (atD i th).isSome) : Kd K C dd (atD i th) := by
  have key : ∀ {x qual : Str} {s0 : Stmt} (e : ExcK K mg x qual s0), dd.isSome = true → Kd K e.C dd (some th) := fun e hs => by
    obtain ⟨x, rfl⟩ := Option.isSome_iff_exists.mp hs
    exact .inl ⟨x, th, rfl, rfl, e.xf, e.is, e.no⟩
  match i, h with
  | 0, h => cases h; exact key E.EB hd
  | 1, h => cases h; exact key E.EC hd
  | 2, h => cases h; exact key E.ER hd
  | 3, h => cases h; exact key E.EG hd
  | 4, h => cases h; exact key E.EQ hd
  | 5, h => cases h; exact key E.ET hd
  | 6, h => cases h; exact key E.ES hd
  | 7, h => cases h; exact key E.EF hd
  | 8, h =>
    cases h
    have : dd = none := by cases dd with | none => rfl | some _ => cases hd
    exact .inr ⟨this, rfl, E.oc⟩
  | n + 9, h => cases h
section
variable {X : Cx} {G : Gh} {ρ : List SV} {M : MM}
theorem is_ok {a C : Addr} {oe : Obj} {dd : Option Addr} {d : Option D} {cv : Value} {b : Bool} {c : V} (hm : (a, oe) ∈ X.pn) (k : Kd X.K C dd d) (hz : Zc (.ref C) dd oe) (hf : ∃ vs, oe.data = .fields vs) (h : PySem.W.kitOne X.K (.ref C) cv = some b) (hc : ∀ u, RelV c u → u = cv) :
    JC X G (.builtin "isinstance") M [xsv a dd d, .v c] (.d (.bool b)) M := by
  rcases k with ⟨x, y, rfl, rfl, xf, is, _⟩ | ⟨rfl, rfl, oc⟩
  · exact ⟨_, call_isXp hm xf is hz hf, c_isX h hc⟩
  · exact ⟨_, call_isEp hm oc hz hf, c_isEp h hc⟩
end
theorem xsv_ne {a : Addr} {dd : Option Addr} {d : Option D} : xsv a dd d ≠ .u := by cases dd <;> cases d <;> exact fun z => nomatch z
def marksD (i : Nat) : List D := (List.range 9).map fun j => .bool (decide (i = j))
def W_marks (a : Addr) (dd : Option Addr) (d : Option D) (i : Nat) : Wp := fun ds M R => ds = [xsv a dd d] ∧ R (.d (.list (marksD i))) M
theorem ok_marks (E : Tx K mg T) {i : Nat} {C a : Addr} {oe : Obj} {dd : Option Addr} {d : Option D} (hC : E.cls[i]? = some C) (kd : Kd K C dd d) (hz : Zc (.ref C) dd oe) (hf : ∃ vs, oe.data = .fields vs) :
    FnHZ (· = (a, oe)) P w K mg base CX0 1 T.marks.f T.marks.fd A_marks (spN K 1 (W_marks a dd d i)) := by
  refine fn_okHZ T.marks.F sc_marks fun cdv A outer s H Ez p G ds M R hp hot hr hl hW => ?_
  obtain ⟨rfl, hR⟩ := hW
  subst hp
  refine b_cons (s_set (i := 1) (d := .d (.list [.bool (decide (i = 0)), .bool (decide (i = 1)), .bool (decide (i = 2)), .bool (decide (i = 3))])) (M1 := M) (e_ofL' (xs := [.bool (decide (i = 0)), .bool (decide (i = 1)), .bool (decide (i = 2)), .bool (decide (i = 3))]) (e_lst (a_cons (callB (a_cons (v 0 (hd := xsv_ne)) (a_cons (e_glob rfl E.EB.g (v := .ref E.EB.C) rfl) a_nil)) (is_ok List.mem_cons_self kd hz hf (E.kit i 0 C _ hC rfl) fun u r => r) T.z_isinstance) (a_cons (callB (a_cons (v 0 (hd := xsv_ne)) (a_cons (e_glob rfl E.EC.g (v := .ref E.EC.C) rfl) a_nil)) (is_ok List.mem_cons_self kd hz hf (E.kit i 1 C _ hC rfl) fun u r => r) T.z_isinstance) (a_cons (callB (a_cons (v 0 (hd := xsv_ne)) (a_cons (e_glob rfl E.ER.g (v := .ref E.ER.C) rfl) a_nil)) (is_ok List.mem_cons_self kd hz hf (E.kit i 2 C _ hC rfl) fun u r => r) T.z_isinstance) (a_cons (callB (a_cons (v 0 (hd := xsv_ne)) (a_cons (e_glob rfl E.EG.g (v := .ref E.EG.C) rfl) a_nil)) (is_ok List.mem_cons_self kd hz hf (E.kit i 3 C _ hC rfl) fun u r => r) T.z_isinstance) a_nil))))) rfl) ?_ sc_marks.nd)
  refine b_cons (s_set (i := 1) (d := .d (.list [.bool (decide (i = 0)), .bool (decide (i = 1)), .bool (decide (i = 2)), .bool (decide (i = 3)), .bool (decide (i = 4)), .bool (decide (i = 5)), .bool (decide (i = 6)), .bool (decide (i = 7))])) (M1 := M) (e_ofL' (xs := [.bool (decide (i = 0)), .bool (decide (i = 1)), .bool (decide (i = 2)), .bool (decide (i = 3)), .bool (decide (i = 4)), .bool (decide (i = 5)), .bool (decide (i = 6)), .bool (decide (i = 7))]) (binL (v 1) (e_ofL' (xs := [.bool (decide (i = 4)), .bool (decide (i = 5)), .bool (decide (i = 6)), .bool (decide (i = 7))]) (e_lst (a_cons (callB (a_cons (v 0 (hd := xsv_ne)) (a_cons (e_glob rfl E.EQ.g (v := .ref E.EQ.C) rfl) a_nil)) (is_ok List.mem_cons_self kd hz hf (E.kit i 4 C _ hC rfl) fun u r => r) T.z_isinstance) (a_cons (callB (a_cons (v 0 (hd := xsv_ne)) (a_cons (e_glob rfl E.ET.g (v := .ref E.ET.C) rfl) a_nil)) (is_ok List.mem_cons_self kd hz hf (E.kit i 5 C _ hC rfl) fun u r => r) T.z_isinstance) (a_cons (callB (a_cons (v 0 (hd := xsv_ne)) (a_cons (e_glob rfl E.ES.g (v := .ref E.ES.C) rfl) a_nil)) (is_ok List.mem_cons_self kd hz hf (E.kit i 6 C _ hC rfl) fun u r => r) T.z_isinstance) (a_cons (callB (a_cons (v 0 (hd := xsv_ne)) (a_cons (e_glob rfl E.EF.g (v := .ref E.EF.C) rfl) a_nil)) (is_ok List.mem_cons_self kd hz hf (E.kit i 7 C _ hC rfl) fun u r => r) T.z_isinstance) a_nil))))) rfl) (cat_l ls_d ls_d (Nat.le_of_ble_eq_true rfl))) rfl) ?_ sc_marks.nd)
  exact b_one (ret (e_ofL' (xs := marksD i) (binL (v 1) (e_ofL' (xs := [.bool (decide (i = 8))]) (e_lst (a_cons (callB (a_cons (v 0 (hd := xsv_ne)) (a_cons (e_glob rfl E.EO.g (v := .ref E.EO.C) rfl) a_nil)) (is_ok List.mem_cons_self kd hz hf (E.kit i 8 C _ hC rfl) fun u r => r) T.z_isinstance) a_nil)) rfl) (cat_l ls_d ls_d (Nat.le_of_ble_eq_true rfl))) rfl) hR)
end
end K00
set_option Elab.async false
set_option linter.all false
set_option maxRecDepth 100000
set_option maxHeartbeats 2000000
namespace NL
open PySem PySem.Spec L2
open PyProof.Rows hiding St
end NL
set_option Elab.async false
set_option linter.all false
set_option maxRecDepth 100000
set_option maxHeartbeats 2000000
namespace NL
open PySem PySem.Spec L2
open PyProof.Rows hiding St
end NL
set_option Elab.async false
set_option linter.all false
set_option maxRecDepth 100000
set_option maxHeartbeats 2000000
namespace NL
open PySem PySem.Spec L2
open PyProof.Rows hiding St
end NL
set_option Elab.async false
set_option linter.all false
set_option maxRecDepth 100000
set_option maxHeartbeats 1000000
namespace NL
abbrev Rw := List Int
/-- the integer of a row in a column -/
def rat (r : Rw) (i : Nat) : Int := r.getD i 0
theorem rat_out {r : Rw} {i : Nat} (h : r.length ≤ i) : rat r i = 0 := by
  unfold rat; rw [List.getD_eq_getElem?_getD, List.getElem?_eq_none h]; rfl
/-- a row less another one so many times -/
def lsR (xs ys : Rw) (n : Int) : Rw := (List.range (min xs.length ys.length)).map fun i => xs.getD i 0 - n * ys.getD i 0
theorem lsR_len {xs ys : Rw} {n : Int} (h : xs.length = ys.length) : (lsR xs ys n).length = xs.length := by simp [lsR, h]
theorem lsR_at {xs ys : Rw} {n : Int} (h : xs.length = ys.length) (i : Nat) : rat (lsR xs ys n) i = rat xs i - n * rat ys i := by
  by_cases hi : i < xs.length
  · simp [rat, lsR, List.getD, h, h ▸ hi]
  · rw [rat_out (by rw [lsR_len h]; omega), rat_out (r := xs) (by omega), rat_out (r := ys) (by omega)]; simp
/-- sums of the rows, each taken an integer of times -/
inductive Lat (A : List Rw) : (Nat → Int) → Prop where
  | zero : Lat A (fun _ => 0)
  | add {f : Nat → Int} {r : Rw} (h : Lat A f) (m : r ∈ A) (n : Int) : Lat A (fun i => f i + n * rat r i)
theorem Lat.cg {A : List Rw} {f g : Nat → Int} (h : Lat A f) (e : ∀ i, f i = g i) : Lat A g := by
  have : f = g := funext e
  rw [← this]; exact h
theorem Lat.plus {A : List Rw} {f g : Nat → Int} (hf : Lat A f) (hg : Lat A g) : Lat A (fun i => f i + g i) := by
  induction hg with
  | zero => exact hf.cg fun i => by dsimp only; omega
  | add h m n ih => exact (ih.add m n).cg fun i => by dsimp only; omega
theorem Lat.smul {A : List Rw} {f : Nat → Int} (k : Int) (hf : Lat A f) : Lat A (fun i => k * f i) := by
  induction hf with
  | zero => exact Lat.zero.cg fun i => by simp
  | add h m n ih => exact (ih.add m (k * n)).cg fun i => by dsimp only; rw [Int.mul_add, Int.mul_assoc]
theorem Lat.minus {A : List Rw} {f g : Nat → Int} (hf : Lat A f) (hg : Lat A g) : Lat A (fun i => f i - g i) := (hf.plus (hg.smul (-1))).cg fun i => by omega
theorem Lat.of {A : List Rw} {r : Rw} (m : r ∈ A) : Lat A (rat r) := (Lat.zero.add m 1).cg fun i => by omega
theorem Lat.mono {A B : List Rw} (h : ∀ r ∈ A, Lat B (rat r)) {f : Nat → Int} (hf : Lat A f) : Lat B f := by
  induction hf with
  | zero => exact .zero
  | add hh m n ih => exact ih.plus ((h _ m).smul n)
theorem Lat.nil {f : Nat → Int} (h : Lat [] f) : ∀ i, f i = 0 := by
  cases h with
  | zero => exact fun _ => rfl
  | add h m n => cases m
theorem Lat.cons {a : Rw} {A : List Rw} {f : Nat → Int} (h : Lat (a :: A) f) : ∃ (n : Int) (g : Nat → Int), Lat A g ∧ ∀ i, f i = n * rat a i + g i := by
  induction h with
  | zero => exact ⟨0, _, .zero, fun i => by simp⟩
  | @add f r hh m n ih =>
    obtain ⟨k, g, hg, e⟩ := ih
    rcases List.mem_cons.mp m with rfl | m
    · exact ⟨k + n, g, hg, fun i => by dsimp only; rw [e, Int.add_mul]; omega⟩
    · exact ⟨k, _, hg.add m n, fun i => by dsimp only; rw [e]; omega⟩
/-- the same sums -/
def SmL (A B : List Rw) : Prop := ∀ f, Lat A f ↔ Lat B f
theorem SmL.of {A B : List Rw} (h1 : ∀ r ∈ A, Lat B (rat r)) (h2 : ∀ r ∈ B, Lat A (rat r)) : SmL A B := fun f => ⟨Lat.mono h1, Lat.mono h2⟩
theorem SmL.rfl' (A : List Rw) : SmL A A := fun _ => Iff.rfl
theorem SmL.tr {A B C : List Rw} (h : SmL A B) (g : SmL B C) : SmL A C := fun f => (h f).trans (g f)
theorem SmL.mem {A B : List Rw} (h : ∀ r, r ∈ A ↔ r ∈ B) : SmL A B := .of (fun r m => .of ((h r).mp m)) fun r m => .of ((h r).mpr m)
/-- steps at the columns ps -/
inductive Stair : List Rw → List Nat → Prop where
  | nil : Stair [] []
  | cons {a : Rw} {p : Nat} {A : List Rw} {ps : List Nat} (h : Stair A ps) (lt : ∀ q ∈ ps, p < q) (z : ∀ j, j < p → rat a j = 0) (pos : 0 < rat a p) (zz : ∀ r ∈ A, ∀ j, j ≤ p → rat r j = 0) (red : ∀ x ∈ A.zip ps, 0 ≤ rat a x.2 ∧ rat a x.2 < rat x.1 x.2) : Stair (a :: A) (p :: ps)
theorem Stair.len {A : List Rw} {ps : List Nat} (h : Stair A ps) : A.length = ps.length := by
  induction h with
  | nil => rfl
  | cons h lt z pos zz red ih => simp [ih]
theorem zip_mem {A : List Rw} {ps : List Nat} {x : Rw × Nat} (h : x ∈ A.zip ps) : x.1 ∈ A ∧ x.2 ∈ ps := ⟨(List.of_mem_zip (a := x.1) (b := x.2) h).1, (List.of_mem_zip (a := x.1) (b := x.2) h).2⟩
/-- a row reduced at each step -/
def Rdd (A : List Rw) (ps : List Nat) (r : Rw) : Prop := ∀ x ∈ A.zip ps, 0 ≤ rat r x.2 ∧ rat r x.2 < rat x.1 x.2
end NL
set_option Elab.async false
set_option linter.all false
set_option maxRecDepth 100000
set_option maxHeartbeats 1000000
namespace NL
theorem fm_lt (v : Int) {s : Int} (h : s ≠ 0) : (v.fmod s).natAbs < s.natAbs := by
  rcases Int.lt_or_lt_of_ne h with h | h
  · have e := Int.neg_fmod_neg v s
    have h1 := Int.fmod_nonneg_of_pos (-v) (b := -s) (by omega)
    have h2 := Int.fmod_lt_of_pos (-v) (b := -s) (by omega)
    omega
  · have h1 := Int.fmod_nonneg_of_pos v h
    have h2 := Int.fmod_lt_of_pos v h
    omega
theorem fd_le (v : Int) {s : Int} (h : s ≠ 0) : (v.fdiv s).natAbs * s.natAbs ≤ v.natAbs + s.natAbs := by
  have e := Int.fdiv_mul_add_fmod v s
  have l := fm_lt v h
  rw [← Int.natAbs_mul]
  omega
def Sg (c : Nat) (here : List Rw) : Prop := (∀ r ∈ here, 0 ≤ rat r c) ∨ (∀ r ∈ here, rat r c ≤ 0)
def Phs (c μ t m : Nat) (here : List Rw) : Prop :=
  t = 0 ∨ (∃ j, t ≤ 2 * j + 1 ∧ Sg c here ∧ 2 ^ j * m ≤ 2 ^ μ) ∨ (∃ (j : Nat) (h : Rw) (u : Nat), t ≤ 2 * j + 2 ∧ Sg c here ∧ 2 ^ j * m ≤ 2 ^ μ ∧ 2 ^ (j + 1) * u ≤ 2 ^ μ ∧ ∀ r ∈ here, r = h ∨ (rat r c).natAbs ≤ u) ∨ (t ≤ 2 * μ + 3 ∧ ∃ h, here = [h])
structure EI (N c μ R0 : Nat) (L0 : List Rw) (t : Nat) (rest here : List Rw) : Prop where
  len : ∀ r, r ∈ rest ∨ r ∈ here → r.length = N
  lat : SmL (rest ++ here) L0
  z : ∀ r ∈ rest, rat r c = 0
  nz : ∀ r ∈ here, rat r c ≠ 0
  pre : ∀ r, r ∈ rest ∨ r ∈ here → ∀ i, i < c → rat r i = 0
  ne : ∃ r, r ∈ here
  bd : ∃ m, 1 ≤ m ∧ m < 2 ^ μ ∧ (∀ r ∈ here, (rat r c).natAbs ≤ m) ∧ (∀ r, r ∈ rest ∨ r ∈ here → ∀ i, (rat r i).natAbs * m ≤ 3 ^ t * (R0 * 2 ^ μ)) ∧ Phs c μ t m here
theorem pow_le_of {j μ m : Nat} (h : 2 ^ j * m ≤ 2 ^ μ) (hm : 1 ≤ m) : j ≤ μ := by
  refine (Nat.pow_le_pow_iff_right (a := 2) (by decide)).mp (Nat.le_trans ?_ h)
  exact Nat.le_mul_of_pos_right _ hm
/-- at first -/
theorem EI.start {N c μ R0 : Nat} {rows rest here : List Rw} (len : ∀ r ∈ rows, r.length = N) (pre : ∀ r ∈ rows, ∀ i, i < c → rat r i = 0) (hb : ∀ r ∈ rows, ∀ i, (rat r i).natAbs ≤ R0) (hc : ∀ r ∈ rows, (rat r c).natAbs < 2 ^ μ)
    (h1 : ∀ r, r ∈ rest ↔ r ∈ rows ∧ rat r c = 0) (h2 : ∀ r, r ∈ here ↔ r ∈ rows ∧ rat r c ≠ 0) (ne : ∃ r, r ∈ here) : EI N c μ R0 rows 0 rest here := by
  have sub : ∀ r, r ∈ rest ∨ r ∈ here → r ∈ rows := fun r h => h.elim (fun h => ((h1 r).mp h).1) fun h => ((h2 r).mp h).1
  refine ⟨fun r h => len r (sub r h), .mem fun r => ?_, fun r h => ((h1 r).mp h).2, fun r h => ((h2 r).mp h).2, fun r h => pre r (sub r h), ne, 2 ^ μ - 1, ?_, ?_, ?_, ?_, .inl rfl⟩
  · rw [List.mem_append, h1, h2]
    constructor
    · rintro (h | h) <;> exact h.1
    · intro h
      by_cases hz : rat r c = 0
      · exact .inl ⟨h, hz⟩
      · exact .inr ⟨h, hz⟩
  · obtain ⟨r, hr⟩ := ne
    obtain ⟨a, b⟩ := (h2 r).mp hr
    have := hc r a
    omega
  · exact Nat.sub_lt (Nat.two_pow_pos μ) Nat.one_pos
  · intro r h
    have := hc r ((h2 r).mp h).1
    omega
  · intro r h i
    rw [Nat.pow_zero, Nat.one_mul]
    exact Nat.mul_le_mul (hb r (sub r h) i) (Nat.sub_le _ _)
end NL
set_option Elab.async false
set_option linter.all false
set_option maxRecDepth 100000
set_option maxHeartbeats 1000000
namespace NL
structure ColS (N c B : Nat) (rows : List Rw) (o : Option Rw) (rest : List Rw) : Prop where
  len : ∀ r, r ∈ rest ∨ o = some r → r.length = N
  lat : SmL (rest ++ o.toList) rows
  z : ∀ r ∈ rest, ∀ i, i ≤ c → rat r i = 0
  pos : ∀ s, o = some s → 0 < rat s c ∧ ∀ i, i < c → rat s i = 0
  bd : ∀ r, r ∈ rest ∨ o = some r → ∀ i, (rat r i).natAbs ≤ 2 ^ B
theorem ColS.none {N c B B' : Nat} {rows rest : List Rw} (len : ∀ r ∈ rows, r.length = N) (pre : ∀ r ∈ rows, ∀ i, i < c → rat r i = 0) (hb : ∀ r ∈ rows, ∀ i, (rat r i).natAbs ≤ 2 ^ B) (hB : B ≤ B') (all : ∀ r ∈ rows, rat r c = 0) (h : ∀ r, r ∈ rest ↔ r ∈ rows) : ColS N c B' rows none rest := by
  refine ⟨fun r hr => ?_, ?_, fun r hr i hi => ?_, (fun s h => nomatch h), fun r hr i => ?_⟩
  · rcases hr with hr | hr
    · exact len r ((h r).mp hr)
    · cases hr
  · rw [Option.toList_none, List.append_nil]
    exact .mem h
  · rcases Nat.lt_or_eq_of_le hi with h2 | rfl
    · exact pre r ((h r).mp hr) i h2
    · exact all r ((h r).mp hr)
  · rcases hr with hr | hr
    · exact Nat.le_trans (hb r ((h r).mp hr) i) (Nat.pow_le_pow_right (by decide) hB)
    · cases hr
structure StS (N c B S : Nat) (rows0 steps : List Rw) (ps : List Nat) (rest : List Rw) : Prop where
  st : Stair steps ps
  lt : ∀ p ∈ ps, p < c
  lat : SmL (steps ++ rest) rows0
  ls : ∀ r ∈ steps, r.length = N
  lr : ∀ r ∈ rest, r.length = N
  z : ∀ r ∈ rest, ∀ i, i < c → rat r i = 0
  br : ∀ r ∈ rest, ∀ i, (rat r i).natAbs ≤ 2 ^ B
  bs : ∀ r ∈ steps, ∀ i, (rat r i).natAbs ≤ 2 ^ S
theorem StS.start {N B : Nat} {rows : List Rw} (len : ∀ r ∈ rows, r.length = N) (hb : ∀ r ∈ rows, ∀ i, (rat r i).natAbs ≤ 2 ^ B) : StS N 0 B 0 rows [] [] rows :=
  ⟨.nil, (fun _ h => nomatch h), SmL.rfl' _, (fun _ h => nomatch h), len, fun _ _ i hi => absurd hi (Nat.not_lt_zero i), hb, (fun _ h => nomatch h)⟩
/-- a row reduced by a step at its column -/
def rdR (c : Nat) (s r : Rw) : Rw := lsR r s (rat r c / rat s c)
theorem rdR_at {c : Nat} {s r : Rw} (h : r.length = s.length) (i : Nat) : rat (rdR c s r) i = rat r i - rat r c / rat s c * rat s i := lsR_at h i
theorem rdR_c {c : Nat} {s r : Rw} (h : r.length = s.length) : rat (rdR c s r) c = rat r c % rat s c := by
  rw [rdR_at h, Int.emod_def, Int.mul_comm]
theorem Stair.snoc {c : Nat} {s : Rw} {f : Rw → Rw} {A : List Rw} {ps : List Nat} (h : Stair A ps) (hp : ∀ p ∈ ps, p < c) (hz : ∀ i, i < c → rat s i = 0) (pos : 0 < rat s c) (f1 : ∀ r ∈ A, ∀ j, j < c → rat (f r) j = rat r j) (f2 : ∀ r ∈ A, 0 ≤ rat (f r) c ∧ rat (f r) c < rat s c) : Stair (A.map f ++ [s]) (ps ++ [c]) := by
  induction h with
  | nil => exact .cons .nil (fun _ h => nomatch h) hz pos (fun _ h => nomatch h) fun _ h => nomatch h
  | @cons a p A ps h lt z pos' zz red ih =>
    have pc := hp p (List.mem_cons_self ..)
    have fa := f1 a (List.mem_cons_self ..)
    have ih := ih (fun q m => hp q (List.mem_cons_of_mem _ m)) (fun r m => f1 r (List.mem_cons_of_mem _ m)) (fun r m => f2 r (List.mem_cons_of_mem _ m))
    refine .cons ih (fun q m => ?_) (fun j hj => ?_) ?_ (fun r m j hj => ?_) fun x hx => ?_
    · rcases List.mem_append.mp m with m | m
      · exact lt q m
      · rw [List.mem_singleton.mp m]; exact pc
    · rw [fa j (by omega), z j hj]
    · rw [fa p pc]; exact pos'
    · rcases List.mem_append.mp m with m | m
      · obtain ⟨r0, m0, rfl⟩ := List.mem_map.mp m
        rw [f1 r0 (List.mem_cons_of_mem _ m0) j (by omega), zz r0 m0 j hj]
      · rw [List.mem_singleton.mp m]; exact hz j (by omega)
    · have hx : x ∈ (A.map f ++ [s]).zip (ps ++ [c]) := hx
      rw [List.zip_append (by rw [List.length_map, h.len])] at hx
      rcases List.mem_append.mp hx with hx | hx
      · rw [List.zip_map_left] at hx
        obtain ⟨⟨r0, q⟩, m0, rfl⟩ := List.mem_map.mp hx
        have qc := hp q (List.mem_cons_of_mem _ (zip_mem m0).2)
        have := red _ m0
        show 0 ≤ rat (f a) q ∧ rat (f a) q < rat (f r0) q
        rw [fa q qc, f1 r0 (List.mem_cons_of_mem _ (zip_mem m0).1) q qc]
        exact this
      · rw [List.zip_cons_cons, List.zip_nil_left, List.mem_singleton] at hx
        subst hx
        exact f2 a (List.mem_cons_self ..)
theorem rd_big {c S B : Nat} {s r : Rw} (h : r.length = s.length) (pos : 0 < rat s c) (hr : ∀ i, (rat r i).natAbs ≤ 2 ^ S) (hs : ∀ i, (rat s i).natAbs ≤ 2 ^ B) (i : Nat) : (rat (rdR c s r) i).natAbs ≤ 2 ^ (S + B + 2) := by
  rw [rdR_at h]
  have q := fd_le (rat r c) (s := rat s c) (by omega)
  rw [Int.fdiv_eq_ediv_of_nonneg _ (by omega)] at q
  generalize rat r c / rat s c = k at q ⊢
  have h1 : k.natAbs ≤ 2 ^ S + 1 := by
    have a := hr c
    have p1 : 1 ≤ (rat s c).natAbs := by omega
    by_cases hk : k.natAbs ≤ 1
    · have := Nat.two_pow_pos S; omega
    · have : (k.natAbs - 1) * (rat s c).natAbs ≤ (rat r c).natAbs := by rw [Nat.sub_mul, Nat.one_mul]; omega
      have : k.natAbs - 1 ≤ (k.natAbs - 1) * (rat s c).natAbs := Nat.le_mul_of_pos_right _ p1
      omega
  have h2 : (rat r i - k * rat s i).natAbs ≤ (rat r i).natAbs + k.natAbs * (rat s i).natAbs := by
    rw [← Int.natAbs_mul]; omega
  have h3 := Nat.mul_le_mul h1 (hs i)
  have h4 := hr i
  have e : 2 ^ (S + B + 2) = 4 * (2 ^ S * 2 ^ B) := by rw [Nat.pow_add, Nat.pow_add, Nat.mul_comm]
  have e1 : (2 ^ S + 1) * 2 ^ B = 2 ^ S * 2 ^ B + 2 ^ B := by rw [Nat.add_mul, Nat.one_mul]
  have p1 : 2 ^ S ≤ 2 ^ S * 2 ^ B := Nat.le_mul_of_pos_right _ (Nat.two_pow_pos B)
  have p2 : 2 ^ B ≤ 2 ^ S * 2 ^ B := Nat.le_mul_of_pos_left _ (Nat.two_pow_pos S)
  omega
theorem StS.next {N c B B' S : Nat} {rows0 steps rest rest' : List Rw} {ps : List Nat} {s : Rw} (h : StS N c B S rows0 steps ps rest) (k : ColS N c B' rest (some s) rest') : StS N (c + 1) B' (S + B' + 2) rows0 (steps.map (rdR c s) ++ [s]) (ps ++ [c]) rest' := by
  obtain ⟨pos, sz⟩ := k.pos s rfl
  have sl := k.len s (.inr rfl)
  have ll : ∀ r ∈ steps, r.length = s.length := fun r m => by rw [h.ls r m, sl]
  refine ⟨h.st.snoc h.lt sz pos (fun r m j hj => ?_) (fun r m => ?_), fun p m => ?_, ?_, fun r m => ?_, fun r m => k.len r (.inl m), fun r m i hi => k.z r m i (by omega), fun r m i => k.bd r (.inl m) i, fun r m i => ?_⟩
  · rw [rdR_at (ll r m), sz j hj]; simp
  · rw [rdR_c (ll r m)]
    exact ⟨Int.emod_nonneg _ (by omega), Int.emod_lt_of_pos _ pos⟩
  · rcases List.mem_append.mp m with m | m
    · have := h.lt p m; omega
    · rw [List.mem_singleton.mp m]; omega
  · refine SmL.tr (.of (fun r m => ?_) fun r m => ?_) h.lat
    · have lr : ∀ f, Lat (rest' ++ [s]) f → Lat (steps ++ rest) f := fun f hf => ((k.lat f).mp hf).mono fun r m => .of (List.mem_append_right _ m)
      have l1 : Lat (steps ++ rest) (rat s) := lr _ (.of (List.mem_append_right _ (List.mem_singleton.mpr rfl)))
      rcases List.mem_append.mp m with m | m
      · rcases List.mem_append.mp m with m | m
        · obtain ⟨r0, m0, rfl⟩ := List.mem_map.mp m
          exact ((Lat.of (List.mem_append_left _ m0)).minus (l1.smul (rat r0 c / rat s c))).cg fun i => by rw [rdR_at (ll r0 m0)]
        · rw [List.mem_singleton.mp m]; exact l1
      · exact lr _ (.of (List.mem_append_left _ m))
    · have l1 : Lat (steps.map (rdR c s) ++ [s] ++ rest') (rat s) := .of (List.mem_append_left _ (List.mem_append_right _ (List.mem_singleton.mpr rfl)))
      rcases List.mem_append.mp m with m | m
      · have l2 : Lat (steps.map (rdR c s) ++ [s] ++ rest') (rat (rdR c s r)) := .of (List.mem_append_left _ (List.mem_append_left _ (List.mem_map.mpr ⟨r, m, rfl⟩)))
        exact (l2.plus (l1.smul (rat r c / rat s c))).cg fun i => by rw [rdR_at (ll r m)]; omega
      · exact ((k.lat _).mpr (Lat.of m)).mono fun x mx => by
          rcases List.mem_append.mp mx with mx | mx
          · exact .of (List.mem_append_right _ mx)
          · rw [List.mem_singleton.mp mx]; exact l1
  · rcases List.mem_append.mp m with m | m
    · obtain ⟨r0, m0, rfl⟩ := List.mem_map.mp m
      rw [rdR, lsR_len (ll r0 m0)]; exact h.ls r0 m0
    · rw [List.mem_singleton.mp m]; exact sl
  · rcases List.mem_append.mp m with m | m
    · obtain ⟨r0, m0, rfl⟩ := List.mem_map.mp m
      exact rd_big (ll r0 m0) pos (h.bs r0 m0) (k.bd s (.inr rfl)) i
    · rw [List.mem_singleton.mp m]
      exact Nat.le_trans (k.bd s (.inr rfl) i) (Nat.pow_le_pow_right (by decide) (by omega))
theorem Stair.take {A : List Rw} {ps : List Nat} (h : Stair A ps) {i : Nat} (hi : i < A.length) : ∃ s p, A[i]? = some s ∧ ps[i]? = some p ∧ 0 < rat s p ∧ (∀ j, j < p → rat s j = 0) ∧ ∀ x ∈ (A.take i).zip (ps.take i), x.2 < p := by
  induction h generalizing i with
  | nil => simp at hi
  | @cons a p A ps h lt z pos zz red ih =>
    cases i with
    | zero => exact ⟨a, p, rfl, rfl, pos, z, fun x hx => by simp at hx⟩
    | succ i =>
      obtain ⟨s, q, h1, h2, h3, h4, h5⟩ := ih (i := i) (by simpa using hi)
      refine ⟨s, q, by simpa using h1, by simpa using h2, h3, h4, fun x hx => ?_⟩
      rw [List.take_succ_cons, List.take_succ_cons, List.zip_cons_cons] at hx
      rcases List.mem_cons.mp hx with rfl | hx
      · exact lt q (List.mem_of_getElem? h2)
      · exact h5 x hx
/-- brought down so far -/
structure Low (N b S i : Nat) (A : List Rw) (ps : List Nat) (r0 r : Rw) : Prop where
  len : r.length = N
  red : Rdd (A.take i) (ps.take i) r
  lat : Lat A (fun j => rat r0 j - rat r j)
  bd : ∀ j, (rat r j).natAbs ≤ 2 ^ (b + i * (S + 2))
theorem Low.start {N b S : Nat} {A : List Rw} {ps : List Nat} {r : Rw} (hl : r.length = N) (hb : ∀ j, (rat r j).natAbs ≤ 2 ^ b) : Low N b S 0 A ps r r :=
  ⟨hl, fun x hx => by simp at hx, Lat.zero.cg fun j => by omega, fun j => by simpa using hb j⟩
theorem take_zip_succ {A : List Rw} {ps : List Nat} {i : Nat} {s : Rw} {p : Nat} (h1 : A[i]? = some s) (h2 : ps[i]? = some p) : (A.take (i + 1)).zip (ps.take (i + 1)) = (A.take i).zip (ps.take i) ++ [(s, p)] := by
  obtain ⟨l1, e1⟩ := List.getElem?_eq_some_iff.mp h1
  obtain ⟨l2, e2⟩ := List.getElem?_eq_some_iff.mp h2
  rw [List.take_succ_eq_append_getElem l1, List.take_succ_eq_append_getElem l2, List.zip_append (by simp; omega), e1, e2]
  rfl
theorem Low.keep {N b S i : Nat} {A : List Rw} {ps : List Nat} {r0 r s : Rw} {p : Nat} (h : Low N b S i A ps r0 r) (h1 : A[i]? = some s) (h2 : ps[i]? = some p) (hr : 0 ≤ rat r p ∧ rat r p < rat s p) : Low N b S (i + 1) A ps r0 r := by
  refine ⟨h.len, fun x hx => ?_, h.lat, fun j => Nat.le_trans (h.bd j) (Nat.pow_le_pow_right (by decide) (Nat.add_le_add_left (Nat.mul_le_mul_right _ (Nat.le_succ i)) _))⟩
  rw [take_zip_succ h1 h2] at hx
  rcases List.mem_append.mp hx with hx | hx
  · exact h.red x hx
  · rw [List.mem_singleton.mp hx]; exact hr
theorem Low.all {N b S i : Nat} {A : List Rw} {ps : List Nat} {r0 r : Rw} (h : Low N b S i A ps r0 r) (hi : A.length ≤ i) (hp : ps.length ≤ i) : Rdd A ps r := by
  have := h.red
  rwa [List.take_of_length_le hi, List.take_of_length_le hp] at this
end NL
set_option Elab.async false
set_option linter.all false
set_option maxRecDepth 100000
set_option maxHeartbeats 2000000
namespace NL
open PySem PySem.Spec L2
open PyProof.Rows hiding St
theorem EI.lt {N c μ R0 t : Nat} {L0 rest here : List Rw} (e : EI N c μ R0 L0 t rest here) (h : 1 < here.length) : t < 2 * μ + 3 := by
  obtain ⟨m, m1, _, _, _, ph⟩ := e.bd
  rcases ph with h | ⟨j, h, _, g⟩ | ⟨j, _, _, h, _, g, _⟩ | ⟨_, h0, heq⟩
  · omega
  · have := pow_le_of g m1; omega
  · have := pow_le_of g m1; omega
  · rw [heq] at h; simp at h
theorem zip_snoc {f : Rw → Rw} {A : List Rw} {ps : List Nat} {s : Rw} {c : Nat} (h : A.length = ps.length) {x : Rw × Nat} (hx : x ∈ (A.map f ++ [s]).zip (ps ++ [c])) : (∃ y ∈ A.zip ps, x = (f y.1, y.2)) ∨ x = (s, c) := by
  rw [List.zip_append (by rw [List.length_map, h])] at hx
  rcases List.mem_append.mp hx with hx | hx
  · rw [List.zip_map_left] at hx
    obtain ⟨y, m0, rfl⟩ := List.mem_map.mp hx
    exact .inl ⟨y, m0, rfl⟩
  · exact .inr (List.mem_singleton.mp hx)
/-- the columns' integers are not too great -/
def Piv (V : Nat) (A : List Rw) (ps : List Nat) : Prop := ∀ x ∈ A.zip ps, (rat x.1 x.2).natAbs ≤ 2 ^ V
theorem Piv.next {N c B B' S V : Nat} {rows0 steps rest rest' : List Rw} {ps : List Nat} {s : Rw} (p : Piv V steps ps) (h : StS N c B S rows0 steps ps rest) (k : ColS N c B' rest (some s) rest') (hs : (rat s c).natAbs ≤ 2 ^ V) : Piv V (steps.map (rdR c s) ++ [s]) (ps ++ [c]) := fun x hx => by
  rcases zip_snoc h.st.len hx with ⟨y, hy, rfl⟩ | rfl
  · obtain ⟨pos, sz⟩ := k.pos s rfl
    have sl := k.len s (.inr rfl)
    obtain ⟨m1, m2⟩ := zip_mem hy
    show (rat (rdR c s y.1) y.2).natAbs ≤ _
    rw [rdR_at (by rw [h.ls _ m1, sl]), sz _ (h.lt _ m2)]
    simpa using p y hy
  · exact hs
end NL
set_option Elab.async false
set_option linter.all false
set_option maxRecDepth 100000
set_option maxHeartbeats 2000000
namespace NL
open PySem PySem.Spec L2
open PyProof.Rows hiding St
end NL
set_option Elab.async false
set_option linter.all false
set_option maxRecDepth 100000
set_option maxHeartbeats 2000000
namespace NL
open PySem PySem.Spec L2
open PyProof.Rows hiding St
end NL
set_option Elab.async false
set_option linter.all false
set_option maxRecDepth 100000
set_option maxHeartbeats 4000000
namespace NL
open PySem PySem.Spec L2
open PyProof.Rows hiding St
abbrev TM := Value × Nat × (Addr → Value → Option Addr → TS)
inductive HdM (X : Cx) : List ExceptHandler → List TM → Prop
  | nil : HdM X [] []
  | cons {x n : Str} {i : Nat} {c : Value} {np pp : Pos} {b0 : Stmt} {sb : List Stmt} {ts : Addr → Value → Option Addr → TS} {hds : List ExceptHandler} {l : List TM} (hc : Names X x c) (hi : X.N[i]? = some n) (hl : X.env.kindOf n = some .local)
      (su : ∀ (a : Addr) (oe : Obj) (k : Value) (d : Option Addr) (pn : List (Addr × Obj)), Zc k d oe → (∃ vs, oe.data = .fields vs) → PSs (X.suite a ((a, oe) :: pn)) (b0 :: sb) (ts a k d)) (r : HdM X hds l) :
      HdM X (.ExceptHandler (some (.Name x np)) (some n) (b0 :: sb) pp :: hds) ((c, i, ts) :: l)
section
variable {X : Cx} {G : Gh} {ρ : List SV} {M : MM} {P : Post} {pos : Pos}
/-- the clauses: class, slot of the name, suite -/
inductive Clm (X : Cx) : List ExceptHandler → List (Value × Nat × List Stmt) → Prop where
  | nil : Clm X [] []
  | cons {x n : Str} {i : Nat} {c : Value} {np pp : Pos} {b0 : Stmt} {sb : List Stmt} {hds : List ExceptHandler} {l : List (Value × Nat × List Stmt)} (hc : Names X x c) (hi : X.N[i]? = some n) (hl : X.env.kindOf n = some .local) (r : Clm X hds l) : Clm X (.ExceptHandler (some (.Name x np)) (some n) (b0 :: sb) pp :: hds) ((c, i, b0 :: sb) :: l)
theorem Clm.hd : ∀ {hds : List ExceptHandler} {l : List (Value × Nat × List Stmt)}, Clm X hds l → HdM X hds (l.map fun q => (q.1, q.2.1, tsB X q.2.2))
  | _, _, .nil => .nil
  | _, _, .cons hc hi hl r => .cons hc hi hl (fun a oe k d pn z v => ⟨fun pins s σ H D I h => (h oe pn z v).run pins s I⟩) r.hd
end
end NL
set_option Elab.async false
set_option linter.all false
set_option maxRecDepth 100000
set_option maxHeartbeats 2000000
namespace NL
open PySem PySem.Spec PySem.W L2
open PyProof.Rows hiding St
end NL
set_option Elab.async false
set_option linter.all false
set_option maxRecDepth 100000
set_option maxHeartbeats 2000000
namespace NL
open PySem PySem.Spec PySem.W L2
open PyProof.Rows hiding St
end NL
set_option Elab.async false
set_option linter.all false
set_option maxRecDepth 100000
set_option maxHeartbeats 4000000
namespace K00
open PySem PySem.Spec L2 NL
open PyProof.Rows hiding St
section
variable {P : Program} {w : World} {K : PySem.W.Frag} {mg : Str → Option Value} {base : Heap} {T : Txt K mg}
def W_raise (E : Tx K mg T) : WpN := fun ds M R RE => ∃ (i : Nat) (th : D), i < 9 ∧ ds = [.d (.int (i : Nat)), .d th] ∧ ∀ C, E.cls[i]? = some C → RE C (atD i th) M
theorem ok_raise (E : Tx K mg T) : FnG P w K mg base (L2N.CX P w) 3 T.raise.f T.raise.fd A_raise (spXN K 2 (W_raise E)) := by
  refine fn_okXN T.raise.F sc_raise fun cdv A outer s H Ez G ds M R RE TW hr hl hW fx tk => ?_
  obtain ⟨i, th, hi, rfl, hq⟩ := hW
  have hx : ∀ (j : Nat) (C : Addr), decide ((i : Int) = (j : Nat)) = true → j < 8 → E.cls[j]? = some C → ∃ M', MLe M' M ∧ RE C (some th) M' := fun j C h hj hC => by
    have e : i = j := by have := of_decide_eq_true h; omega
    subst e
    have := hq C hC
    rw [atD, if_pos hj] at this
    exact ⟨M, MLe.rfl' M, this⟩
  refine b_cons (s_if (k := decide ((i : Int) = 0)) (tcmp (v 0) e_int eq_i) (fun h => b_one (s_raiseN E.EB.toExcD (ok_xB E.EB.toExcD) hr tk fx (a_cons (v 1) a_nil) (hx 0 _ h (by decide) rfl))) fun h0 => b_nil ?_)
  refine b_cons (s_if (k := decide ((i : Int) = 1)) (tcmp (v 0) e_int eq_i) (fun h => b_one (s_raiseN E.EC.toExcD (ok_xC E.EC.toExcD) hr tk fx (a_cons (v 1) a_nil) (hx 1 _ h (by decide) rfl))) fun h1 => b_nil ?_)
  refine b_cons (s_if (k := decide ((i : Int) = 2)) (tcmp (v 0) e_int eq_i) (fun h => b_one (s_raiseN E.ER.toExcD (ok_xR E.ER.toExcD) hr tk fx (a_cons (v 1) a_nil) (hx 2 _ h (by decide) rfl))) fun h2 => b_nil ?_)
  refine b_cons (s_if (k := decide ((i : Int) = 3)) (tcmp (v 0) e_int eq_i) (fun h => b_one (s_raiseN E.EG.toExcD (ok_xG E.EG.toExcD) hr tk fx (a_cons (v 1) a_nil) (hx 3 _ h (by decide) rfl))) fun h3 => b_nil ?_)
  refine b_cons (s_if (k := decide ((i : Int) = 4)) (tcmp (v 0) e_int eq_i) (fun h => b_one (s_raiseN E.EQ.toExcD (ok_xQ E.EQ.toExcD) hr tk fx (a_cons (v 1) a_nil) (hx 4 _ h (by decide) rfl))) fun h4 => b_nil ?_)
  refine b_cons (s_if (k := decide ((i : Int) = 5)) (tcmp (v 0) e_int eq_i) (fun h => b_one (s_raiseN E.ET.toExcD (ok_xT E.ET.toExcD) hr tk fx (a_cons (v 1) a_nil) (hx 5 _ h (by decide) rfl))) fun h5 => b_nil ?_)
  refine b_cons (s_if (k := decide ((i : Int) = 6)) (tcmp (v 0) e_int eq_i) (fun h => b_one (s_raiseN E.ES.toExcD (ok_xS E.ES.toExcD) hr tk fx (a_cons (v 1) a_nil) (hx 6 _ h (by decide) rfl))) fun h6 => b_nil ?_)
  refine b_cons (s_if (k := decide ((i : Int) = 7)) (tcmp (v 0) e_int eq_i) (fun h => b_one (s_raiseN E.EF.toExcD (ok_xF E.EF.toExcD) hr tk fx (a_cons (v 1) a_nil) (hx 7 _ h (by decide) rfl))) fun h7 => b_nil ?_)
  have e8 : i = 8 := by
    have h0 := of_decide_eq_false h0; have h1 := of_decide_eq_false h1; have h2 := of_decide_eq_false h2; have h3 := of_decide_eq_false h3
    have h4 := of_decide_eq_false h4; have h5 := of_decide_eq_false h5; have h6 := of_decide_eq_false h6; have h7 := of_decide_eq_false h7
    omega
  subst e8
  exact b_one (s_raise0 E.EO tk fx ⟨M, MLe.rfl' M, hq E.EO.C rfl⟩)
end
end K00
set_option Elab.async false
set_option linter.all false
set_option maxRecDepth 100000
set_option maxHeartbeats 4000000
namespace NL
open PySem PySem.Spec L2
open PyProof.Rows hiding St
def FldV (K : PySem.W.Frag) (S : Hp) : List (Str × SV) → List (Str × V) → Prop
  | [], vs => vs = []
  | (n, d) :: fs, vs => ∃ v r, vs = (n, v) :: r ∧ Rel K S d v ∧ FldV K S fs r
section
variable {K : PySem.W.Frag} {S S' : Hp}
theorem FldV.mono (e : Sub S S') : ∀ {fs : List (Str × SV)} {vs : List (Str × V)}, FldV K S fs vs → FldV K S' fs vs
  | [], _, h => h
  | (_, d) :: _, _, ⟨v, r, h1, h2, h3⟩ => ⟨v, r, h1, h2.mono e, FldV.mono e h3⟩
theorem FldV.no {f : Str} : ∀ {fs : List (Str × SV)} {vs : List (Str × V)}, FldV K S fs vs → fs.lookup f = none → vs.lookup f = none
  | [], _, h, _ => by
    have h' : _ = [] := h
    subst h'; rfl
  | (n, x) :: fs, _, ⟨v, r, h1, h2, h3⟩, e => by
    subst h1
    by_cases h : f = n
    · subst h
      simp [List.lookup] at e
    · have q : (f == n) = false := by simpa using h
      simp only [List.lookup, q] at e ⊢
      exact FldV.no h3 e
theorem FldV.len : ∀ {fs : List (Str × SV)} {vs : List (Str × V)}, FldV K S fs vs → vs.length = fs.length
  | [], _, h => by
    have h' : _ = [] := h
    subst h'; rfl
  | _ :: _, _, ⟨_, _, h1, _, h3⟩ => by subst h1; rw [List.length_cons, List.length_cons, h3.len]
end
abbrev NK := Nat × List Int
def nkey (k : NK) : NestedKey := .tup [.num (k.1 : Nat), .tup (k.2.map NestedKey.num)]
/-- the tuple at a is the key k -/
def NAt (H : Hp) (k : NK) (a : Addr) : Prop := ∃ c, H a = some (.tup [.int (k.1 : Nat), .ref c]) ∧ H c = some (.tup (k.2.map V.int))
theorem NAt.mono {S S' : Hp} (e : Sub S S') {k : NK} {a : Addr} (h : NAt S k a) : NAt S' k a := let ⟨c, h1, h2⟩ := h; ⟨c, e _ _ h1, e _ _ h2⟩
theorem nums_at {h : Heap} : ∀ {t : List Int} {us : List Value}, Vals (t.map V.int) us → NestedAll h (t.map NestedKey.num) us
  | [], _, .nil => .nil
  | n :: t, _, .cons r q => by
    obtain ⟨tk, rfl⟩ := r
    exact .cons (.int n tk) (nums_at q)
theorem nums_depth : ∀ t : List Int, NestedKey.depthAll (t.map NestedKey.num) = 0
  | [] => rfl
  | _ :: t => by simp [NestedKey.depthAll, NestedKey.depth, nums_depth t]
section
variable {X : Cx} {pins : List (Addr × Obj)} {σ : L2.St} {H : Hp} {s : Shared} {a q : Addr} {k : NK} {ks : List (NK × Addr)}
theorem NAt.is (I : Inv X pins σ H s) (h : NAt H k a) : (nestedKind X.prog X.w).is s.heap (nkey k) a := by
  obtain ⟨c, h1, h2⟩ := h
  obtain ⟨_, its1, r1, o1, ho1, hc1, n1, hd1⟩ := (show ObjOk X.prog X.w H s.heap a (.tup _) from I.hok a _ h1)
  obtain ⟨_, its2, r2, o2, ho2, hc2, n2, hd2⟩ := (show ObjOk X.prog X.w H s.heap c (.tup _) from I.hok c _ h2)
  refine ⟨.tup ho1 hc1 hd1 ?_, ?_⟩
  · cases r1 with
    | cons q1 r1 =>
      cases r1 with
      | cons q2 r1 =>
        cases r1
        obtain ⟨tk, rfl⟩ := q1
        cases q2
        exact .cons (.int _ tk) (.cons (.tup ho2 hc2 hd2 (nums_at r2)) .nil)
  · simp [nkey, NestedKey.depth, NestedKey.depthAll, nums_depth]
end
end NL
set_option Elab.async false
set_option linter.all false
set_option maxRecDepth 100000
set_option maxHeartbeats 4000000
namespace NL
open PySem PySem.Spec L2
open PyProof.Rows hiding St
end NL
set_option Elab.async false
set_option linter.all false
set_option maxRecDepth 100000
set_option maxHeartbeats 4000000
namespace NL
open PySem PySem.Spec L2
open PyProof.Rows hiding St
end NL
set_option Elab.async false
set_option linter.all false
set_option maxRecDepth 100000
set_option maxHeartbeats 4000000
namespace NL
open PySem PySem.Spec L2
open PyProof.Rows hiding St
end NL
set_option Elab.async false
set_option linter.all false
set_option maxRecDepth 100000
set_option maxHeartbeats 4000000
namespace NL
open PySem PySem.Spec L2
open PyProof.Rows hiding St
end NL
set_option Elab.async false
set_option linter.all false
set_option maxRecDepth 100000
set_option maxHeartbeats 4000000
namespace NL
open PySem PySem.Spec L2
open PyProof.Rows hiding St
end NL
set_option Elab.async false
set_option linter.all false
set_option maxRecDepth 100000
set_option maxHeartbeats 4000000
namespace NL
open PySem PySem.Spec PySem.W L2
open PyProof.Rows hiding St
end NL
set_option Elab.async false
set_option linter.all false
set_option maxRecDepth 100000
set_option maxHeartbeats 4000000
namespace NL
open PySem PySem.Spec PySem.W L2
open PyProof.Rows hiding St
section
variable {X : Cx} {G : Gh} {ρ : List SV} {M M1 M2 : MM} {pos apos p1 p2 : Pos} {e o tg : Expr} {x y z : SV}
theorem c_strI {i : Int} (h : i.natAbs.log2 < 1920) : JC X G (.type "str") M [.d (.int i)] (.d (.str (toString i))) M := ⟨_, call_str_int, fun S H σ ρ us st r Q q => by
  obtain ⟨v, r', rfl, hv, rfl⟩ := r
  obtain rfl : v = .int i := hv
  exact ⟨i, rfl, h, q _ S H (Sub.rfl' S) st rfl⟩⟩
end
end NL
set_option Elab.async false
set_option linter.all false
set_option maxRecDepth 100000
set_option maxHeartbeats 4000000
namespace K00
open PySem PySem.Spec L2 NL
open PyProof.Rows hiding St
def Thing (th : D) : Prop := (∃ n : Int, n.natAbs < 10 ^ 18 ∧ th = .int n) ∨ (∃ x : Str, (reprText x).length ≤ sizeLine ∧ th = .str x) ∨ th = .none ∨ (∃ n : Int, n.natAbs < 10 ^ 18 ∧ th = .tuple [.int n, .str "a"]) ∨ ∃ n : Int, n.natAbs < 10 ^ 18 ∧ th = .list [.int n]
theorem thing_repr {th : D} (h : Thing th) : ∃ t : Str, ∀ {X : Cx} {G : Gh} {M : MM}, X.A.guards = some [] → X.A.units + 64 < cLine → JC X G (.builtin "repr") M [.d th] (.d (.str t)) M := by
  rcases h with ⟨n, hn, rfl⟩ | ⟨x, hx, rfl⟩ | rfl | ⟨n, hn, rfl⟩ | ⟨n, hn, rfl⟩
  · exact ⟨_, fun _ _ => c_reprN (log_lt hn)⟩
  · exact ⟨_, fun _ _ => c_reprS hx⟩
  · exact ⟨_, fun _ _ => c_repr0⟩
  · refine ⟨(PyData.tuple [.int n, .str "a"]).shown, fun gd hu => ⟨_, cr_repr gd hu, fun S H σ ρ us st r Q q => ?_⟩⟩
    obtain ⟨v, r', rfl, hv, rfl⟩ := r
    have hd : Dp _ H v (.tuple [.int n, .str "a"]) := Rp.dp rfl (Rp.mono st.hst.sub _ _ hv)
    obtain ⟨a, _, rfl, _, _⟩ := hv
    have h1 := int_text_length_le10 (k := 18) (by decide) hn
    have h2 := log_lt hn
    have e2 : ((toString n : String) : Str).length = (toString n).length := PySem.ofString_length _
    have ea : (reprText (Str.ofString "a")).length = 3 := by decide +kernel
    refine ⟨a, _, rfl, hd, ?_, rfl, ?_, Nat.le_of_ble_eq_true rfl, q _ S H (Sub.rfl' S) st rfl⟩
    · simp only [PyData.showable, PyData.showableAll, decide_eq_true h2, Bool.and_self, Bool.and_true]
    · have := tupleText_len_le (PyData.shownAll [.int n, .str "a"])
      rw [shownAll_len] at this
      simp only [PyData.shown, PyData.shownAll, List.map_cons, List.map_nil, List.sum_cons, List.sum_nil, List.length_cons, List.length_nil] at this ⊢
      rw [sizeLine_eq]
      rw [ea] at this
      have e3 : (Str.ofString (toString n)).length = (toString n).length := e2
      rw [e3] at this
      omega
  · exact ⟨_, fun gd hu => c_repr gd hu ((ok_lI [n]).mono (by decide)) (by simp [tame, tameA, hn]) (by simp [nodes, nodesA]) rfl⟩
theorem marks_same (i : Nat) : (!PyData.eqv (.list (marksD i)) (.list (marksD i))) = false := by
  simp [marksD, PyData.eqv, PyData.eqvAll, List.range_succ]
theorem fine_marks (i : Nat) : fine (.list (marksD i)) = true := rfl
theorem takesN0 {X : Cx} : L2N.Takes X (fun _ _ _ _ => False) := fun _ _ x => by
  obtain ⟨_, _, _, _, _, _, _, _, _, _, _, _, _, _, _, _, z⟩ := x
  exact z.elim
section
variable {P : Program} {w : World} {K : PySem.W.Frag} {mg : Str → Option Value} {base : Heap} {T : Txt K mg}
def W_heard : Wp := fun ds M R => ∃ (i : Nat) (th : D), i < 9 ∧ Thing th ∧ ds = [.d (.int (i : Nat)), .d th] ∧ R (.d (.bool true)) M
theorem ok_heard (E : Tx K mg T) : FnG P w K mg base CX0 6 T.heard.f T.heard.fd A_heard (spN K 2 W_heard) := by
  refine fn_ok T.heard.F sc_heard fun cdv A outer s0 H Ez G ds M R hr hl hW => ?_
  obtain ⟨i, th, hi, hth, rfl, hR⟩ := hW
  refine b_cons (s_tryN (x := "LeftError") (n := "_law_e") (c := .ref E.cL) (EX := fun C d ρ' M' => E.cls[i]? = some C ∧ d = atD i th ∧ M' = M ∧ ρ' = rho0 N_heard [.d (.int (i : Nat)), .d th]) (Wout := fun _ _ _ _ => False) 2 ⟨rfl, by decide, .inl E.gL⟩ takesN0 (fun pn xe W tk po fx => ?_) (fun C d ρ' M' z => ?_) sc_heard.nd)
  · exact b_one (s_dropN (n_callXZ (Φ := fun _ _ => False) T.raise (ok_raise E) (hr.mono (by decide)) tk fx (a_cons (v 0) (a_cons (v 1) a_nil)) ⟨i, th, hi, rfl, fun C hC => ⟨hC, rfl, rfl, rfl⟩⟩) fun _ _ z => z.elim)
  · obtain ⟨hC, rfl, rfl, rfl⟩ := z
    have hmem : C ∈ E.cls := List.mem_of_getElem? hC
    refine ⟨E.exm C hmem, fun a dd oe pn hd hz hf => ?_⟩
    have kd := E.kd hC hd
    have hot : L2H.Hot1 (A.deeper (envOfC "_law_heard" (defScope s_heard) s0.heap.objs.size T.heard.f cdv) |>.mark (some (.ref a))) (a, oe) := by
      obtain ⟨vs, hv⟩ := hf
      exact ⟨rfl, vs, hv, hz.2.2 vs hv⟩
    have hmm : (a, oe) ∈ (a, oe) :: pn := List.mem_cons_self
    have hu := hr.units
    have rh : L2H.RoomH 1 (A.deeper (envOfC "_law_heard" (defScope s_heard) s0.heap.objs.size T.heard.f cdv) |>.mark (some (.ref a))) := L2H.roomH_mark (hr.mono (j := 1) (by decide)).room _
    refine b_cons (s_if (k := false) (t_ofW (w_or (k := false) (k2 := false) ((tcmp (e_ofN (n_callHZ (n := 1) (Z := (· = (a, oe))) (W := W_marks a dd (atD i th) i) (Φ := fun d' M1 => d' = .d (.list (marksD i)) ∧ M1 = M') T.marks (ok_marks (a := a) E hC kd hz.zc hf) rh hot rfl hmm (a_cons (v 2 (hd := xsv_ne)) a_nil) ⟨rfl, rfl, rfl⟩) fun _ _ z => z)
      (e_ofL' (xs := marksD i) (l_lcHot (n := 9) ⟨(a, oe), hot, hmm⟩ (own := [("_law_spot", 3)]) (fun _ => M') (fun j => some (.d (.bool (decide (i = j))))) (a_cons e_int a_nil) (by decide) (bk sc_heard (by decide +kernel)) sc_heard.nd (fun j dj hj => ?_) T.z_range) ?_) (ne_d hu (fine_marks i) (fine_marks i))).is (k' := false) (marks_same i))
      (fun _ => w_or1 ((t_not (t_val (k := true) (callB (a_cons (v 2 (hd := xsv_ne)) (a_cons (e_ty T.z_ValueError) a_nil)) (is_ok hmm kd hz.zc hf (E.kitV C hmem) fun u r => r) T.z_isinstance))).is (k' := false) rfl)) fun z => nomatch z)) (fun z => nomatch z) fun _ => b_nil ?_)
    · obtain ⟨hj', rfl⟩ : j < 9 ∧ dj = .d (.int (j : Nat)) := by
        have h9 : (rgD 0 9).length = 9 := rfl
        have hlt : j < 9 := by have := (List.getElem?_eq_some_iff.mp hj).1; omega
        refine ⟨hlt, ?_⟩
        simp [rgD, hlt] at hj
        exact hj.symm
      refine ⟨true, _, _, M', ?_, fun s H C cl fp => gn 3 sc_heard.nd, fun s H C cl fp G => ts_nil, fun _ => ⟨_, rfl, fun s H C cl fp G => (cmp (v 3) (v 0) eq_i).is (by rw [show decide ((j : Int) = (i : Int)) = decide (i = j) from decide_eq_decide.mpr (by omega)])⟩, fun z => nomatch z⟩
      decide
    · rfl
    obtain ⟨t, ht⟩ := thing_repr hth
    rcases kd with ⟨x, y, rfl, ey, xf, is, no⟩ | ⟨rfl, ed, oc⟩
    · have hi8 : i < 8 := by
        by_cases h : i < 8
        · exact h
        · rw [atD, if_neg h] at ey; cases ey
      have ey' : atD i th = some th := if_pos hi8
      rw [ey'] at ey ⊢
      cases ey
      exact b_one (ret (d := .d (.bool (false || true))) (e_or (k := false) (k2 := true) ((cmp (v 0) e_int gt_i).is (by congr 2; exact decide_eq_false (by omega))) (fun _ => e_one ((cmp (callB (a_cons (e_at xf no hz.zc hf (v 2)) a_nil) (ht (by exact hr.gd) (by exact hu)) T.z_repr) (callB (a_cons (v 1) a_nil) (ht (by exact hr.gd) (by exact hu)) T.z_repr) eq_s).is (by simp))) fun z => nomatch z) hR)
    · have hi8 : ¬ i < 8 := fun h => by
        rw [atD, if_pos h] at ed; cases ed
      exact b_one (ret (d := .d (.bool (true || true))) (e_or (k := true) (k2 := true) ((cmp (v 0) e_int gt_i).is (by congr 2; exact decide_eq_true (by omega))) (fun z => nomatch z) fun _ => rfl) hR)
def W_named : Wp := fun ds M R => ∃ (th : D), Thing th ∧ ds = [.d th] ∧ R (.d (.bool true)) M
theorem ok_named (E : Tx K mg T) : FnG P w K mg base CX0 6 T.named.f T.named.fd A_named (spN K 1 W_named) := by
  refine fn_ok T.named.F sc_named fun cdv A outer s0 H Ez G ds M R hr hl hW => ?_
  obtain ⟨th, hth, rfl, hR⟩ := hW
  obtain ⟨t, ht⟩ := thing_repr hth
  refine b_cons (s_set (i := 1) (d := .d (.list [th, th, th, th])) (M1 := M) (e_ofL' (xs := [th, th, th, th]) (e_lst (a_cons (e_kwAt E.EB (ok_xB E.EB.toExcD) (hr.mono (by decide)) (kb_xB E.EB.toExcD) (k_cons (v 0) k_nil)) (a_cons (e_kwAt E.EC (ok_xC E.EC.toExcD) (hr.mono (by decide)) (kb_xC E.EC.toExcD) (k_cons (v 0) k_nil)) (a_cons (e_kwAt E.ER (ok_xR E.ER.toExcD) (hr.mono (by decide)) (kb_xR E.ER.toExcD) (k_cons (v 0) k_nil)) (a_cons (e_kwAt E.EG (ok_xG E.EG.toExcD) (hr.mono (by decide)) (kb_xG E.EG.toExcD) (k_cons (v 0) k_nil)) a_nil))))) rfl) ?_ sc_named.nd)
  refine b_cons (s_set (i := 1) (d := .d (.list (List.replicate 8 th))) (M1 := M) (e_ofL' (xs := List.replicate 8 th) (binL (v 1) (e_ofL' (xs := [th, th, th, th]) (e_lst (a_cons (e_kwAt E.EQ (ok_xQ E.EQ.toExcD) (hr.mono (by decide)) (kb_xQ E.EQ.toExcD) (k_cons (v 0) k_nil)) (a_cons (e_kwAt E.ET (ok_xT E.ET.toExcD) (hr.mono (by decide)) (kb_xT E.ET.toExcD) (k_cons (v 0) k_nil)) (a_cons (e_kwAt E.ES (ok_xS E.ES.toExcD) (hr.mono (by decide)) (kb_xS E.ES.toExcD) (k_cons (v 0) k_nil)) (a_cons (e_kwAt E.EF (ok_xF E.EF.toExcD) (hr.mono (by decide)) (kb_xF E.EF.toExcD) (k_cons (v 0) k_nil)) a_nil))))) rfl) (cat_l ls_d ls_d (Nat.le_of_ble_eq_true rfl))) rfl) ?_ sc_named.nd)
  refine b_one (ret (d := .d (.bool true)) ((cmp (e_ofL' (xs := []) (l_lc (own := [("_law_one", 2)]) (fun _ => M) (fun _ => none) (i_list (xs := List.replicate 8 th) (v 1)) (bk sc_named (by decide +kernel)) sc_named.nd (fun _ _ => trivial) (by simp) fun j d hjd => ?_) ?_) e_nil (eq_d hr.units rfl rfl)).is rfl) hR)
  · obtain rfl : d = .d th := by
      have := List.mem_of_getElem? hjd
      simp at this
      exact this
    refine ⟨false, _, _, M, ?_, fun s H C cl fp => gn 2 sc_named.nd, fun s H C cl fp G => ts_one ((tcmp (callB (a_cons (v 2) a_nil) (ht (by exact hr.gd) (by exact hr.units)) T.z_repr) (callB (a_cons (v 0) a_nil) (ht (by exact hr.gd) (by exact hr.units)) T.z_repr) ne_s).is (k' := false) (by simp)), (fun z => nomatch z), fun _ => ⟨rfl, rfl⟩⟩
    decide
  · simp [outs]
end
end K00
set_option Elab.async false
set_option linter.all false
set_option maxRecDepth 100000
set_option maxHeartbeats 4000000
namespace K00
open PySem PySem.Spec L2 NL
open PyProof.Rows hiding St
theorem text_short : ∀ n : Nat, n < 1000 → (reprText (Str.ofString (toString (n : Int)))).length ≤ 5 := by decide +kernel
section
variable {X : Cx} {G : Gh} {ρ : List SV} {M : MM}
theorem c_lenQ {xs : List D} : JC X G (.builtin "len") M [.q xs] (.d (.int (xs.length : Nat))) M := ⟨_, call_len_seq, fun S H σ ρ us st r Q q => by
  obtain ⟨v, r', rfl, ⟨a, vs, rfl, hs, hr⟩, rfl⟩ := r
  exact ⟨a, vs, rfl, .inl (Evl.ex_l st.hst.sub hs), by rw [hr.len]; exact q _ S H (Sub.rfl' S) st rfl⟩⟩
theorem ix_q {xs : List D} {i : Int} {d : D} (h : atI xs i = some d) : JX X G M (.q xs) (.d (.int i)) (.d d) M := ⟨_, ix_list, fun S H σ ρ u v st ru rv Q q => by
  obtain ⟨a, vs, rfl, h1, r1⟩ := ru
  obtain rfl : v = .int i := rv
  unfold atI at h
  obtain ⟨j, hj, hd⟩ := Option.bind_eq_some_iff.mp h
  obtain ⟨w, hw, rw'⟩ := r1.at hd
  exact ⟨a, vs, i, w, rfl, rfl, Evl.ex_l st.hst.sub h1, by unfold atI; rw [r1.len, hj]; exact hw, q _ S H (Sub.rfl' S) st rw'⟩⟩
end
def thingsD (c : Int) : List D := [.int (c % 1000000007), .int (0 - c % 97), .str (Str.ofString (toString (c % 1000))), .none, .tuple [.int (c % 7), .str "a"], .list [.int (c % 11)]]
theorem things_ok {c : Int} {th : D} (h : th ∈ thingsD c) : Thing th := by
  have key : ∀ m : Int, 0 < m → m < 10 ^ 18 → (c % m).natAbs < 10 ^ 18 := fun m h0 h1 => by
    have a := Int.emod_nonneg c (Int.ne_of_gt h0)
    have b := Int.emod_lt_of_pos c h0
    omega
  simp only [thingsD, List.mem_cons, List.not_mem_nil, or_false] at h
  rcases h with rfl | rfl | rfl | rfl | rfl | rfl
  · exact .inl ⟨_, key _ (by decide) (by decide), rfl⟩
  · refine .inl ⟨_, ?_, rfl⟩
    have := Int.emod_nonneg c (show (97 : Int) ≠ 0 by decide)
    have := Int.emod_lt_of_pos c (show (0 : Int) < 97 by decide)
    omega
  · refine .inr (.inl ⟨_, ?_, rfl⟩)
    have a := Int.emod_nonneg c (show (1000 : Int) ≠ 0 by decide)
    have b := Int.emod_lt_of_pos c (show (0 : Int) < 1000 by decide)
    obtain ⟨n, hn⟩ := Int.eq_ofNat_of_zero_le a
    rw [hn]
    have := text_short n (by omega)
    rw [sizeLine_eq]
    omega
  · exact .inr (.inr (.inl rfl))
  · exact .inr (.inr (.inr (.inl ⟨_, key _ (by decide) (by decide), rfl⟩)))
  · exact .inr (.inr (.inr (.inr ⟨_, key _ (by decide) (by decide), rfl⟩)))
section
variable {P : Program} {w : World} {K : PySem.W.Frag} {mg : Str → Option Value} {base : Heap} {T : Txt K mg}
def W_law : Wp := fun ds M R => ∃ ns : List Int, ds = [.q (ns.map PyData.int)] ∧ R (.d (.bool true)) M
theorem ok_law {T : Txt K mg} (E : Tx K mg T) : FnG P w K mg base CX0 10 T.law.f T.law.fd A_law (spN K 1 W_law) := by
  refine fn_ok T.law.F sc_law fun cdv A outer s H E1 G ds M R hr hl hW => ?_
  obtain ⟨ns, rfl, hR⟩ := hW
  obtain ⟨L, hL⟩ : ∃ L : Int, L = (ns.map PyData.int).length := ⟨_, rfl⟩
  obtain ⟨m, hm⟩ : ∃ m : Int, m = (if (if L < 4 then L else 4) > 1 then (if L < 4 then L else 4) else 1) := ⟨_, rfl⟩
  have hm1 : 1 ≤ m ∧ m ≤ 4 := by rw [hm]; split <;> split at * <;> omega
  refine b_cons (s_for (fun i ρ' M' => M' = M ∧ ∃ x1 x2 x3 x4 x5, ρ' = [.q (ns.map PyData.int), x1, x2, x3, x4, x5]) (i_range1 (j := m) (a_cons ((callB (a_cons e_int (a_cons (callB (a_cons e_int (a_cons (callB (a_cons (v 0) a_nil) c_lenQ T.z_len) a_nil)) (c_min2 rfl) T.z_min) a_nil)) (c_max2 rfl) T.z_max).is (by rw [hm, hL])) a_nil) (by omega) (by omega) T.z_range) ⟨rfl, _, _, _, _, _, rfl⟩ (fun _ _ _ _ => trivial) ?_ ?_ PassesOwn.never)
  · rintro G i d ρ' M' hd ⟨rfl, x1, x2, x3, x4, x5, rfl⟩
    obtain ⟨hi, rfl⟩ : i < 4 ∧ d = .d (.int (i : Nat)) := by
      have hlt : i < m.toNat := by have := (List.getElem?_eq_some_iff.mp hd).1; simpa [rgD] using this
      refine ⟨by omega, ?_⟩
      simp [rgD, hlt] at hd
      exact hd.symm
    refine ⟨_, _, gn 1 sc_law.nd, ?_⟩
    obtain ⟨c, hc⟩ : ∃ c, c = ns.getD i 0 := ⟨_, rfl⟩
    refine b_cons (s_set (i := 2) (d := .d (.int c)) (M1 := M') (e_if (k := decide ((i : Int) < L)) ((tcmp (v 1) (callB (a_cons (v 0) a_nil) c_lenQ T.z_len) lt_i).is (by rw [hL])) (fun h => ix (v 0) (v 1) (ix_q ?_)) fun h => (e_int (i := 0)).is ?_) ?_ sc_law.nd)
    · have h := of_decide_eq_true h
      rw [hL] at h
      have hlt : i < ns.length := by simpa using h
      rw [hc]
      exact atI_map _ _ 0 hlt
    · have h := of_decide_eq_false h
      rw [hL] at h
      have hlt : ¬ i < ns.length := by simpa using h
      rw [hc, List.getD_eq_getElem?_getD, List.getElem?_eq_none (by omega)]
      rfl
    have hci : ∀ {X : Cx} {G : Gh} {ρ : List SV} {M : MM} {e : Expr} {q1 q2 : Pos}, True := fun {_ _ _ _ _ _ _} => trivial
    refine b_cons (s_set (i := 3) (d := .d (.list (thingsD c))) (M1 := M') (e_ofL' (xs := thingsD c) (e_lst (a_cons (bin (callT (a_cons (v 2) a_nil) c_int T.z_int) e_int (mod_i (by decide))) (a_cons (bin e_int (bin (callT (a_cons (v 2) a_nil) c_int T.z_int) e_int (mod_i (by decide))) sub_i)
      (a_cons (callT (a_cons (bin (callT (a_cons (v 2) a_nil) c_int T.z_int) e_int (mod_i (by decide))) a_nil) (c_strI (log_lt ?_)) T.z_str) (a_cons e_non (a_cons (e_tup (xs := [.int (c % 7), .str "a"]) (a_cons (bin (callT (a_cons (v 2) a_nil) c_int T.z_int) e_int (mod_i (by decide))) (a_cons e_str a_nil)))
        (a_cons (e_ofL' (xs := [.int (c % 11)]) (e_lst (a_cons (bin (callT (a_cons (v 2) a_nil) c_int T.z_int) e_int (mod_i (by decide))) a_nil)) rfl) a_nil))))))) rfl) ?_ sc_law.nd)
    · have a := Int.emod_nonneg c (show (1000 : Int) ≠ 0 by decide)
      have b := Int.emod_lt_of_pos c (show (0 : Int) < 1000 by decide)
      omega
    refine b_one (s_for (fun j ρ' M2 => M2 = M' ∧ ∃ y4 y5, ρ' = [.q (ns.map PyData.int), .d (.int (i : Nat)), .d (.int c), .d (.list (thingsD c)), y4, y5]) (i_list (xs := thingsD c) (v 3)) ⟨rfl, _, _, rfl⟩ (fun _ _ _ _ => trivial) ?_ ?_ PassesOwn.never)
    · rintro G j d ρ' M2 hd ⟨rfl, y4, y5, rfl⟩
      obtain ⟨th, hth, rfl⟩ : ∃ th, Thing th ∧ d = .d th := by
        have := List.mem_of_getElem? hd
        obtain ⟨th, ht, e⟩ := List.mem_map.mp this
        exact ⟨th, things_ok ht, e.symm⟩
      refine ⟨_, _, gn 4 sc_law.nd, ?_⟩
      refine b_cons (s_if (k := false) ((t_not (t_val (k := true) (call T.named (ok_named E) (hr.mono (by decide)) (a_cons (v 4) a_nil) fun R' h => ⟨th, hth, rfl, h⟩))).is (k' := false) rfl) (fun z => nomatch z) fun _ => b_nil ?_)
      refine b_one (s_for (fun n ρ' M3 => M3 = M2 ∧ ∃ z5, ρ' = [.q (ns.map PyData.int), .d (.int (i : Nat)), .d (.int c), .d (.list (thingsD c)), .d th, z5]) (i_range1 (j := 9) (a_cons e_int a_nil) (by decide) (by decide) T.z_range) ⟨rfl, _, rfl⟩ (fun _ _ _ _ => trivial) ?_ ?_ PassesOwn.never)
      · rintro G n d ρ' M3 hd ⟨rfl, z5, rfl⟩
        obtain ⟨hn, rfl⟩ : n < 9 ∧ d = .d (.int (n : Nat)) := by
          have hlt : n < 9 := by have := (List.getElem?_eq_some_iff.mp hd).1; simpa [rgD] using this
          refine ⟨hlt, ?_⟩
          simp [rgD, hlt] at hd
          exact hd.symm
        refine ⟨_, _, gn 5 sc_law.nd, ?_⟩
        exact b_one (s_if (k := false) ((t_not (t_val (k := true) (call T.heard (ok_heard E) (hr.mono (by decide)) (a_cons (v 5) (a_cons (v 4) a_nil)) fun R' h => ⟨n, th, hn, hth, rfl, h⟩))).is (k' := false) rfl) (fun z => nomatch z) fun _ => b_nil ⟨rfl, _, rfl⟩)
      · rintro ρ' M3 ⟨rfl, z5, rfl⟩
        exact ⟨rfl, _, _, rfl⟩
    · rintro ρ' M2 ⟨rfl, y4, y5, rfl⟩
      exact ⟨rfl, _, _, _, _, _, rfl⟩
  · rintro ρ' M' ⟨rfl, x1, x2, x3, x4, x5, rfl⟩
    exact b_one (ret e_bl hR)
end
end K00
set_option Elab.async false
set_option linter.all false
set_option maxRecDepth 100000
set_option maxHeartbeats 4000000
namespace K00
open PySem PySem.Spec L2 NL
open PyProof.Rows hiding St
def fn0 : List He.DefD := [dPlain "_law_marks" s_marks, dPlain "_law_raise" s_raise, dPlain "_law_heard" s_heard, dPlain "_law_named" s_named, dPlain "law" s_law]
def fnB : List He.DefD := [dInit "InvalidBook" "InvalidBook.__init__" s_xB, dInit "InvalidCrowd" "InvalidCrowd.__init__" s_xC, dInit "InvalidRun" "InvalidRun.__init__" s_xR, dInit "InvalidGroup" "InvalidGroup.__init__" s_xG, dInit "InvalidQuestion" "InvalidQuestion.__init__" s_xQ, dInit "InvalidText" "InvalidText.__init__" s_xT, dInit "NotSafe" "NotSafe.__init__" s_xS, dInit "Refused" "Refused.__init__" s_xF]
def fn : List He.DefD := fn0 ++ (fnB)
def fa0 : List He.Fa := [.glo "_law_marks", .glo "_law_raise", .glo "_law_heard", .glo "_law_named", .glo "law"]
def faB : List He.Fa := [.glo "InvalidBook", .glo "InvalidCrowd", .glo "InvalidRun", .glo "InvalidGroup", .glo "InvalidQuestion", .glo "InvalidText", .glo "NotSafe", .glo "Refused", .glo "LeftError", .glo "InvalidCommand"]
def faZ : List He.Fa := [.free "ValueError", .free "int", .free "isinstance", .free "len", .free "max", .free "min", .free "range", .free "repr", .free "str"]
def fa : List He.Fa := fa0 ++ (faB ++ (faZ))
def tf : List He.Defn := [("law", none)]
def nmL : List Str := ["InvalidBook", "InvalidCrowd", "InvalidRun", "InvalidGroup", "InvalidQuestion", "InvalidText", "NotSafe", "Refused", "InvalidCommand"]
def exA (K : PySem.W.Frag) : Bool := (List.range 9).all fun i => (List.range 9).all fun j => decide (PySem.W.kitOne K (.ref (He.ga K (nmL.getD i ""))) (.ref (He.ga K (nmL.getD j ""))) = some (decide (i = j)))
def exV (K : PySem.W.Frag) : Bool := nmL.all fun n => decide (PySem.W.kitOne K (.ref (He.ga K n)) (.type "ValueError") = some true)
def exM (K : PySem.W.Frag) : Bool := nmL.all fun n => decide (PySem.W.exmOne K (.ref (He.ga K n)) (.ref (He.ga K "LeftError")) = some true)
def exO (K : PySem.W.Frag) : Bool := PySem.W.excIn K (He.ga K "InvalidCommand") [.type "ValueError", .type "Exception", .type "BaseException", .type "object"] "ValueError.__new__" && (PySem.W.keepIn K (.ref (He.ga K "InvalidCommand")) && (decide (PySem.W.subIn K (.ref (He.ga K "InvalidCommand")) (.type "BaseException") = some true) && decide (PySem.W.typeIn K (.ref (He.ga K "InvalidCommand")) = some (.type "type"))))
def exC (K : PySem.W.Frag) : Bool := xfB K (He.ga K "InvalidCommand") && isxB K (He.ga K "InvalidCommand")
theorem exO_ok {K : PySem.W.Frag} {mg : Str → Option Value} (h : exO K = true) (g : mg "InvalidCommand" = some (.ref (He.ga K "InvalidCommand"))) : ∃ O : ExcO K mg "InvalidCommand", O.C = He.ga K "InvalidCommand" := by
  unfold exO at h
  simp only [Bool.and_eq_true, decide_eq_true_eq] at h
  exact ⟨⟨_, g, _, F.excBase_ValueError, h.1, h.2.1, h.2.2.1, h.2.2.2⟩, rfl⟩
theorem exC_ok {K : PySem.W.Frag} (h : exC K = true) : ExcC K (He.ga K "InvalidCommand") := by
  unfold exC at h
  simp only [Bool.and_eq_true] at h
  obtain ⟨h1, h2⟩ := h
  have x := xfB_ok h1
  have y := isxB_ok h2
  exact ⟨x.ga, x.gg, x.exC, x.hdC, y.cc, y.ge, y.tk, y.mr⟩
theorem exA_ok {K : PySem.W.Frag} (h : exA K = true) {i j : Nat} {x y : Addr} (hx : (nmL.map (He.ga K))[i]? = some x) (hy : (nmL.map (He.ga K))[j]? = some y) : PySem.W.kitOne K (.ref x) (.ref y) = some (decide (i = j)) := by
  have hi : i < 9 := (List.getElem?_eq_some_iff.mp hx).1
  have hj : j < 9 := (List.getElem?_eq_some_iff.mp hy).1
  unfold exA at h
  have h1 := List.all_eq_true.mp (List.all_eq_true.mp h i (List.mem_range.mpr hi)) j (List.mem_range.mpr hj)
  have h2 := of_decide_eq_true h1
  have ex : x = He.ga K (nmL.getD i "") := by
    rw [List.getElem?_map, List.getElem?_eq_getElem (show i < nmL.length from hi)] at hx
    rw [List.getD_eq_getElem?_getD, List.getElem?_eq_getElem (show i < nmL.length from hi)]
    exact (Option.some.inj hx).symm
  have ey : y = He.ga K (nmL.getD j "") := by
    rw [List.getElem?_map, List.getElem?_eq_getElem (show j < nmL.length from hj)] at hy
    rw [List.getD_eq_getElem?_getD, List.getElem?_eq_getElem (show j < nmL.length from hj)]
    exact (Option.some.inj hy).symm
  rw [ex, ey]
  exact h2
theorem exV_ok {K : PySem.W.Frag} (h : exV K = true) {x : Addr} (hx : x ∈ nmL.map (He.ga K)) : PySem.W.kitOne K (.ref x) (.type "ValueError") = some true := by
  obtain ⟨n, hn, rfl⟩ := List.mem_map.mp hx
  exact of_decide_eq_true (List.all_eq_true.mp h n hn)
theorem exM_ok {K : PySem.W.Frag} (h : exM K = true) {x : Addr} (hx : x ∈ nmL.map (He.ga K)) : PySem.W.exmOne K (.ref x) (.ref (He.ga K "LeftError")) = some true := by
  obtain ⟨n, hn, rfl⟩ := List.mem_map.mp hx
  exact of_decide_eq_true (List.all_eq_true.mp h n hn)
def ex (K : PySem.W.Frag) : Bool := exA K && (exV K && (exM K && (exO K && (exC K && (excB K "InvalidBook" && (excB K "InvalidCrowd" && (excB K "InvalidRun" && (excB K "InvalidGroup" && (excB K "InvalidQuestion" && (excB K "InvalidText" && (excB K "NotSafe" && (excB K "Refused"))))))))))))
theorem txt_of {K : PySem.W.Frag} {mg : Str → Option Value} {h : Heap} {w : World} (X : K.In h) (G : h.Ns mainGlobals mg) (c0 : He.SaysX fa fn [] tf ex w h K) : ∃ T : Txt K mg, Nonempty (Tx K mg T) ∧ (∀ (s : Shared) (v : Value), BindsTo s T.law.fd ⟨[v], []⟩ [("_law_script", v)]) ∧ T.law.fd.code = .ref (He.cT K ("law", none)).1 := by
  have c := c0.t.d
  obtain ⟨T_marks, F_marks, A_marks⟩ := def_of (x := "_law_marks") (st := s_marks) (ps := A_marks) X G c 0 0 rfl rfl fun _ _ _ _ _ _ us hl => match us, hl with | [_], _ => rfl
  obtain ⟨T_raise, F_raise, A_raise⟩ := def_of (x := "_law_raise") (st := s_raise) (ps := A_raise) X G c 1 1 rfl rfl fun _ _ _ _ _ _ us hl => match us, hl with | [_, _], _ => rfl
  obtain ⟨T_heard, F_heard, A_heard⟩ := def_of (x := "_law_heard") (st := s_heard) (ps := A_heard) X G c 2 2 rfl rfl fun _ _ _ _ _ _ us hl => match us, hl with | [_, _], _ => rfl
  obtain ⟨T_named, F_named, A_named⟩ := def_of (x := "_law_named") (st := s_named) (ps := A_named) X G c 3 3 rfl rfl fun _ _ _ _ _ _ us hl => match us, hl with | [_], _ => rfl
  obtain ⟨T_law, F_law, A_law⟩ := def_of (x := "law") (st := s_law) (ps := A_law) X G c 4 4 rfl rfl fun _ _ _ _ _ _ us hl => match us, hl with | [_], _ => rfl
  have mr := c0.more
  unfold ex at mr
  simp only [Bool.and_eq_true, decide_eq_true_eq] at mr
  obtain ⟨mA, mV, mM, mO, mC, m0, m1, m2, m3, m4, m5, m6, m7⟩ := mr
  obtain ⟨X_EO, hX_EO⟩ := exO_ok (mg := mg) mO (He.glo_ok X G (c.fact 14 rfl))
  obtain ⟨X_EB, hX_EB⟩ : ∃ X_EB : ExcK K mg "InvalidBook" "InvalidBook.__init__" s_xB, X_EB.C = He.ga K "InvalidBook" := excK_at X G c 5 5 rfl rfl m0 fun _ _ _ _ _ _ us hl => match us, hl with | [_, _], _ => rfl
  obtain ⟨X_EC, hX_EC⟩ : ∃ X_EC : ExcK K mg "InvalidCrowd" "InvalidCrowd.__init__" s_xC, X_EC.C = He.ga K "InvalidCrowd" := excK_at X G c 6 6 rfl rfl m1 fun _ _ _ _ _ _ us hl => match us, hl with | [_, _], _ => rfl
  obtain ⟨X_ER, hX_ER⟩ : ∃ X_ER : ExcK K mg "InvalidRun" "InvalidRun.__init__" s_xR, X_ER.C = He.ga K "InvalidRun" := excK_at X G c 7 7 rfl rfl m2 fun _ _ _ _ _ _ us hl => match us, hl with | [_, _], _ => rfl
  obtain ⟨X_EG, hX_EG⟩ : ∃ X_EG : ExcK K mg "InvalidGroup" "InvalidGroup.__init__" s_xG, X_EG.C = He.ga K "InvalidGroup" := excK_at X G c 8 8 rfl rfl m3 fun _ _ _ _ _ _ us hl => match us, hl with | [_, _], _ => rfl
  obtain ⟨X_EQ, hX_EQ⟩ : ∃ X_EQ : ExcK K mg "InvalidQuestion" "InvalidQuestion.__init__" s_xQ, X_EQ.C = He.ga K "InvalidQuestion" := excK_at X G c 9 9 rfl rfl m4 fun _ _ _ _ _ _ us hl => match us, hl with | [_, _], _ => rfl
  obtain ⟨X_ET, hX_ET⟩ : ∃ X_ET : ExcK K mg "InvalidText" "InvalidText.__init__" s_xT, X_ET.C = He.ga K "InvalidText" := excK_at X G c 10 10 rfl rfl m5 fun _ _ _ _ _ _ us hl => match us, hl with | [_, _], _ => rfl
  obtain ⟨X_ES, hX_ES⟩ : ∃ X_ES : ExcK K mg "NotSafe" "NotSafe.__init__" s_xS, X_ES.C = He.ga K "NotSafe" := excK_at X G c 11 11 rfl rfl m6 fun _ _ _ _ _ _ us hl => match us, hl with | [_, _], _ => rfl
  obtain ⟨X_EF, hX_EF⟩ : ∃ X_EF : ExcK K mg "Refused" "Refused.__init__" s_xF, X_EF.C = He.ga K "Refused" := excK_at X G c 12 12 rfl rfl m7 fun _ _ _ _ _ _ us hl => match us, hl with | [_, _], _ => rfl
  refine ⟨⟨T_marks, T_raise, T_heard, T_named, T_law, He.free_ok X G (c.fact 15 rfl), He.free_ok X G (c.fact 16 rfl), He.free_ok X G (c.fact 17 rfl), He.free_ok X G (c.fact 18 rfl), He.free_ok X G (c.fact 19 rfl), He.free_ok X G (c.fact 20 rfl), He.free_ok X G (c.fact 21 rfl), He.free_ok X G (c.fact 22 rfl), He.free_ok X G (c.fact 23 rfl)⟩, ⟨?_⟩, law_facts F_law A_law fun _ _ _ _ _ _ _ => rfl⟩
  have hl : [X_EB.C, X_EC.C, X_ER.C, X_EG.C, X_EQ.C, X_ET.C, X_ES.C, X_EF.C, X_EO.C] = nmL.map (He.ga K) := by
    rw [hX_EB, hX_EC, hX_ER, hX_EG, hX_EQ, hX_ET, hX_ES, hX_EF, hX_EO]
    rfl
  exact ⟨X_EB, X_EC, X_ER, X_EG, X_EQ, X_ET, X_ES, X_EF, X_EO, by rw [hX_EO]; exact exC_ok mC, He.ga K "LeftError", He.glo_ok X G (c.fact 13 rfl), fun i j x y hx hy => exA_ok mA (hl ▸ hx) (hl ▸ hy), fun x hx => exV_ok mV (hl ▸ hx), fun x hx => exM_ok mM (hl ▸ hx)⟩
end K00
set_option Elab.async false
set_option linter.all false
set_option maxRecDepth 100000
set_option maxHeartbeats 0
namespace K00
open PySem PySem.Spec PyProof.Rows L2
abbrev R : PySem.W.OpenRow := PySem.W.OpenLaw.row PySem.Challenge.rw_noneleft_k00_errors_and_what_they_keep
abbrev hk : PySem.W.Hook := He.hookX 4 fa fn [] tf ex
def ob (s : PySem.W.SharedT) : He.AlX := He.obsX 4 fa fn [] tf ex (HandSHeadRun.getT s)
theorem ob_eq (s : PySem.W.SharedT) : ob s = hk.obs s.abs := He.obsX_eq (HandSHeadRun.getT_eq s)
def lo0 : List Str := ["LeftError", "InvalidBook", "InvalidCrowd", "InvalidRun", "InvalidGroup", "InvalidQuestion", "InvalidText", "NotSafe", "Refused", "InvalidCommand", "_law_marks", "_law_raise", "_law_heard", "_law_named"]
def loose : List Str := lo0
theorem run (w : World) : HandSHeadRun.RunEq R (PySem.W.view R.prog [16]) hk ob 12000 loose w := by
  intro os
  kernel_rfl
end K00
set_option Elab.async false
set_option linter.all false
set_option maxRecDepth 100000
set_option maxHeartbeats 4000000
namespace K00
open PySem PySem.Spec L2 NL
open PyProof.Rows hiding St
theorem facts {P : Program} {w : World} {K : PySem.W.Frag} {h : Heap} {mg : Str → Option Value} {f : Addr} (X : K.In h) (G : h.Ns mainGlobals mg) (hfa : mg ("law" : Str) = some (.ref f)) (c : He.SaysX fa fn [] tf ex w h K) :
    ∃ fd : FuncData, (∀ (s : Shared) (v : Value), BindsTo s fd ⟨[v], []⟩ [("_law_script", v)]) ∧ ∀ base : Heap, K.In base → base.Ns mainGlobals mg → FnG P w K mg base CX0 10 f fd ["_law_script"] (spN K 1 W_law) := by
  obtain ⟨T, ⟨E⟩, hb, hc⟩ := txt_of X G c
  have e2 := hfa.symm.trans T.law.g
  cases e2
  exact ⟨T.law.fd, hb, fun base _ _ => ok_law E⟩
theorem law_asks {K : PySem.W.Frag} {H : Hp} {a : Addr} {ns : List Int} (h : SqL K H a (ns.map V.int)) : spN K 1 W_law [.ref a] H (fun v _ => v = .bl true) E0 := by
  have hst : Hst K (gh H H fun _ => none) H H (fun _ => none) := ⟨fun _ _ q => q, fun _ _ q => (nomatch q), fun _ _ q => q, fun _ _ q _ => q, fun _ q => Or.inl q, fun _ q => absurd rfl q⟩
  have rl : RelA K H [.q (ns.map PyData.int)] [.ref a] := ⟨_, _, rfl, ⟨a, _, rfl, h, RpA.ints ns⟩, rfl⟩
  refine ⟨H, [.q (ns.map .int)], fun _ => none, fun d _ => d = .d (.bool true), rl, rfl, hst, ⟨ns, rfl, rfl⟩, fun d M' v S' H' hh r q => ?_⟩
  subst q
  exact r
end K00
open PySem PySem.W PySem.Calls PyProof.Rows
set_option maxHeartbeats 0 in
theorem PySem.Challenge.cw_noneleft_k00_errors_and_what_they_keep_holds : PySem.Challenge.rw_noneleft_k00_errors_and_what_they_keep.Holds := by
  w_on; o_law
  refine HandSHeadRun.head_any (r := OpenLaw.row PySem.Challenge.rw_noneleft_k00_errors_and_what_they_keep) (q := view (OpenLaw.row PySem.Challenge.rw_noneleft_k00_errors_and_what_they_keep).prog [16]) (H := K00.hk) (ob := K00.ob) (M := 12000) (loose := K00.loose) (d := HandSHeadRun.topDef (OpenLaw.row PySem.Challenge.rw_noneleft_k00_errors_and_what_they_keep).prog 16) (kwd := []) K00.ob_eq
    (by kernel_rfl) (fun s => by kernel_rfl) K00.run (by kernel_rfl) (by kernel_rfl) (by kernel_rfl) (by rfl) (by first | assumption | decide +kernel) (by decide +kernel) ⟨rfl, rfl, rfl, rfl, rfl, by decide +kernel⟩ ?hw ?hc
  case hw => w_witness2
  case hc =>
    refine NL.walk_lawE (l := PySem.Challenge.rw_noneleft_k00_errors_and_what_they_keep) (n := 63) (k := 10) (x := "_law_script") rfl (by decide) (by kernel_rfl) ⟨rfl, by decide, by decide⟩ ?F
    intro w mg fa h Y G hmg0
    obtain ⟨K, KX, c⟩ := Y
    have hmg : mg ("law" : PySem.Str) = some (.ref fa) := by
      have e : (HandSHeadRun.topDef (OpenLaw.row PySem.Challenge.rw_noneleft_k00_errors_and_what_they_keep).prog 16).name = ("law" : PySem.Str) := by kernel_rfl
      rw [← e]
      exact hmg0
    obtain ⟨fd, hb, hF⟩ := K00.facts (P := (PySem.Challenge.rw_noneleft_k00_errors_and_what_they_keep).prog) (w := w) KX G hmg c
    exact ⟨K, fd, _, KX, hb, fun H a ns hl _ hS => K00.law_asks hS, hF⟩
