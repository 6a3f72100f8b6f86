import PyProof.Rows.All
import Wide.All
import OpenK.AllK
import Wide.FinOn
import HandS.ForMost
import HandS.ForExc
import HandS.Flow
import HandS.Style
import HandS.Lambda
import HandS.TupAny
import HandS.IsInst
import HandS.Defaults
import KE.GoesMore
import HandS.EndTab
import HandS.HotCalls
import HandS.ExcIs
import HandS.NestedK
import PyProof.ReprRoads
import KE.SortData
import KE.DataCmp
import HandS.Deep
import HandS.Conv
import PyProof.CallFns
import PyProof.P3In
import HandS.Small
import HandS.DictComp
import HandS.MakeKw
import HandS.NoneIn
import HandS.SetFor
import HandS.SortKw
import HandS.Star
import HandS.Strs
import KE.DataMinMax
import PyProof.EqKinds
import PyProof.FactsAll.dict_1
import PyProof.FactsAll.subtypes_3
import PyProof.FactsAll.subtypes_4
import HandS.OwnEq
import HandS.Text
import HandS.RaiseMore
import KE.KCallOwn
import HandS.More
import PyProof.InstEq
import HandS.FStr
import HandS.Iter
import HandS.TupMul
import KE.KNestM
import KE.KLam
import PySem.Challenge.RW_dayshares_k01_months_known
set_option Elab.async false
set_option linter.all false
set_option maxRecDepth 100000
namespace Dn
open PySem PySem.Spec PyProof.Rows L2

/-! ### plain values -/
inductive PV where
  | non | bl (b : Bool) | int (i : Int) | str (x : Str)
  | tup (xs : List PV) | lst (xs : List PV)
  | ins (c : Nat) (fs : List (String × PV))
  | cls (c : Nat) | ty (n : String)
  /-- the exception that is handled -/
  | exn
  | scr (xs : List PV)
  /-- a dict that stands for good: its keys numbers and texts, or (t) tuples of them -/
  | dic (t : Bool) (kvs : List (PV × PV))
  deriving Inhabited

/-- a value: plain, or an object of the store -/
inductive VV where
  | p (v : PV) | ob (i : Nat)
  deriving Inhabited

inductive SO where
  | lst (xs : List VV)
  | ins (c : Nat) (fs : List (String × VV))
  | tup (xs : List VV)
  | dic (t : Bool) (kvs : List (PV × VV))
  deriving Inhabited

/-- a value as a dict's key -/
def keyP : PV → Option L2.Key
  | .int i => some (.inl i)
  | .str s => some (.inr s)
  | _ => none
def keysP : List PV → Option (List L2.Key)
  | [] => some []
  | x :: xs => (keyP x).bind fun k => (keysP xs).map (k :: ·)
def tkeyP : PV → Option (List L2.Key)
  | .tup xs => keysP xs
  | _ => none

abbrev Sto := List SO
abbrev En := List (Option VV)

inductive RE where
  | ok (v : VV) (S : Sto)
  | exc (c : Nat) (fs : List (String × PV)) (S : Sto)
  | no

inductive RS where
  | nx (e : En) (S : Sto)
  | rt (v : VV) (S : Sto)
  | bk (e : En) (S : Sto)
  | ct (e : En) (S : Sto)
  | exc (c : Nat) (fs : List (String × PV)) (S : Sto)
  | no

abbrev DE := En → Sto → RE
abbrev DS := En → Sto → RS
abbrev DF := List VV → Sto → RE

/-- the classes: their addresses -/
structure Tab where
  C : Nat → Addr
  /-- the tables of code objects, each with its lambda's name -/
  tb : List (Addr × Str) := []
  ex : Option Addr := none
/-- no table, no code object -/
structure Plain (o : HO) : Prop where
  t : ∀ ps, o ≠ .tbl ps
  c : ∀ q, o ≠ .ext q
/-- neither, and no tuple -/
structure PlainH (o : HO) : Prop extends Plain o where
  u : ∀ xs, o ≠ .tup xs
theorem tabs_upd {TT : List (Addr × Str)} {H : Hp} {p : Addr} {o : HO} (t : LamX.Tabs TT H) (h : ∀ u, H p = some u → Plain u) : LamX.Tabs TT (upd H p o) := fun q hq => by
  obtain ⟨ps, e, tr, f⟩ := t q hq
  refine ⟨ps, by rw [upd_ne (fun z => (h _ (by rw [← z]; exact e)).t ps rfl)]; exact e, tr, fun pos cv hc => ?_⟩
  obtain ⟨c, e1, e2⟩ := f pos cv hc
  exact ⟨c, e1, by rw [upd_ne (fun z => (h _ (by rw [← z]; exact e2)).c _ rfl)]; exact e2⟩
theorem tabs_new {TT : List (Addr × Str)} {H : Hp} {p : Addr} {o : HO} (t : LamX.Tabs TT H) (h : H p = none) : LamX.Tabs TT (upd H p o) := tabs_upd t fun u e => by rw [h] at e; cases e

/-- what is known beside: what stands for good, the store's places, what is hidden -/
structure G where
  F : Hp
  f : List Addr
  hid : List (Addr × HO)

structure G.sub (g g' : G) : Prop where
  F : Same g.F g'.F
  f : g.f <+: g'.f
structure G.le (g g' : G) : Prop extends G.sub g g' where
  hid : g'.hid = g.hid

theorem G.le.s {g g' : G} (h : g.le g') : g.sub g' := ⟨h.F, h.f⟩
theorem G.le.refl (g : G) : g.le g := ⟨⟨Same.refl _, List.prefix_refl _⟩, rfl⟩
theorem G.le.trans {a b c : G} (h : a.le b) (k : b.le c) : a.le c := ⟨⟨h.F.trans k.F, h.f.trans k.f⟩, k.hid.trans h.hid⟩

section
variable (K : PySem.W.Frag) (T : Tab)

mutual
def Rp (F : Hp) : PV → V → Prop
  | .non, x => x = .non
  | .bl b, x => x = .bl b
  | .int i, x => x = .int i
  | .str s, x => x = .str s
  | .tup xs, x => ∃ a vs, x = .ref a ∧ F a = some (.tup vs) ∧ RpL F xs vs
  | .lst xs, x => ∃ a vs, x = .ref a ∧ F a = some (.lst vs) ∧ RpL F xs vs
  | .scr xs, x => ∃ a vs, x = .ref a ∧ SqL K F a vs ∧ RpL F xs vs
  | .ins c fs, x => ∃ a dx vs, x = .ref a ∧ F a = some (.ins (T.C c) dx vs) ∧ RpF F fs vs
  | .cls c, x => x = .ref (T.C c)
  | .ty n, x => x = .ty n
  | .exn, x => ∃ a, T.ex = some a ∧ x = .ref a
  | .dic false kvs, x => ∃ a vs, x = .ref a ∧ F a = some (.dK vs) ∧ RpK F kvs vs
  | .dic true kvs, x => ∃ a vs, x = .ref a ∧ F a = some (.dT vs) ∧ RpT F kvs vs
def RpL (F : Hp) : List PV → List V → Prop
  | [], vs => vs = []
  | x :: xs, vs => ∃ v r, vs = v :: r ∧ Rp F x v ∧ RpL F xs r
def RpF (F : Hp) : List (String × PV) → List (Str × V) → Prop
  | [], vs => vs = []
  | (n, x) :: xs, vs => ∃ v r, vs = (Str.ofString n, v) :: r ∧ Rp F x v ∧ RpF F xs r
def RpK (F : Hp) : List (PV × PV) → List (L2.Key × V) → Prop
  | [], vs => vs = []
  | (k, x) :: xs, vs => ∃ q v r, vs = (q, v) :: r ∧ keyP k = some q ∧ Rp F x v ∧ RpK F xs r
def RpT (F : Hp) : List (PV × PV) → List (List L2.Key × V) → Prop
  | [], vs => vs = []
  | (k, x) :: xs, vs => ∃ q v r, vs = (q, v) :: r ∧ tkeyP k = some q ∧ Rp F x v ∧ RpT F xs r
end

mutual
theorem Rp.mono {F F' : Hp} (h : Same F F') : ∀ (v : PV) (x : V), Rp K T F v x → Rp K T F' v x
  | .non, _, r => r
  | .bl _, _, r => r
  | .int _, _, r => r
  | .str _, _, r => r
  | .tup xs, _, ⟨a, vs, e, q, r⟩ => ⟨a, vs, e, h _ _ q, RpL.mono h xs vs r⟩
  | .lst xs, _, ⟨a, vs, e, q, r⟩ => ⟨a, vs, e, h _ _ q, RpL.mono h xs vs r⟩
  | .scr xs, _, ⟨a, vs, e, q, r⟩ => ⟨a, vs, e, h.seq q, RpL.mono h xs vs r⟩
  | .ins c fs, _, ⟨a, dx, vs, e, q, r⟩ => ⟨a, dx, vs, e, h _ _ q, RpF.mono h fs vs r⟩
  | .cls _, _, r => r
  | .ty _, _, r => r
  | .exn, _, r => r
  | .dic false kvs, _, ⟨a, vs, e, q, r⟩ => ⟨a, vs, e, h _ _ q, RpK.mono h kvs vs r⟩
  | .dic true kvs, _, ⟨a, vs, e, q, r⟩ => ⟨a, vs, e, h _ _ q, RpT.mono h kvs vs r⟩
theorem RpL.mono {F F' : Hp} (h : Same F F') : ∀ (xs : List PV) (vs : List V), RpL K T F xs vs → RpL K T F' xs vs
  | [], _, r => r
  | x :: xs, _, ⟨v, r, e, h1, h2⟩ => ⟨v, r, e, Rp.mono h x v h1, RpL.mono h xs r h2⟩
theorem RpF.mono {F F' : Hp} (h : Same F F') : ∀ (xs : List (String × PV)) (vs : List (Str × V)), RpF K T F xs vs → RpF K T F' xs vs
  | [], _, r => r
  | (n, x) :: xs, _, ⟨v, r, e, h1, h2⟩ => ⟨v, r, e, Rp.mono h x v h1, RpF.mono h xs r h2⟩
theorem RpK.mono {F F' : Hp} (h : Same F F') : ∀ (xs : List (PV × PV)) (vs : List (L2.Key × V)), RpK K T F xs vs → RpK K T F' xs vs
  | [], _, r => r
  | (k, x) :: xs, _, ⟨q, v, r, e, hk, h1, h2⟩ => ⟨q, v, r, e, hk, Rp.mono h x v h1, RpK.mono h xs r h2⟩
theorem RpT.mono {F F' : Hp} (h : Same F F') : ∀ (xs : List (PV × PV)) (vs : List (List L2.Key × V)), RpT K T F xs vs → RpT K T F' xs vs
  | [], _, r => r
  | (k, x) :: xs, _, ⟨q, v, r, e, hk, h1, h2⟩ => ⟨q, v, r, e, hk, Rp.mono h x v h1, RpT.mono h xs r h2⟩
end

def Rv (g : G) : VV → V → Prop
  | .p v, x => Rp K T g.F v x
  | .ob i, x => ∃ a, g.f[i]? = some a ∧ x = .ref a
theorem Rv.mono {g g' : G} (h : g.sub g') {v : VV} {x : V} (r : Rv K T g v x) : Rv K T g' v x := by
  cases v with
  | p v => exact Rp.mono K T h.F v x r
  | ob i =>
    obtain ⟨a, e, q⟩ := r
    obtain ⟨t, ht⟩ := h.f
    refine ⟨a, ?_, q⟩
    rw [← ht, List.getElem?_append_left (List.getElem?_eq_some_iff.mp e).1]
    exact e

def RvL (g : G) : List VV → List V → Prop
  | [], vs => vs = []
  | x :: xs, vs => ∃ v r, vs = v :: r ∧ Rv K T g x v ∧ RvL g xs r
theorem RvL.mono {g g' : G} (h : g.sub g') : ∀ {xs : List VV} {vs : List V}, RvL K T g xs vs → RvL K T g' xs vs
  | [], _, r => r
  | _ :: _, _, ⟨v, r, e, h1, h2⟩ => ⟨v, r, e, Rv.mono K T h h1, RvL.mono h h2⟩
def RvF (g : G) : List (String × VV) → List (Str × V) → Prop
  | [], vs => vs = []
  | (n, x) :: xs, vs => ∃ v r, vs = (Str.ofString n, v) :: r ∧ Rv K T g x v ∧ RvF g xs r
theorem RvF.mono {g g' : G} (h : g.sub g') : ∀ {xs : List (String × VV)} {vs : List (Str × V)}, RvF K T g xs vs → RvF K T g' xs vs
  | [], _, r => r
  | (_, _) :: _, _, ⟨v, r, e, h1, h2⟩ => ⟨v, r, e, Rv.mono K T h h1, RvF.mono h h2⟩

def RvK (g : G) : List (PV × VV) → List (L2.Key × V) → Prop
  | [], vs => vs = []
  | (k, x) :: xs, vs => ∃ q v r, vs = (q, v) :: r ∧ keyP k = some q ∧ Rv K T g x v ∧ RvK g xs r
theorem RvK.mono {g g' : G} (h : g.sub g') : ∀ {xs : List (PV × VV)} {vs : List (L2.Key × V)}, RvK K T g xs vs → RvK K T g' xs vs
  | [], _, r => r
  | (_, _) :: _, _, ⟨q, v, r, e, hk, h1, h2⟩ => ⟨q, v, r, e, hk, Rv.mono K T h h1, RvK.mono h h2⟩
def RvT (g : G) : List (PV × VV) → List (List L2.Key × V) → Prop
  | [], vs => vs = []
  | (k, x) :: xs, vs => ∃ q v r, vs = (q, v) :: r ∧ tkeyP k = some q ∧ Rv K T g x v ∧ RvT g xs r
theorem RvT.mono {g g' : G} (h : g.sub g') : ∀ {xs : List (PV × VV)} {vs : List (List L2.Key × V)}, RvT K T g xs vs → RvT K T g' xs vs
  | [], _, r => r
  | (_, _) :: _, _, ⟨q, v, r, e, hk, h1, h2⟩ => ⟨q, v, r, e, hk, Rv.mono K T h h1, RvT.mono h h2⟩

/-- the environment: each slot -/
def Re1 (g : G) : Option VV → Option V → Prop
  | none, _ => True
  | some v, x => ∃ y, x = some y ∧ Rv K T g v y
def Re (g : G) (env : En) (σ : L2.St) : Prop := env.length = σ.length ∧ ∀ (i : Nat) (v : VV), env[i]? = some (some v) → ∃ x, σ[i]? = some (some x) ∧ Rv K T g v x
theorem Re.mono {g g' : G} (h : g.sub g') {env : En} {σ : L2.St} (r : Re K T g env σ) : Re K T g' env σ :=
  ⟨r.1, fun i v e => by obtain ⟨x, e', q⟩ := r.2 i v e; exact ⟨x, e', Rv.mono K T h q⟩⟩

def Ro (g : G) (H : Hp) (a : Addr) : SO → Prop
  | .lst xs => ∃ vs, H a = some (.lst vs) ∧ RvL K T g xs vs
  | .ins c fs => ∃ dx vs, H a = some (.ins (T.C c) dx vs) ∧ RvF K T g fs vs
  | .tup xs => ∃ vs, H a = some (.tup vs) ∧ RvL K T g xs vs
  | .dic false kvs => ∃ vs, H a = some (.dK vs) ∧ RvK K T g kvs vs
  | .dic true kvs => ∃ vs, H a = some (.dT vs) ∧ RvT K T g kvs vs
theorem Ro.mono {g g' : G} (h : g.sub g') {H : Hp} {a : Addr} {o : SO} (r : Ro K T g H a o) : Ro K T g' H a o := by
  cases o with
  | lst xs => obtain ⟨vs, e, q⟩ := r; exact ⟨vs, e, RvL.mono K T h q⟩
  | ins c fs => obtain ⟨dx, vs, e, q⟩ := r; exact ⟨dx, vs, e, RvF.mono K T h q⟩
  | tup xs => obtain ⟨vs, e, q⟩ := r; exact ⟨vs, e, RvL.mono K T h q⟩
  | dic t kvs =>
    cases t
    · obtain ⟨vs, e, q⟩ := r; exact ⟨vs, e, RvK.mono K T h q⟩
    · obtain ⟨vs, e, q⟩ := r; exact ⟨vs, e, RvT.mono K T h q⟩

/-- the store stands in the heap -/
structure Rs (g : G) (S : Sto) (H : Hp) : Prop where
  len : S.length = g.f.length
  nd : g.f.Nodup
  fz : Same g.F H
  apart : ∀ a ∈ g.f, g.F a = none
  at_ : ∀ (i : Nat) (o : SO) (a : Addr), S[i]? = some o → g.f[i]? = some a → Ro K T g H a o
  hid : ∀ p ∈ g.hid, H p.1 = some p.2 ∧ g.F p.1 = none ∧ p.1 ∉ g.f
  hnd : (g.hid.map (·.1)).Nodup
  tab : LamX.Tabs T.tb H
  ntb : ∀ a ps, g.F a ≠ some (.tbl ps)
  hpl : ∀ p ∈ g.hid, PlainH p.2


def Rx (g : G) (fs : List (String × PV)) (d : Option Addr) : Prop :=
  (fs = [] ∧ d = none) ∨ (fs ≠ [] ∧ ∃ a vs, d = some a ∧ g.F a = some (.xd vs) ∧ RpF K T g.F fs vs)
end

section
variable {K : PySem.W.Frag} {T : Tab} {g : G} {S : Sto} {H : Hp}
theorem same_new {H : Hp} {p : Addr} {o : HO} (h : H p = none) : Same H (upd H p o) := fun b x e => by
  rw [upd_ne (ne_of_none e h)]; exact e
theorem same_upd {F H : Hp} {p : Addr} {o : HO} (s : Same F H) (h : F p = none) : Same F (upd H p o) := fun b x e => by
  rw [upd_ne (ne_of_none e h)]; exact s _ _ e
theorem Rs.free (r : Rs K T g S H) {p : Addr} (h : H p = none) : g.F p = none := r.fz.free h
theorem Rs.place (r : Rs K T g S H) {a : Addr} (h : a ∈ g.f) : ∃ o, H a = some o := by
  obtain ⟨i, hi, e⟩ := List.getElem_of_mem h
  have hS : i < S.length := by rw [r.len]; exact hi
  have q := r.at_ i S[i] a (List.getElem?_eq_getElem hS) (by rw [List.getElem?_eq_getElem hi, e])
  cases ho : S[i] with
  | lst xs => rw [ho] at q; obtain ⟨_, e, _⟩ := q; exact ⟨_, e⟩
  | ins c fs => rw [ho] at q; obtain ⟨_, _, e, _⟩ := q; exact ⟨_, e⟩
  | tup xs => rw [ho] at q; obtain ⟨_, e, _⟩ := q; exact ⟨_, e⟩
  | dic t kvs => rw [ho] at q; cases t <;> (obtain ⟨_, e, _⟩ := q; exact ⟨_, e⟩)
theorem Rs.plainAt (r : Rs K T g S H) {a : Addr} (h : a ∈ g.f) : ∀ u, H a = some u → Plain u := by
  obtain ⟨i, hi, e⟩ := List.getElem_of_mem h
  have hS : i < S.length := by rw [r.len]; exact hi
  have q := r.at_ i S[i] a (List.getElem?_eq_getElem hS) (by rw [List.getElem?_eq_getElem hi, e])
  intro u hu
  cases ho : S[i] with
  | lst xs => rw [ho] at q; obtain ⟨_, e, _⟩ := q; rw [e] at hu; cases hu; exact ⟨fun _ z => (by cases z), fun _ z => (by cases z)⟩
  | ins c fs => rw [ho] at q; obtain ⟨_, _, e, _⟩ := q; rw [e] at hu; cases hu; exact ⟨fun _ z => (by cases z), fun _ z => (by cases z)⟩
  | tup xs => rw [ho] at q; obtain ⟨_, e, _⟩ := q; rw [e] at hu; cases hu; exact ⟨fun _ z => (by cases z), fun _ z => (by cases z)⟩
  | dic t kvs => rw [ho] at q; cases t <;> (obtain ⟨_, e, _⟩ := q; rw [e] at hu; cases hu; exact ⟨fun _ z => (by cases z), fun _ z => (by cases z)⟩)
theorem Rs.nplace (r : Rs K T g S H) {p : Addr} (h : H p = none) : p ∉ g.f := fun hm => by
  obtain ⟨o, e⟩ := r.place hm
  rw [h] at e; cases e
theorem Ro.upd {p a : Addr} {o : HO} {so : SO} (hne : a ≠ p) (r : Ro K T g H a so) : Ro K T g (upd H p o) a so := by
  cases so with
  | lst xs => obtain ⟨vs, e, q⟩ := r; exact ⟨vs, by rw [upd_ne hne]; exact e, q⟩
  | ins c fs => obtain ⟨dx, vs, e, q⟩ := r; exact ⟨dx, vs, by rw [upd_ne hne]; exact e, q⟩
  | tup xs => obtain ⟨vs, e, q⟩ := r; exact ⟨vs, by rw [upd_ne hne]; exact e, q⟩
  | dic t kvs => cases t <;> (obtain ⟨vs, e, q⟩ := r; exact ⟨vs, by rw [upd_ne hne]; exact e, q⟩)
/-- a new object that stands for good -/
def G.add (g : G) (p : Addr) (o : HO) : G := { g with F := upd g.F p o }
theorem G.le_add {p : Addr} {o : HO} (h : g.F p = none) : g.le (g.add p o) := ⟨⟨same_new h, List.prefix_refl _⟩, rfl⟩
theorem Rs.new (r : Rs K T g S H) {p : Addr} (h : H p = none) (o : HO) (hpt : ∀ ps, o ≠ .tbl ps := by intro _ z; cases z) : g.le (g.add p o) ∧ Rs K T (g.add p o) S (upd H p o) := by
  have hF := r.free h
  have hf := r.nplace h
  have hle : g.le (g.add p o) := G.le_add hF
  refine ⟨hle, r.len, r.nd, fun b x e => ?_, fun a ha => ?_, fun i so a h1 h2 => ?_, fun q hq => ?_, r.hnd, tabs_new r.tab h, fun a ps e => ?_, r.hpl⟩
  · by_cases hb : b = p
    · subst hb
      have e' : upd g.F b o b = some x := e
      rw [upd_same] at e' ⊢; exact e'
    · have e' : upd g.F p o b = some x := e
      rw [upd_ne hb] at e' ⊢; exact r.fz _ _ e'
  · show upd g.F p o a = none
    rw [upd_ne (fun e => hf (by rw [← e]; exact ha))]; exact r.apart a ha
  · exact Ro.upd (fun e => hf (by have := List.mem_of_getElem? h2; rw [e] at this; exact this)) (Ro.mono K T hle.s (r.at_ i so a h1 h2))
  · obtain ⟨h1, h2, h3⟩ := r.hid q hq
    have hne : q.1 ≠ p := ne_of_none h1 h
    exact ⟨by rw [upd_ne hne]; exact h1, by show upd g.F p o q.1 = none; rw [upd_ne hne]; exact h2, h3⟩
  · by_cases ha : a = p
    · subst ha
      have e' : upd g.F a o a = some (.tbl ps) := e
      rw [upd_same] at e'; cases e'; exact hpt _ rfl
    · have e' : upd g.F p o a = some (.tbl ps) := e
      rw [upd_ne ha] at e'; exact r.ntb _ _ e'
/-- a new object of the store -/
def G.alloc (g : G) (p : Addr) : G := { g with f := g.f ++ [p] }
theorem G.le_alloc (g : G) (p : Addr) : g.le (g.alloc p) := ⟨⟨Same.refl _, List.prefix_append _ _⟩, rfl⟩
theorem Rs.alloc (r : Rs K T g S H) {p : Addr} (h : H p = none) {o : HO} {so : SO} (ho : Ro K T (g.alloc p) (upd H p o) p so) : Rs K T (g.alloc p) (S ++ [so]) (upd H p o) := by
  have hF := r.free h
  have hf := r.nplace h
  have hle := G.le_alloc g p
  refine ⟨by show (S ++ [so]).length = (g.f ++ [p]).length; rw [List.length_append, List.length_append, r.len]; rfl, ?_, same_upd r.fz hF, fun a ha => ?_, fun i so' a h1 h2 => ?_, fun q hq => ?_, r.hnd, tabs_new r.tab h, r.ntb, r.hpl⟩
  · show (g.f ++ [p]).Nodup
    rw [List.nodup_append]
    exact ⟨r.nd, by simp, fun a ha b hb => by
      have : b = p := by simpa using hb
      subst this
      exact fun e => hf (e ▸ ha)⟩
  · have ha' : a ∈ g.f ++ [p] := ha
    rcases List.mem_append.mp ha' with z | z
    · exact r.apart a z
    · have : a = p := by simpa using z
      subst this; exact hF
  · have h2' : (g.f ++ [p])[i]? = some a := h2
    by_cases hi : i < S.length
    · rw [List.getElem?_append_left hi] at h1
      rw [List.getElem?_append_left (by rw [← r.len]; exact hi)] at h2'
      exact Ro.upd (fun e => hf (by have := List.mem_of_getElem? h2'; rw [e] at this; exact this)) (Ro.mono K T hle.s (r.at_ i so' a h1 h2'))
    · have hl : i < (S ++ [so]).length := (List.getElem?_eq_some_iff.mp h1).1
      rw [List.length_append] at hl
      have ei : i = S.length := by have : [so].length = 1 := rfl; omega
      subst ei
      rw [List.getElem?_append_right (Nat.le_refl _), Nat.sub_self] at h1
      rw [r.len, List.getElem?_append_right (Nat.le_refl _), Nat.sub_self] at h2'
      cases h1; cases h2'
      exact ho
  · obtain ⟨h1, h2, h3⟩ := r.hid q hq
    have hne : q.1 ≠ p := ne_of_none h1 h
    refine ⟨by rw [upd_ne hne]; exact h1, h2, fun hm => ?_⟩
    have hm' : q.1 ∈ g.f ++ [p] := hm
    rcases List.mem_append.mp hm' with z | z
    · exact h3 z
    · exact hne (by simpa using z)
/-- an object of the store is changed -/
theorem Rs.write (r : Rs K T g S H) {i : Nat} {a : Addr} (h : g.f[i]? = some a) {o : HO} {so : SO} (ho : Ro K T g (upd H a o) a so) : Rs K T g (S.set i so) (upd H a o) := by
  have ha := List.mem_of_getElem? h
  have hi : i < S.length := by rw [r.len]; exact (List.getElem?_eq_some_iff.mp h).1
  refine ⟨by rw [List.length_set]; exact r.len, r.nd, same_upd r.fz (r.apart a ha), r.apart, fun j so' b h1 h2 => ?_, fun q hq => ?_, r.hnd, tabs_upd r.tab (r.plainAt ha), r.ntb, r.hpl⟩
  · by_cases hj : i = j
    · subst hj
      rw [h] at h2; cases h2
      rw [List.getElem?_set_self hi] at h1; cases h1
      exact ho
    · rw [List.getElem?_set_ne hj] at h1
      have hne : b ≠ a := fun e => by
        subst e
        have i1 := (List.getElem?_eq_some_iff.mp h).1
        have i2 := (List.getElem?_eq_some_iff.mp h2).1
        have e1 := (List.getElem?_eq_some_iff.mp h).2
        have e2 := (List.getElem?_eq_some_iff.mp h2).2
        exact hj ((List.getElem_inj r.nd).mp (e1.trans e2.symm))
      exact Ro.upd hne (r.at_ j so' b h1 h2)
  · obtain ⟨h1, h2, h3⟩ := r.hid q hq
    have hne : q.1 ≠ a := fun e => h3 (e ▸ ha)
    exact ⟨by rw [upd_ne hne]; exact h1, h2, h3⟩
/-- hidden -/
def G.hide (g : G) (p : Addr) (o : HO) : G := { g with hid := (p, o) :: g.hid }
theorem Rs.hide (r : Rs K T g S H) {p : Addr} (h : H p = none) (o : HO) (hpo : PlainH o := by refine ⟨⟨?_, ?_⟩, ?_⟩ <;> (intro _ z; cases z)) : Rs K T (g.hide p o) S (upd H p o) := by
  have hF := r.free h
  have hf := r.nplace h
  refine ⟨r.len, r.nd, same_upd r.fz hF, r.apart, fun i so a h1 h2 => ?_, fun q hq => ?_, ?_, tabs_new r.tab h, r.ntb, fun q hq => ?_⟩
  · exact Ro.upd (fun e => hf (by have := List.mem_of_getElem? h2; rw [e] at this; exact this)) (Ro.mono (g := g) (g' := g.hide p o) K T ⟨Same.refl _, List.prefix_refl _⟩ (r.at_ i so a h1 h2))
  · have hq' : q = (p, o) ∨ q ∈ g.hid := by simpa [G.hide] using hq
    rcases hq' with e | hq
    · subst e; exact ⟨upd_same, hF, hf⟩
    · obtain ⟨h1, h2, h3⟩ := r.hid q hq
      have hne : q.1 ≠ p := ne_of_none h1 h
      exact ⟨by rw [upd_ne hne]; exact h1, h2, h3⟩
  · show (p :: g.hid.map (·.1)).Nodup
    refine List.nodup_cons.mpr ⟨fun hm => ?_, r.hnd⟩
    obtain ⟨q, hq, e⟩ := List.mem_map.mp hm
    have := (r.hid q hq).1
    rw [e, h] at this; cases this
  · have hq' : q = (p, o) ∨ q ∈ g.hid := by simpa [G.hide] using hq
    rcases hq' with e | hq
    · subst e; exact hpo
    · exact r.hpl q hq
/-- what is hidden is changed -/
theorem Rs.hidw {hd : List (Addr × HO)} {p : Addr} {o o' : HO} (r : Rs K T g S H) (e : g.hid = (p, o) :: hd) (hpo : PlainH o' := by refine ⟨⟨?_, ?_⟩, ?_⟩ <;> (intro _ z; cases z)) : Rs K T { g with hid := (p, o') :: hd } S (upd H p o') := by
  obtain ⟨h1, h2, h3⟩ := r.hid (p, o) (by rw [e]; exact List.mem_cons_self)
  have nd := r.hnd
  rw [e] at nd
  have nd' : p ∉ hd.map (·.1) ∧ (hd.map (·.1)).Nodup := List.nodup_cons.mp nd
  refine ⟨r.len, r.nd, same_upd r.fz h2, r.apart, fun i so a k1 k2 => ?_, fun q hq => ?_, nd, tabs_upd r.tab (fun u hu => by rw [h1] at hu; cases hu; exact (r.hpl _ (by rw [e]; exact List.mem_cons_self)).toPlain), r.ntb, fun q hq => ?_⟩
  · exact Ro.upd (fun e => h3 (by have := List.mem_of_getElem? k2; rw [e] at this; exact this)) (Ro.mono (g := g) (g' := { g with hid := (p, o') :: hd }) K T ⟨Same.refl _, List.prefix_refl _⟩ (r.at_ i so a k1 k2))
  · rcases List.mem_cons.mp hq with z | z
    · subst z; exact ⟨upd_same, h2, h3⟩
    · obtain ⟨k1, k2, k3⟩ := r.hid q (by rw [e]; exact List.mem_cons_of_mem _ z)
      have hne : q.1 ≠ p := fun e2 => nd'.1 (List.mem_map.mpr ⟨q, z, e2⟩)
      exact ⟨by rw [upd_ne hne]; exact k1, k2, k3⟩
  · rcases List.mem_cons.mp hq with z | z
    · subst z; exact hpo
    · exact r.hpl q (by rw [e]; exact List.mem_cons_of_mem _ z)
/-- what was hidden stands for good -/
theorem Rs.unhide {hd : List (Addr × HO)} {p : Addr} {o : HO} (r : Rs K T g S H) (e : g.hid = (p, o) :: hd) : Rs K T { F := upd g.F p o, f := g.f, hid := hd } S H := by
  obtain ⟨h1, h2, h3⟩ := r.hid (p, o) (by rw [e]; exact List.mem_cons_self)
  have nd := r.hnd
  rw [e] at nd
  have nd' : p ∉ hd.map (·.1) ∧ (hd.map (·.1)).Nodup := List.nodup_cons.mp nd
  refine ⟨r.len, r.nd, fun b x k => ?_, fun a ha => ?_, fun i so a k1 k2 => ?_, fun q hq => ?_, nd'.2, r.tab, fun a ps k => ?_, fun q hq => r.hpl q (by rw [e]; exact List.mem_cons_of_mem _ hq)⟩
  · by_cases hb : b = p
    · subst hb
      have k' : upd g.F b o b = some x := k
      rw [upd_same] at k'; cases k'; exact h1
    · have k' : upd g.F p o b = some x := k
      rw [upd_ne hb] at k'; exact r.fz _ _ k'
  · show upd g.F p o a = none
    rw [upd_ne (fun e => h3 (by rw [← e]; exact ha))]; exact r.apart a ha
  · exact Ro.mono (g := g) (g' := { F := upd g.F p o, f := g.f, hid := hd }) K T ⟨same_new h2, List.prefix_refl _⟩ (r.at_ i so a k1 k2)
  · obtain ⟨k1, k2, k3⟩ := r.hid q (by rw [e]; exact List.mem_cons_of_mem _ hq)
    have hne : q.1 ≠ p := fun e2 => nd'.1 (List.mem_map.mpr ⟨q, hq, e2⟩)
    exact ⟨k1, by show upd g.F p o q.1 = none; rw [upd_ne hne]; exact k2, k3⟩
  · by_cases hb : a = p
    · subst hb
      have k' : upd g.F a o a = some (.tbl ps) := k
      rw [upd_same] at k'; cases k'; exact (r.hpl (a, .tbl ps) (by rw [e]; exact List.mem_cons_self)).t ps rfl
    · have k' : upd g.F p o a = some (.tbl ps) := k
      rw [upd_ne hb] at k'; exact r.ntb _ _ k'
/-- what was hidden becomes an object of the store -/
theorem Rs.unhideS {hd : List (Addr × HO)} {p : Addr} {o : HO} {so : SO} (r : Rs K T g S H) (e : g.hid = (p, o) :: hd) (ho : Ro K T { F := g.F, f := g.f ++ [p], hid := hd } H p so) : Rs K T { F := g.F, f := g.f ++ [p], hid := hd } (S ++ [so]) H := by
  obtain ⟨h1, h2, h3⟩ := r.hid (p, o) (by rw [e]; exact List.mem_cons_self)
  have nd := r.hnd
  rw [e] at nd
  have nd' : p ∉ hd.map (·.1) ∧ (hd.map (·.1)).Nodup := List.nodup_cons.mp nd
  refine ⟨by show (S ++ [so]).length = (g.f ++ [p]).length; rw [List.length_append, List.length_append, r.len]; rfl, ?_, r.fz, fun a ha => ?_, fun i so' a k1 k2 => ?_, fun q hq => ?_, nd'.2, r.tab, r.ntb, fun q hq => r.hpl q (by rw [e]; exact List.mem_cons_of_mem _ hq)⟩
  · show (g.f ++ [p]).Nodup
    rw [List.nodup_append]
    exact ⟨r.nd, by simp, fun a ha b hb => by
      have : b = p := by simpa using hb
      subst this
      exact fun e => h3 (e ▸ ha)⟩
  · have ha' : a ∈ g.f ++ [p] := ha
    rcases List.mem_append.mp ha' with z | z
    · exact r.apart a z
    · have : a = p := by simpa using z
      subst this; exact h2
  · have h2' : (g.f ++ [p])[i]? = some a := k2
    by_cases hi : i < S.length
    · rw [List.getElem?_append_left hi] at k1
      rw [List.getElem?_append_left (by rw [← r.len]; exact hi)] at h2'
      exact Ro.mono (g := g) (g' := { F := g.F, f := g.f ++ [p], hid := hd }) K T ⟨Same.refl _, List.prefix_append _ _⟩ (r.at_ i so' a k1 h2')
    · have hl : i < (S ++ [so]).length := (List.getElem?_eq_some_iff.mp k1).1
      rw [List.length_append] at hl
      have ei : i = S.length := by have : [so].length = 1 := rfl; omega
      subst ei
      rw [List.getElem?_append_right (Nat.le_refl _), Nat.sub_self] at k1
      rw [r.len, List.getElem?_append_right (Nat.le_refl _), Nat.sub_self] at h2'
      cases k1; cases h2'
      exact ho
  · obtain ⟨k1, k2, k3⟩ := r.hid q (by rw [e]; exact List.mem_cons_of_mem _ hq)
    have hne : q.1 ≠ p := fun e2 => nd'.1 (List.mem_map.mpr ⟨q, hq, e2⟩)
    refine ⟨k1, k2, fun hm => ?_⟩
    have hm' : q.1 ∈ g.f ++ [p] := hm
    rcases List.mem_append.mp hm' with z | z
    · exact k3 z
    · exact hne (by simpa using z)
end
end Dn

set_option maxRecDepth 100000
namespace Dn
open PySem PySem.Spec PyProof.Rows L2

def RE.bind (r : RE) (k : VV → Sto → RE) : RE := match r with
  | .ok v S => k v S
  | .exc c fs S => .exc c fs S
  | .no => .no
@[simp] theorem RE.bind_ok (v : VV) (S : Sto) (k : VV → Sto → RE) : (RE.ok v S).bind k = k v S := rfl
@[simp] theorem RE.bind_exc (c fs) (S : Sto) (k : VV → Sto → RE) : (RE.exc c fs S).bind k = RE.exc c fs S := rfl
@[simp] theorem RE.bind_no (k : VV → Sto → RE) : RE.no.bind k = RE.no := rfl
/-- a value that an operation gives, or none -/
def RE.of (S : Sto) : Option VV → RE
  | some v => .ok v S
  | none => .no
@[simp] theorem RE.of_some (S : Sto) (v : VV) : RE.of S (some v) = .ok v S := rfl
@[simp] theorem RE.of_none (S : Sto) : RE.of S none = .no := rfl

section
variable (K : PySem.W.Frag) (T : Tab)
def PostE (E : XK) (g : G) (r : RE) (Q : VK) : Prop := match r with
  | .ok v S' => ∀ g' x H', g.le g' → Rv K T g' v x → Rs K T g' S' H' → Q x H'
  | .exc c fs S' => ∀ g' d H', g.le g' → Rx K T g' fs d → Rs K T g' S' H' → E (.ref (T.C c)) d H'
  | .no => False
theorem PostE.up {K T} {E : XK} {g g' : G} {r : RE} {Q : VK} (h : g.le g') (p : PostE K T E g r Q) : PostE K T E g' r Q := by
  cases r with
  | ok v S => exact fun g2 x H2 l => p g2 x H2 (h.trans l)
  | exc c fs S => exact fun g2 x H2 l => p g2 x H2 (h.trans l)
  | no => exact p
theorem PostE.bind {K T} {E : XK} {g : G} {r : RE} {k : VV → Sto → RE} {Q : VK} (p : PostE K T E g (r.bind k) Q) :
    PostE K T E g r (fun x H1 => ∃ g1 v S1, g.le g1 ∧ Rv K T g1 v x ∧ Rs K T g1 S1 H1 ∧ PostE K T E g1 (k v S1) Q) := by
  cases r with
  | ok v S => exact fun g1 x H1 l r1 s1 => ⟨g1, v, S, l, r1, s1, PostE.up l p⟩
  | exc c fs S => exact p
  | no => exact p
/-- an expression's reading by its meaning -/
def tD (E : XK) (m : DE) : TE := fun σ H Q => ∃ g env S, Re K T g env σ ∧ Rs K T g S H ∧ PostE K T E g (m env S) Q
end

section
variable {X : Cx} {T : Tab} {E : XK} {e a b c : Expr} {pos : Pos} {ma mb mc : DE}
theorem _root_.L2.PE.imp {t t' : TE} (h : PE X e t) (k : ∀ σ H Q, t' σ H Q → t σ H Q) : PE X e t' := ⟨fun pins s σ H Q I w => h.run pins s σ H Q I (k σ H Q w)⟩
theorem _root_.L2.PT.imp {t t' : TT} (h : PT X e t) (k : ∀ σ H Q, t' σ H Q → t σ H Q) : PT X e t' := ⟨fun pins s σ H Q I w => h.run pins s σ H Q I (k σ H Q w)⟩
theorem _root_.L2.PS.imp {st : Stmt} {t t' : TS} (h : PS X st t) (k : ∀ D σ H, t' D σ H → t D σ H) : PS X st t' := ⟨fun pins s σ H D I w => h.run pins s σ H D I (k D σ H w)⟩
theorem _root_.L2.PSs.imp {st : List Stmt} {t t' : TS} (h : PSs X st t) (k : ∀ D σ H, t' D σ H → t D σ H) : PSs X st t' := ⟨fun pins s σ H D I w => h.run pins s σ H D I (k D σ H w)⟩
theorem _root_.L2.PA.imp {es : List Expr} {t t' : TA} (h : PA X es t) (k : ∀ σ H Q, t' σ H Q → t σ H Q) : PA X es t' := ⟨fun pos pins s σ H Q I w => h.run pos pins s σ H Q I (k σ H Q w)⟩

/-! ### names, constants -/
def dVar (i : Nat) : DE := fun env S => RE.of S (env.getD i none)
theorem r_var {i : Nat} {x : Str} (hN : X.N[i]? = some x) (hv : Vis X.env.scope x) (hd : (x == ("__debug__" : Str)) = false := by decide) (hcd : (x == ("__classdict__" : Str)) = false := by decide) : PE X (.Name x pos) (tD X.K T E (dVar i)) :=
  (pe_var hN hv hd hcd).imp fun σ H Q ⟨g, env, S, hE, hS, h⟩ => by
    cases q : env[i]? with
    | none => rw [show dVar i env S = RE.no by unfold dVar; rw [List.getD_eq_getElem?_getD, q]; rfl] at h; exact h.elim
    | some o =>
      cases o with
      | none => rw [show dVar i env S = RE.no by unfold dVar; rw [List.getD_eq_getElem?_getD, q]; rfl] at h; exact h.elim
      | some v =>
        rw [show dVar i env S = RE.ok v S by unfold dVar; rw [List.getD_eq_getElem?_getD, q]; rfl] at h
        obtain ⟨x, e, r⟩ := hE.2 i v q
        exact ⟨x, e, h g x H (G.le.refl g) r hS⟩
def dC (v : PV) : DE := fun _ S => .ok (.p v) S
theorem pe_c {v : PV} {x : V} (h : PE X e (tC x)) (r : ∀ F, Rp X.K T F v x) : PE X e (tD X.K T E (dC v)) :=
  h.imp fun σ H Q ⟨g, env, S, hE, hS, h⟩ => h g x H (G.le.refl g) (r g.F) hS
theorem r_int {i j} : PE X (.Constant (.int i) j pos) (tD X.K T E (dC (.int i))) := pe_c pe_int fun F => rfl
theorem r_str {i j} : PE X (.Constant (.str i) j pos) (tD X.K T E (dC (.str i))) := pe_c pe_str fun F => rfl
theorem r_bl {i j} : PE X (.Constant (.bool i) j pos) (tD X.K T E (dC (.bl i))) := pe_c pe_bl fun F => rfl
theorem r_non {j} : PE X (.Constant .none j pos) (tD X.K T E (dC .non)) := pe_c pe_non fun F => rfl
theorem r_cls {x : Str} {c : Nat} (hg : Gl X x) (hm : X.mg x = some (.ref (T.C c))) (hd : (x == ("__debug__" : Str)) = false := by decide) : PE X (.Name x pos) (tD X.K T E (dC (.cls c))) := pe_c (pe_glob (v := .ref (T.C c)) hg hm rfl hd) fun F => rfl
theorem r_ty {x : Str} {n : String} (hg : Gl X x) (hm : X.mg x = none) (hv : bootBuiltins x = some (.type n)) (hn : x ≠ "__name__" := by decide) (hd : (x == ("__debug__" : Str)) = false := by decide) : PE X (.Name x pos) (tD X.K T E (dC (.ty n))) :=
  pe_c (pe_bltn (v := .ty n) hg hm hv rfl hn hd) fun F => rfl

/-! ### two-place operations -/
/-- reads values and the store, gives a value -/
abbrev M2 := VV → VV → Sto → Option VV
def OpM (X : Cx) (T : Tab) (f : Value → Value → Sem Value) (m : M2) : Prop :=
  OpR X f (fun x y H Q => ∃ g v u S, Rv X.K T g v x ∧ Rv X.K T g u y ∧ Rs X.K T g S H ∧ PostE X.K T E0 g (RE.of S (m v u S)) Q)
theorem PostE.w0 {K T} {E : XK} {g : G} {S : Sto} {o : Option VV} {Q : VK} (h : PostE K T E g (RE.of S o) Q) : PostE K T E0 g (RE.of S o) Q := by
  cases o with
  | none => exact h
  | some v => exact h
def dOp (m : M2) (ma mb : DE) : DE := fun env S => (ma env S).bind fun v S1 => (mb env S1).bind fun u S2 => RE.of S2 (m v u S2)
theorem tOp_of {r : R2} {m : M2} {σ : L2.St} {H : Hp} {Q : VK} (hr : ∀ x y H Q, (∃ g v u S, Rv X.K T g v x ∧ Rv X.K T g u y ∧ Rs X.K T g S H ∧ PostE X.K T E0 g (RE.of S (m v u S)) Q) → r x y H Q)
    (h : tD X.K T E (dOp m ma mb) σ H Q) : tOp r (tD X.K T E ma) (tD X.K T E mb) σ H Q := by
  obtain ⟨g, env, S, hE, hS, h⟩ := h
  refine ⟨g, env, S, hE, hS, ?_⟩
  have p := PostE.bind h
  revert p
  cases ma env S with
  | no => exact fun p => p
  | exc c fs S1 => exact fun p => p
  | ok v S1 =>
    intro p g1 x H1 l1 r1 s1
    obtain ⟨g2, v2, S2, l2, rv, rs, q⟩ := p g1 x H1 l1 r1 s1
    refine ⟨g2, env, S2, hE.mono X.K T l2.s, rs, ?_⟩
    have p2 := PostE.bind q
    revert p2
    cases mb env S2 with
    | no => exact fun p => p
    | exc c fs S3 => exact fun p => p
    | ok u S3 =>
      intro p2 g3 y H3 l3 r3 s3
      obtain ⟨g4, u2, S4, l4, ru, rs4, q4⟩ := p2 g3 y H3 l3 r3 s3
      exact hr _ _ _ _ ⟨g4, v2, u2, S4, rv.mono X.K T l4.s, ru, rs4, q4.w0⟩
theorem r_op {op : Operator} {m : M2} (ho : OpM X T (binaryOp op) m) (ha : PE X a (tD X.K T E ma)) (hb : PE X b (tD X.K T E mb)) : PE X (.BinOp a op b pos) (tD X.K T E (dOp m ma mb)) :=
  (pe_op ho ha hb).imp fun σ H Q h => tOp_of (fun _ _ _ _ z => z) h
theorem r_cmp {op : CmpOp} {m : M2} (ho : OpM X T (compareOp op) m) (ha : PE X a (tD X.K T E ma)) (hb : PE X b (tD X.K T E mb)) (hm : behindInMarks op b = false) : PE X (.Compare a [op] [b] pos) (tD X.K T E (dOp m ma mb)) :=
  (pe_cmpR ho ha hb hm).imp fun σ H Q h => tOp_of (fun _ _ _ _ z => z) h
end
end Dn

set_option maxRecDepth 100000
namespace Dn
open PySem PySem.Spec PyProof.Rows L2

/-! ### ints -/
def mI (f : Int → Int → Option PV) : M2 := fun v u _ => match v, u with
  | .p (.int i), .p (.int j) => (f i j).map .p
  | _, _ => none
def mAddI : M2 := mI fun i j => some (.int (i + j))
def mSub : M2 := mI fun i j => some (.int (i - j))
def mMul : M2 := mI fun i j => if i.natAbs < 2 ^ 64 ∨ j.natAbs < 2 ^ 64 then some (.int (i * j)) else none
def mDiv : M2 := mI fun i j => if 0 < j ∧ j.natAbs < 1073741824 then some (.int (i / j)) else none
def mMod : M2 := mI fun i j => if 0 < j then some (.int (i % j)) else none
def mPow : M2 := mI fun i j => if 0 ≤ j ∧ j.natAbs ≤ 1000000 ∧ i.natAbs < 2 ^ 64 then some (.int (i ^ j.toNat)) else none
def mLt : M2 := mI fun i j => some (.bl (decide (i < j)))
def mLe : M2 := mI fun i j => some (.bl (decide (i ≤ j)))
def mGt : M2 := mI fun i j => some (.bl (decide (j < i)))
def mGe : M2 := mI fun i j => some (.bl (decide (j ≤ i)))

section
variable {X : Cx} {T : Tab}
theorem PostE.val {K T} {E : XK} {g : G} {S : Sto} {H : Hp} {v : VV} {x : V} {Q : VK} (h : PostE K T E g (.ok v S) Q) (r : Rv K T g v x) (s : Rs K T g S H) : Q x H := h g x H (G.le.refl g) r s
theorem opM_I {f : Value → Value → Sem Value} {k : Int → Int → Option PV} {r : R2} (ho : OpR X f r)
    (h : ∀ i j w x H Q, k i j = some w → (∀ F, Rp X.K T F w x) → Q x H → r (.int i) (.int j) H Q) (hw : ∀ i j w, k i j = some w → ∃ x, ∀ F, Rp X.K T F w x) : OpM X T f (mI k) := by
  intro pins s σ H x y v u Q I rx ry ⟨g, a, b, S, ra, rb, hS, hp⟩
  unfold mI at hp
  split at hp
  · rename_i i j
    cases ra; cases rb
    cases e : k i j with
    | none => rw [e] at hp; exact hp.elim
    | some w =>
      rw [e] at hp
      obtain ⟨z, hz⟩ := hw i j w e
      exact ho pins s σ H _ _ v u Q I rx ry (h i j w z H Q e hz (hp.val (hz g.F) hS))
  · exact hp.elim
theorem o_addI : OpM X T (binaryOp .Add) mAddI := opM_I op_add (fun i j w x H Q e hz q => ⟨i, j, rfl, rfl, by cases e; have := hz (fun _ => none); cases this; exact q⟩) fun i j w e => ⟨.int (i + j), fun F => by cases e; rfl⟩
theorem o_sub : OpM X T (binaryOp .Sub) mSub := opM_I op_sub (fun i j w x H Q e hz q => ⟨i, j, rfl, rfl, by cases e; have := hz (fun _ => none); cases this; exact q⟩) fun i j w e => ⟨.int (i - j), fun F => by cases e; rfl⟩
theorem o_mul : OpM X T (binaryOp .Mult) mMul := opM_I op_mul (fun i j w x H Q e hz q => by
    by_cases c : i.natAbs < 2 ^ 64 ∨ j.natAbs < 2 ^ 64
    · rw [if_pos c] at e
      cases e
      have := hz (fun _ => none); cases this
      have c2 : (-(2 ^ 64) < i ∧ i < 2 ^ 64) ∨ (-(2 ^ 64) < j ∧ j < 2 ^ 64) := by omega
      exact ⟨i, j, rfl, rfl, c2, q⟩
    · rw [if_neg c] at e; cases e) fun i j w e => ⟨.int (i * j), fun F => by
    split at e
    · cases e; rfl
    · cases e⟩
theorem o_div : OpM X T (binaryOp .FloorDiv) mDiv := opM_I op_fdiv (fun i j w x H Q e hz q => by
    by_cases c : 0 < j ∧ j.natAbs < 1073741824
    · rw [if_pos c] at e
      cases e
      have := hz (fun _ => none); cases this
      have c2 : 0 < j ∧ j < 1073741824 := by omega
      exact ⟨i, j, rfl, rfl, c2, q⟩
    · rw [if_neg c] at e; cases e) fun i j w e => ⟨.int (i / j), fun F => by
    split at e
    · cases e; rfl
    · cases e⟩
theorem o_mod : OpM X T (binaryOp .Mod) mMod := opM_I op_mod (fun i j w x H Q e hz q => by
    by_cases c : 0 < j
    · rw [if_pos c] at e
      cases e
      have := hz (fun _ => none); cases this
      exact ⟨i, j, rfl, rfl, c, q⟩
    · rw [if_neg c] at e; cases e) fun i j w e => ⟨.int (i % j), fun F => by
    split at e
    · cases e; rfl
    · cases e⟩
theorem o_pow : OpM X T (binaryOp .Pow) mPow := opM_I op_pow (fun i j w x H Q e hz q => by
    by_cases c : 0 ≤ j ∧ j.natAbs ≤ 1000000 ∧ i.natAbs < 2 ^ 64
    · rw [if_pos c] at e
      cases e
      have := hz (fun _ => none); cases this
      exact ⟨i, j, rfl, rfl, ⟨c.1, by omega, c.2.2⟩, q⟩
    · rw [if_neg c] at e; cases e) fun i j w e => ⟨.int (i ^ j.toNat), fun F => by
    split at e
    · cases e; rfl
    · cases e⟩
theorem o_lt : OpM X T (compareOp .Lt) mLt := opM_I op_lt (fun i j w x H Q e hz q => ⟨i, j, rfl, rfl, by cases e; have := hz (fun _ => none); cases this; exact q⟩) fun i j w e => ⟨.bl _, fun F => by cases e; rfl⟩
theorem o_le : OpM X T (compareOp .LtE) mLe := opM_I op_le (fun i j w x H Q e hz q => ⟨i, j, rfl, rfl, by cases e; have := hz (fun _ => none); cases this; exact q⟩) fun i j w e => ⟨.bl _, fun F => by cases e; rfl⟩
theorem o_gt : OpM X T (compareOp .Gt) mGt := opM_I op_gt (fun i j w x H Q e hz q => ⟨i, j, rfl, rfl, by cases e; have := hz (fun _ => none); cases this; exact q⟩) fun i j w e => ⟨.bl _, fun F => by cases e; rfl⟩
theorem o_ge : OpM X T (compareOp .GtE) mGe := opM_I op_ge (fun i j w x H Q e hz q => ⟨i, j, rfl, rfl, by cases e; have := hz (fun _ => none); cases this; exact q⟩) fun i j w e => ⟨.bl _, fun F => by cases e; rfl⟩
end

/-! ### lists, tuples -/
def allP : List VV → Option (List PV)
  | [] => some []
  | .p v :: r => (allP r).map (v :: ·)
  | .ob _ :: _ => none
def asList (S : Sto) : VV → Option (List PV)
  | .p (.lst xs) => some xs
  | .ob i => match S[i]? with
    | some (.lst xs) => allP xs
    | _ => none
  | _ => none
def asTup : VV → Option (List PV)
  | .p (.tup xs) => some xs
  | _ => none

section
variable {K : PySem.W.Frag} {T : Tab} {g : G} {S : Sto} {H : Hp}
theorem RvL.allP : ∀ {xs : List VV} {ys : List PV} {vs : List V}, allP xs = some ys → RvL K T g xs vs → RpL K T g.F ys vs
  | [], _, _, e, r => by cases e; exact r
  | .p v :: xs, ys, vs, e, r => by
    obtain ⟨w, rr, e1, h1, h2⟩ := r
    unfold Dn.allP at e
    cases q : Dn.allP xs with
    | none => rw [q] at e; cases e
    | some zs =>
      rw [q] at e; cases e
      exact ⟨w, rr, e1, h1, RvL.allP q h2⟩
  | .ob _ :: _, _, _, e, _ => by cases e
theorem Rs.lst (hS : Rs K T g S H) {v : VV} {x : V} {xs : List PV} (e : asList S v = some xs) (r : Rv K T g v x) : ∃ a vs, x = .ref a ∧ H a = some (.lst vs) ∧ RpL K T g.F xs vs := by
  cases v with
  | p v =>
    cases v with
    | lst ys =>
      cases e
      obtain ⟨a, vs, e1, h1, h2⟩ := r
      exact ⟨a, vs, e1, hS.fz _ _ h1, h2⟩
    | _ => cases e
  | ob i =>
    obtain ⟨a, ea, e1⟩ := r
    unfold asList at e
    cases q : S[i]? with
    | none => simp [q] at e
    | some o =>
      cases o with
      | lst ys =>
        simp only [q] at e
        obtain ⟨vs, h1, h2⟩ := hS.at_ i _ a q ea
        exact ⟨a, vs, e1, h1, RvL.allP e h2⟩
      | ins c fs => simp [q] at e
      | tup _ => simp [q] at e
      | dic _ _ => simp [q] at e
theorem SqT.up {F H : Hp} (h : Same F H) {a : Addr} {xs : List V} (q : SqT K F a xs) : SqT K H a xs := by
  rcases q with (q | ⟨o, q⟩) | q
  · exact .inl (.inl (h _ _ q))
  · exact .inl (.inr ⟨o, h _ _ q⟩)
  · exact .inr q
theorem Rs.tup (hS : Rs K T g S H) {v : VV} {x : V} {xs : List PV} (e : asTup v = some xs) (r : Rv K T g v x) : ∃ a vs, x = .ref a ∧ SqT K H a vs ∧ RpL K T g.F xs vs := by
  cases v with
  | p v =>
    cases v with
    | tup ys =>
      cases e
      obtain ⟨a, vs, e1, h1, h2⟩ := r
      exact ⟨a, vs, e1, SqT.up hS.fz (.inl (.inl h1)), h2⟩
    | _ => cases e
  | ob i => cases e
theorem RpL.length {F : Hp} : ∀ {xs : List PV} {vs : List V}, RpL K T F xs vs → vs.length = xs.length
  | [], _, r => by cases r; rfl
  | _ :: _, _, ⟨_, _, e, _, h⟩ => by subst e; rw [List.length_cons, List.length_cons, RpL.length h]
theorem RpL.append {F : Hp} : ∀ {xs ys : List PV} {vs ws : List V}, RpL K T F xs vs → RpL K T F ys ws → RpL K T F (xs ++ ys) (vs ++ ws)
  | [], _, _, _, r, s => by cases r; exact s
  | _ :: _, _, _, _, ⟨v, r, e, h1, h2⟩, s => by subst e; exact ⟨v, _, rfl, h1, RpL.append h2 s⟩
theorem RpL.get {F : Hp} : ∀ {xs : List PV} {vs : List V} {i : Nat} {v : PV}, RpL K T F xs vs → xs[i]? = some v → ∃ x, vs[i]? = some x ∧ Rp K T F v x
  | [], _, _, _, _, h => by simp at h
  | _ :: _, _, 0, _, ⟨v, r, e, h1, h2⟩, h => by subst e; simp at h; subst h; exact ⟨v, rfl, h1⟩
  | _ :: _, _, i + 1, _, ⟨v, r, e, h1, h2⟩, h => by subst e; simpa using RpL.get (i := i) h2 (by simpa using h)
theorem RpL.take {F : Hp} : ∀ {xs : List PV} {vs : List V} (n : Nat), RpL K T F xs vs → RpL K T F (xs.take n) (vs.take n)
  | [], _, n, r => by cases r; simp; rfl
  | _ :: _, _, 0, _ => rfl
  | _ :: _, _, n + 1, ⟨v, r, e, h1, h2⟩ => by subst e; exact ⟨v, _, rfl, h1, RpL.take n h2⟩
theorem RpL.drop {F : Hp} : ∀ {xs : List PV} {vs : List V} (n : Nat), RpL K T F xs vs → RpL K T F (xs.drop n) (vs.drop n)
  | [], _, n, r => by cases r; simp; rfl
  | x :: xs, _, 0, r => r
  | _ :: _, _, n + 1, ⟨v, r, e, h1, h2⟩ => by subst e; exact RpL.drop n h2
/-- a new list, a new tuple that stands for good -/
theorem PostE.newL {E : XK} {Q : VK} {xs : List PV} {vs : List V} (h : PostE K T E g (.ok (.p (.lst xs)) S) Q) (hS : Rs K T g S H) (r : RpL K T g.F xs vs) : ∀ p, H p = none → Q (.ref p) (upd H p (.lst vs)) := fun p hp => by
  obtain ⟨l, s⟩ := hS.new hp (.lst vs)
  exact h _ _ _ l ⟨p, vs, rfl, by show upd g.F p _ p = _; exact upd_same, RpL.mono K T l.F xs vs r⟩ s
theorem PostE.newT {E : XK} {Q : VK} {xs : List PV} {vs : List V} (h : PostE K T E g (.ok (.p (.tup xs)) S) Q) (hS : Rs K T g S H) (r : RpL K T g.F xs vs) : ∀ p, H p = none → Q (.ref p) (upd H p (.tup vs)) := fun p hp => by
  obtain ⟨l, s⟩ := hS.new hp (.tup vs)
  exact h _ _ _ l ⟨p, vs, rfl, (by show upd g.F p _ p = _; exact upd_same), RpL.mono K T l.F xs vs r⟩ s
end

/-- the most items that a list has here -/
def LIM : Nat := 1000000
theorem lim_line {n : Nat} (h : n ≤ LIM) : n ≤ sizeLine := Nat.le_trans h (by decide)
theorem lim_lt {n : Nat} (h : n ≤ LIM) : n < sizeLine := Nat.lt_of_le_of_lt h (by decide)
def mCatL : M2 := fun v u S => match asList S v, asList S u with
  | some xs, some ys => if xs.length + ys.length ≤ LIM then some (.p (.lst (xs ++ ys))) else none
  | _, _ => none
def mCatT : M2 := fun v u _ => match asTup v, asTup u with
  | some xs, some ys => if xs.length + ys.length ≤ LIM then some (.p (.tup (xs ++ ys))) else none
  | _, _ => none
def M2.or (m m' : M2) : M2 := fun v u S => (m v u S).orElse fun _ => m' v u S
def mAddS : M2 := fun v u _ => match v, u with
  | .p (.str x), .p (.str y) => if x.length + y.length ≤ LIM then some (.p (.str (x ++ y))) else none
  | _, _ => none
section
variable {X : Cx} {T : Tab}
theorem OpM.or {f : Value → Value → Sem Value} {m m' : M2} (h : OpM X T f m) (h' : OpM X T f m') : OpM X T f (m.or m') := by
  intro pins s σ H x y v u Q I rx ry ⟨g, a, b, S, ra, rb, hS, hp⟩
  unfold M2.or at hp
  cases e : m a b S with
  | some w => rw [e] at hp; exact h pins s σ H x y v u Q I rx ry ⟨g, a, b, S, ra, rb, hS, by rw [e]; exact hp⟩
  | none => rw [e] at hp; exact h' pins s σ H x y v u Q I rx ry ⟨g, a, b, S, ra, rb, hS, hp⟩
theorem o_catL : OpM X T (binaryOp .Add) mCatL := by
  intro pins s σ H x y v u Q I rx ry ⟨g, a, b, S, ra, rb, hS, hp⟩
  unfold mCatL at hp
  cases e1 : asList S a with
  | none => simp only [e1] at hp; exact hp.elim
  | some xs =>
    cases e2 : asList S b with
    | none => simp only [e1, e2] at hp; exact hp.elim
    | some ys =>
      simp only [e1, e2] at hp
      by_cases hl : xs.length + ys.length ≤ LIM
      · rw [if_pos hl] at hp
        obtain ⟨l, vs, rfl, h1, r1⟩ := hS.lst e1 ra
        obtain ⟨l2, ws, rfl, h2, r2⟩ := hS.lst e2 rb
        exact op_cat pins s σ H _ _ v u Q I rx ry ⟨l, l2, vs, ws, rfl, rfl, h1, h2, by rw [r1.length, r2.length]; exact lim_line hl, PostE.newL hp hS (r1.append r2)⟩
      · rw [if_neg hl] at hp; exact hp.elim
theorem o_addS : OpM X T (binaryOp .Add) mAddS := by
  intro pins s σ H x y v u Q I rx ry ⟨g, a, b, S, ra, rb, hS, hp⟩
  unfold mAddS at hp
  split at hp
  · rename_i i j
    cases ra; cases rb
    split at hp
    · rename_i hl
      exact op_add_str pins s σ H _ _ v u Q I rx ry ⟨i, j, rfl, rfl, lim_line hl, hp.val rfl hS⟩
    · exact hp.elim
  · exact hp.elim
end
end Dn

set_option maxRecDepth 100000
namespace Dn
open PySem PySem.Spec PyProof.Rows L2

/-! ### tests -/
/-- a test's meaning -/
inductive RB where
  | ok (b : Bool) (S : Sto)
  | exc (c : Nat) (fs : List (String × PV)) (S : Sto)
  | no
abbrev DB := En → Sto → RB
def RE.toB (r : RE) : RB := match r with
  | .ok (.p (.bl b)) S => .ok b S
  | .ok _ _ => .no
  | .exc c fs S => .exc c fs S
  | .no => .no
@[simp] theorem RE.toB_bl (b : Bool) (S : Sto) : (RE.ok (.p (.bl b)) S).toB = .ok b S := rfl
@[simp] theorem RE.toB_exc (c fs) (S : Sto) : (RE.exc c fs S).toB = .exc c fs S := rfl
def RB.toE (r : RB) : RE := match r with
  | .ok b S => .ok (.p (.bl b)) S
  | .exc c fs S => .exc c fs S
  | .no => .no
@[simp] theorem RB.toE_ok (b : Bool) (S : Sto) : (RB.ok b S).toE = .ok (.p (.bl b)) S := rfl
def RB.bind (r : RB) (k : Bool → Sto → RB) : RB := match r with
  | .ok b S => k b S
  | .exc c fs S => .exc c fs S
  | .no => .no
@[simp] theorem RB.bind_ok (b : Bool) (S : Sto) (k) : (RB.ok b S).bind k = k b S := rfl
@[simp] theorem RB.bind_exc (c fs) (S : Sto) (k) : (RB.exc c fs S).bind k = .exc c fs S := rfl
def RB.bindE (r : RB) (k : Bool → Sto → RE) : RE := match r with
  | .ok b S => k b S
  | .exc c fs S => .exc c fs S
  | .no => .no
@[simp] theorem RB.bindE_ok (b : Bool) (S : Sto) (k) : (RB.ok b S).bindE k = k b S := rfl
@[simp] theorem RB.bindE_exc (c fs) (S : Sto) (k) : (RB.exc c fs S).bindE k = .exc c fs S := rfl
def RB.bindS (r : RB) (k : Bool → Sto → RS) : RS := match r with
  | .ok b S => k b S
  | .exc c fs S => .exc c fs S
  | .no => .no
@[simp] theorem RB.bindS_ok (b : Bool) (S : Sto) (k) : (RB.ok b S).bindS k = k b S := rfl
@[simp] theorem RB.bindS_exc (c fs) (S : Sto) (k) : (RB.exc c fs S).bindS k = .exc c fs S := rfl
def RE.bindS (r : RE) (k : VV → Sto → RS) : RS := match r with
  | .ok v S => k v S
  | .exc c fs S => .exc c fs S
  | .no => .no
@[simp] theorem RE.bindS_ok (v : VV) (S : Sto) (k) : (RE.ok v S).bindS k = k v S := rfl
@[simp] theorem RE.bindS_exc (c fs) (S : Sto) (k) : (RE.exc c fs S).bindS k = .exc c fs S := rfl

section
variable (K : PySem.W.Frag) (T : Tab)
def PostB (E : XK) (g : G) (r : RB) (Q : Bool → Hp → Prop) : Prop := match r with
  | .ok b S' => ∀ g' H', g.le g' → Rs K T g' S' H' → Q b H'
  | .exc c fs S' => ∀ g' d H', g.le g' → Rx K T g' fs d → Rs K T g' S' H' → E (.ref (T.C c)) d H'
  | .no => False
def tB_ (E : XK) (m : DB) : TT := fun σ H Q => ∃ g env S, Re K T g env σ ∧ Rs K T g S H ∧ PostB K T E g (m env S) Q
theorem PostB.up {K T} {E : XK} {g g' : G} {r : RB} {Q} (h : g.le g') (p : PostB K T E g r Q) : PostB K T E g' r Q := by
  cases r with
  | ok v S => exact fun g2 H2 l => p g2 H2 (h.trans l)
  | exc c fs S => exact fun g2 x H2 l => p g2 x H2 (h.trans l)
  | no => exact p
/-- the end of a statement -/
def PostS (E : XK) (D : Ends) (g : G) (r : RS) : Prop := match r with
  | .nx e S' => ∀ g' σ' H', g.le g' → Re K T g' e σ' → Rs K T g' S' H' → D.nx σ' H'
  | .rt v S' => ∀ g' x H', g.le g' → Rv K T g' v x → Rs K T g' S' H' → D.rt x H'
  | .bk e S' => ∀ g' σ' H', g.le g' → Re K T g' e σ' → Rs K T g' S' H' → D.bk σ' H'
  | .ct e S' => ∀ g' σ' H', g.le g' → Re K T g' e σ' → Rs K T g' S' H' → D.ct σ' H'
  | .exc c fs S' => ∀ g' d H', g.le g' → Rx K T g' fs d → Rs K T g' S' H' → E (.ref (T.C c)) d H'
  | .no => False
theorem PostS.up {K T} {E : XK} {D : Ends} {g g' : G} {r : RS} (h : g.le g') (p : PostS K T E D g r) : PostS K T E D g' r := by
  cases r with
  | nx v S => exact fun g2 x H2 l => p g2 x H2 (h.trans l)
  | rt v S => exact fun g2 x H2 l => p g2 x H2 (h.trans l)
  | bk v S => exact fun g2 x H2 l => p g2 x H2 (h.trans l)
  | ct v S => exact fun g2 x H2 l => p g2 x H2 (h.trans l)
  | exc c fs S => exact fun g2 x H2 l => p g2 x H2 (h.trans l)
  | no => exact p
def tS (E : XK) (m : DS) : TS := fun D σ H => ∃ g env S, Re K T g env σ ∧ Rs K T g S H ∧ PostS K T E D g (m env S)
end

section
variable {X : Cx} {T : Tab} {E : XK} {e a b c : Expr} {pos : Pos} {ma mb mc : DE} {ta tb : DB}
def dT (m : DE) : DB := fun env S => (m env S).toB
def dTE (m : DB) : DE := fun env S => (m env S).toE
theorem tT_of {σ H Q} (h : tB_ X.K T E (dT ma) σ H Q) : tB (tD X.K T E ma) σ H Q := by
  obtain ⟨g, env, S, hE, hS, h⟩ := h
  refine ⟨g, env, S, hE, hS, ?_⟩
  unfold dT at h
  cases q : ma env S with
  | no => rw [q] at h; exact h
  | exc c fs S1 => rw [q] at h; exact h
  | ok v S1 =>
    rw [q] at h
    cases v with
    | ob i => exact h.elim
    | p v =>
      cases v with
      | bl b => exact fun g' x H' l r s => ⟨b, r, h g' H' l s⟩
      | _ => exact h.elim
/-- a test by its value -/
theorem q_val (h : PE X e (tD X.K T E ma)) (he : ∀ whole, isTrue e X.env whole = (do let v ← whole; standAt e.pos; holding [v] (truthy v))) : PT X e (tB_ X.K T E (dT ma)) :=
  (pt_val h he).imp fun _ _ _ z => tT_of z
theorem q_cmp {op : CmpOp} {m : M2} (ho : OpM X T (compareOp op) m) (ha : PE X a (tD X.K T E ma)) (hb : PE X b (tD X.K T E mb)) (hm : behindInMarks op b = false) : PT X (.Compare a [op] [b] pos) (tB_ X.K T E (dT (dOp m ma mb))) :=
  (pt_cmpR ho ha hb hm).imp fun σ H Q h => by
    have z : tB (tD X.K T E (dOp m ma mb)) σ H Q := tT_of h
    exact tOp_of (fun _ _ _ _ z => z) z
def dAnd (ta tb : DB) : DB := fun env S => (ta env S).bind fun k S1 => match k with
  | true => tb env S1
  | false => .ok false S1
def dOr (ta tb : DB) : DB := fun env S => (ta env S).bind fun k S1 => match k with
  | true => .ok true S1
  | false => tb env S1
def dNot (ta : DB) : DB := fun env S => (ta env S).bind fun k S1 => .ok (!k) S1
theorem PostB.bind {K T} {E : XK} {g : G} {r : RB} {k : Bool → Sto → RB} {Q} (p : PostB K T E g (r.bind k) Q) :
    PostB K T E g r (fun b H1 => ∃ g1 S1, g.le g1 ∧ Rs K T g1 S1 H1 ∧ PostB K T E g1 (k b S1) Q) := by
  cases r with
  | ok v S => exact fun g1 H1 l s1 => ⟨g1, S, l, s1, PostB.up l p⟩
  | exc c fs S => exact p
  | no => exact p
theorem tAnd_of {σ H Q} (h : tB_ X.K T E (dAnd ta tb) σ H Q) : tAnd (tB_ X.K T E ta) (tB_ X.K T E tb) σ H Q := by
  obtain ⟨g, env, S, hE, hS, h⟩ := h
  refine ⟨g, env, S, hE, hS, ?_⟩
  have p := PostB.bind h
  revert p
  cases ta env S with
  | no => exact fun p => p
  | exc c fs S1 => exact fun p => p
  | ok k S1 =>
    intro p g1 H1 l1 s1
    obtain ⟨g2, S2, l2, s2, q⟩ := p g1 H1 l1 s1
    cases k with
    | true => exact iteT ⟨g2, env, S2, hE.mono X.K T l2.s, s2, q⟩
    | false => exact iteF (q g2 H1 (G.le.refl _) s2)
theorem tOr_of {σ H Q} (h : tB_ X.K T E (dOr ta tb) σ H Q) : tOr (tB_ X.K T E ta) (tB_ X.K T E tb) σ H Q := by
  obtain ⟨g, env, S, hE, hS, h⟩ := h
  refine ⟨g, env, S, hE, hS, ?_⟩
  have p := PostB.bind h
  revert p
  cases ta env S with
  | no => exact fun p => p
  | exc c fs S1 => exact fun p => p
  | ok k S1 =>
    intro p g1 H1 l1 s1
    obtain ⟨g2, S2, l2, s2, q⟩ := p g1 H1 l1 s1
    cases k with
    | true => exact iteT (q g2 H1 (G.le.refl _) s2)
    | false => exact iteF ⟨g2, env, S2, hE.mono X.K T l2.s, s2, q⟩
theorem tNot_of {σ H Q} (h : tB_ X.K T E (dNot ta) σ H Q) : tNot (tB_ X.K T E ta) σ H Q := by
  obtain ⟨g, env, S, hE, hS, h⟩ := h
  refine ⟨g, env, S, hE, hS, ?_⟩
  have p := PostB.bind h
  revert p
  cases ta env S with
  | no => exact fun p => p
  | exc c fs S1 => exact fun p => p
  | ok k S1 =>
    intro p g1 H1 l1 s1
    obtain ⟨g2, S2, l2, s2, q⟩ := p g1 H1 l1 s1
    exact q g2 H1 (G.le.refl _) s2
theorem q_and1 (h : PT X a (tB_ X.K T E ta)) : PW X (.BoolOp .And [a] pos) (tB_ X.K T E ta) := pw_and1 h
theorem q_or1 (h : PT X a (tB_ X.K T E ta)) : PW X (.BoolOp .Or [a] pos) (tB_ X.K T E ta) := pw_or1 h
theorem q_and {rest} (ha : PT X a (tB_ X.K T E ta)) (hb : PW X (.BoolOp .And (b :: rest) pos) (tB_ X.K T E tb)) : PW X (.BoolOp .And (a :: b :: rest) pos) (tB_ X.K T E (dAnd ta tb)) :=
  ⟨fun whole pins s σ H Q I h => (pw_and ha hb).run whole pins s σ H Q I (tAnd_of h)⟩
theorem q_or {rest} (ha : PT X a (tB_ X.K T E ta)) (hb : PW X (.BoolOp .Or (b :: rest) pos) (tB_ X.K T E tb)) : PW X (.BoolOp .Or (a :: b :: rest) pos) (tB_ X.K T E (dOr ta tb)) :=
  ⟨fun whole pins s σ H Q I h => (pw_or ha hb).run whole pins s σ H Q I (tOr_of h)⟩
theorem q_not (h : PT X a (tB_ X.K T E ta)) : PT X (.UnaryOp .Not a pos) (tB_ X.K T E (dNot ta)) := (pt_not h).imp fun _ _ _ z => tNot_of z
/-- and, or, not as values, of truths -/
theorem tD_B {σ H Q} (h : tD X.K T E (dTE tb) σ H Q) : tB_ X.K T E tb σ H (fun b H1 => Q (.bl b) H1) := by
  obtain ⟨g, env, S, hE, hS, h⟩ := h
  refine ⟨g, env, S, hE, hS, ?_⟩
  unfold dTE at h
  cases q : tb env S with
  | no => rw [q] at h; exact h
  | exc c fs S1 => rw [q] at h; exact h
  | ok k S1 => rw [q] at h; exact fun g' H' l s => h g' _ H' l rfl s
theorem r_one {op} {m : DE} (h : PE X a (tD X.K T E m)) : PE X (.BoolOp op [a] pos) (tD X.K T E m) := pe_one h
def dAndV (ma mb : DE) : DE := fun env S => (ma env S).bind fun v S1 => match v with
  | .p (.bl true) => mb env S1
  | .p (.bl false) => .ok (.p (.bl false)) S1
  | _ => .no
def dOrV (ma mb : DE) : DE := fun env S => (ma env S).bind fun v S1 => match v with
  | .p (.bl true) => .ok (.p (.bl true)) S1
  | .p (.bl false) => mb env S1
  | _ => .no
def dNotV (ma : DE) : DE := fun env S => (ma env S).bind fun v S1 => match v with
  | .p (.bl k) => .ok (.p (.bl (!k))) S1
  | _ => .no
theorem r_and {rest} (ha : PE X a (tD X.K T E ma)) (hb : PE X (.BoolOp .And (b :: rest) pos) (tD X.K T E mb)) : PE X (.BoolOp .And (a :: b :: rest) pos) (tD X.K T E (dAndV ma mb)) :=
  (pe_and ha hb).imp fun σ H Q ⟨g, env, S, hE, hS, h⟩ => by
    refine ⟨g, env, S, hE, hS, ?_⟩
    have p := PostE.bind h
    revert p
    cases ma env S with
    | no => exact fun p => p
    | exc c fs S1 => exact fun p => p
    | ok v S1 =>
      intro p g1 x H1 l1 r1 s1
      obtain ⟨g2, v2, S2, l2, rv, s2, q⟩ := p g1 x H1 l1 r1 s1
      cases v2 with
      | ob i => exact q.elim
      | p v2 =>
        cases v2 with
        | bl k =>
          refine ⟨k, rv, ?_⟩
          cases k with
          | true => exact iteT ⟨g2, env, S2, hE.mono X.K T l2.s, s2, q⟩
          | false => exact iteF (q.val rfl s2)
        | _ => exact q.elim
theorem r_or {rest} (ha : PE X a (tD X.K T E ma)) (hb : PE X (.BoolOp .Or (b :: rest) pos) (tD X.K T E mb)) : PE X (.BoolOp .Or (a :: b :: rest) pos) (tD X.K T E (dOrV ma mb)) :=
  (pe_or ha hb).imp fun σ H Q ⟨g, env, S, hE, hS, h⟩ => by
    refine ⟨g, env, S, hE, hS, ?_⟩
    have p := PostE.bind h
    revert p
    cases ma env S with
    | no => exact fun p => p
    | exc c fs S1 => exact fun p => p
    | ok v S1 =>
      intro p g1 x H1 l1 r1 s1
      obtain ⟨g2, v2, S2, l2, rv, s2, q⟩ := p g1 x H1 l1 r1 s1
      cases v2 with
      | ob i => exact q.elim
      | p v2 =>
        cases v2 with
        | bl k =>
          refine ⟨k, rv, ?_⟩
          cases k with
          | false => exact iteF ⟨g2, env, S2, hE.mono X.K T l2.s, s2, q⟩
          | true => exact iteT (q.val rfl s2)
        | _ => exact q.elim
theorem r_not (ha : PE X a (tD X.K T E ma)) : PE X (.UnaryOp .Not a pos) (tD X.K T E (dNotV ma)) :=
  (pe_not ha).imp fun σ H Q ⟨g, env, S, hE, hS, h⟩ => by
    refine ⟨g, env, S, hE, hS, ?_⟩
    have p := PostE.bind h
    revert p
    cases ma env S with
    | no => exact fun p => p
    | exc c fs S1 => exact fun p => p
    | ok v S1 =>
      intro p g1 x H1 l1 r1 s1
      obtain ⟨g2, v2, S2, l2, rv, s2, q⟩ := p g1 x H1 l1 r1 s1
      cases v2 with
      | ob i => exact q.elim
      | p v2 =>
        cases v2 with
        | bl k => exact ⟨k, rv, q.val rfl s2⟩
        | _ => exact q.elim
/-- a if t else b -/
def dIf (t : DB) (ma mb : DE) : DE := fun env S => (t env S).bindE fun k S1 => match k with
  | true => ma env S1
  | false => mb env S1
theorem r_if {t : DB} (ht : PT X c (tB_ X.K T E t)) (ha : PE X a (tD X.K T E ma)) (hb : PE X b (tD X.K T E mb)) : PE X (.IfExp c a b pos) (tD X.K T E (dIf t ma mb)) :=
  (pe_ifExp ht ha hb).imp fun σ H Q ⟨g, env, S, hE, hS, h⟩ => by
    refine ⟨g, env, S, hE, hS, ?_⟩
    unfold dIf at h
    cases q : t env S with
    | no => rw [q] at h; exact h
    | exc c fs S1 => rw [q] at h; exact h
    | ok k S1 =>
      rw [q] at h
      intro g1 H1 l1 s1
      cases k with
      | true => exact iteT ⟨g1, env, S1, hE.mono X.K T l1.s, s1, PostE.up l1 h⟩
      | false => exact iteF ⟨g1, env, S1, hE.mono X.K T l1.s, s1, PostE.up l1 h⟩
/-- a < b < c -/
def dChain (m m' : M2) (ma mb mc : DE) : DE := fun env S => (ma env S).bind fun v S1 => (mb env S1).bind fun u S2 => match m v u S2 with
  | some (.p (.bl true)) => (mc env S2).bind fun w S3 => RE.of S3 (m' u w S3)
  | some (.p (.bl false)) => .ok (.p (.bl false)) S2
  | _ => .no
end
end Dn

set_option maxRecDepth 100000
namespace Dn
open PySem PySem.Spec PyProof.Rows L2

section
variable {X : Cx} {T : Tab} {E : XK} {e a b c : Expr} {pos : Pos} {ma mb mc : DE} {ta tb : DB}
def RrM (X : Cx) (T : Tab) (m : M2) : R2 := fun x y H Q => ∃ g v u S, Rv X.K T g v x ∧ Rv X.K T g u y ∧ Rs X.K T g S H ∧ PostE X.K T E0 g (RE.of S (m v u S)) Q
theorem tChain_of {m m' : M2} {σ H Q} (h : tD X.K T E (dChain m m' ma mb mc) σ H Q) : tChain (RrM X T m) (RrM X T m') (tD X.K T E ma) (tD X.K T E mb) (tD X.K T E mc) σ H Q := by
  obtain ⟨g, env, S, hE, hS, h⟩ := h
  refine ⟨g, env, S, hE, hS, ?_⟩
  have p := PostE.bind h
  revert p
  cases ma env S with
  | no => exact fun p => p
  | exc c fs S1 => exact fun p => p
  | ok v S1 =>
    intro p g1 x H1 l1 r1 s1
    obtain ⟨g2, v2, S2, l2, rv, rs, q⟩ := p g1 x H1 l1 r1 s1
    refine ⟨g2, env, S2, hE.mono X.K T l2.s, rs, ?_⟩
    have p2 := PostE.bind q
    revert p2
    cases mb env S2 with
    | no => exact fun p => p
    | exc c fs S3 => exact fun p => p
    | ok u S3 =>
      intro p2 g3 y H3 l3 r3 s3
      obtain ⟨g4, u2, S4, l4, ru, rs4, q4⟩ := p2 g3 y H3 l3 r3 s3
      refine ⟨g4, v2, u2, S4, rv.mono X.K T l4.s, ru, rs4, ?_⟩
      cases e1 : m v2 u2 S4 with
      | none => simp only [e1] at q4; exact q4.elim
      | some w =>
        simp only [e1] at q4
        intro g5 z H5 l5 r5 s5
        cases w with
        | ob i => exact q4.elim
        | p w =>
          cases w with
          | bl k =>
            refine ⟨k, r5, ?_⟩
            cases k with
            | false => exact iteF (q4 g5 _ H5 l5 rfl s5)
            | true =>
              refine iteT ⟨g5, env, S4, (hE.mono X.K T l2.s).mono X.K T (l4.trans l5).s, s5, ?_⟩
              have p6 := PostE.bind (PostE.up l5 q4)
              revert p6
              cases mc env S4 with
              | no => exact fun p => p
              | exc c fs S7 => exact fun p => p
              | ok t S7 =>
                intro p6 g7 w' H7 l7 r7 s7
                obtain ⟨g8, t2, S8, l8, rt, rs8, q8⟩ := p6 g7 w' H7 l7 r7 s7
                exact ⟨g8, u2, t2, S8, (ru.mono X.K T l5.s).mono X.K T l8.s, rt, rs8, q8.w0⟩
          | _ => exact q4.elim
theorem r_chain {op op' : CmpOp} {m m' : M2} (ho : OpM X T (compareOp op) m) (ho' : OpM X T (compareOp op') m') (ha : PE X a (tD X.K T E ma)) (hb : PE X b (tD X.K T E mb)) (hc : PE X c (tD X.K T E mc))
    (hm : lastMarks [op, op'] [b, c] = false := by with_unfolding_all rfl) : PE X (.Compare a [op, op'] [b, c] pos) (tD X.K T E (dChain m m' ma mb mc)) :=
  (pe_chain (r := RrM X T m) (r' := RrM X T m') ho ho' ha hb hc hm).imp fun σ H Q h => tChain_of h
theorem q_chain {op op' : CmpOp} {m m' : M2} (ho : OpM X T (compareOp op) m) (ho' : OpM X T (compareOp op') m') (ha : PE X a (tD X.K T E ma)) (hb : PE X b (tD X.K T E mb)) (hc : PE X c (tD X.K T E mc))
    (hm : lastMarks [op, op'] [b, c] = false := by with_unfolding_all rfl) : PT X (.Compare a [op, op'] [b, c] pos) (tB_ X.K T E (dT (dChain m m' ma mb mc))) :=
  (pt_chain (r := RrM X T m) (r' := RrM X T m') ho ho' ha hb hc hm).imp fun σ H Q h => by
    have z : tB (tD X.K T E (dChain m m' ma mb mc)) σ H Q := tT_of h
    exact tChain_of z

/-! ### arguments -/
def args : List DE → En → Sto → (List VV → Sto → RE) → RE
  | [], _, S, k => k [] S
  | m :: ms, env, S, k => (m env S).bind fun v S1 => args ms env S1 fun vs S2 => k (v :: vs) S2
@[simp] theorem args_nil (env : En) (S : Sto) (k) : args [] env S k = k [] S := rfl
@[simp] theorem args_cons (m : DE) (ms) (env : En) (S : Sto) (k) : args (m :: ms) env S k = (m env S).bind fun v S1 => args ms env S1 fun vs S2 => k (v :: vs) S2 := rfl
/-- the list comes to what any continuation wants -/
def PostA (K : PySem.W.Frag) (T : Tab) (E : XK) (g : G) (ms : List DE) (env : En) (S : Sto) (Q : List V → Hp → Prop) : Prop :=
  ∃ (k : List VV → Sto → RE) (Q' : VK), PostE K T E g (args ms env S k) Q' ∧
    ∀ g1 vs S1 xs H1, vs.length = ms.length → g.le g1 → RvL K T g1 vs xs → Rs K T g1 S1 H1 → PostE K T E g1 (k vs S1) Q' → Q xs H1
def tA (K : PySem.W.Frag) (T : Tab) (E : XK) (ms : List DE) : TA := fun σ H Q => ∃ g env S, Re K T g env σ ∧ Rs K T g S H ∧ PostA K T E g ms env S Q
theorem a_nil : PA X [] (tA X.K T E []) := pa_nil.imp fun σ H Q ⟨g, env, S, hE, hS, k, Q', h, q⟩ => q g [] S [] H rfl (G.le.refl g) rfl hS h
theorem a_cons {es : List Expr} {m : DE} {ms : List DE} (ha : PE X e (tD X.K T E m)) (hr : PA X es (tA X.K T E ms)) (hs : starEach (e :: es) X.env = (false, eval e X.env) :: starEach es X.env := by rfl) : PA X (e :: es) (tA X.K T E (m :: ms)) :=
  (pa_cons ha hr hs).imp fun σ H Q ⟨g, env, S, hE, hS, k, Q', h, q⟩ => by
    refine ⟨g, env, S, hE, hS, ?_⟩
    have p := PostE.bind h
    revert p
    cases m env S with
    | no => exact fun p => p
    | exc c fs S1 => exact fun p => p
    | ok v S1 =>
      intro p g1 x H1 l1 r1 s1
      obtain ⟨g2, v2, S2, l2, rv, rs, q2⟩ := p g1 x H1 l1 r1 s1
      exact ⟨g2, env, S2, hE.mono X.K T l2.s, rs, _, Q', q2, fun g3 vs S3 xs H3 hl l3 r3 s3 q3 => q g3 (v2 :: vs) S3 (x :: xs) H3 (by rw [List.length_cons, List.length_cons, hl]) (l2.trans l3) ⟨x, xs, rfl, rv.mono X.K T l3.s, r3⟩ s3 q3⟩
/-- from a meaning over arguments to the arguments' reading -/
theorem tA_of {ms : List DE} {k : List VV → Sto → RE} {σ H} {Q : VK} {R : List V → Hp → Prop} (h : tD X.K T E (fun env S => args ms env S k) σ H Q)
    (hR : ∀ g vs S xs H, vs.length = ms.length → RvL X.K T g vs xs → Rs X.K T g S H → PostE X.K T E g (k vs S) Q → R xs H) : tA X.K T E ms σ H R := by
  obtain ⟨g, env, S, hE, hS, h⟩ := h
  exact ⟨g, env, S, hE, hS, k, Q, h, fun g1 vs S1 xs H1 hl _ r s p => hR g1 vs S1 xs H1 hl r s p⟩

/-! ### displays -/
def dTup (ms : List DE) : DE := fun env S => args ms env S fun vs S1 => match allP vs with
  | some xs => if xs.length ≤ LIM then .ok (.p (.tup xs)) S1 else .no
  | none => .no
def dLst (ms : List DE) : DE := fun env S => args ms env S fun vs S1 => match allP vs with
  | some xs => if xs.length ≤ LIM then .ok (.p (.lst xs)) S1 else .no
  | none => .no
/-- a list that will change: an object of the store -/
def dNew (ms : List DE) : DE := fun env S => args ms env S fun vs S1 => if vs.length ≤ LIM then .ok (.ob S1.length) (S1 ++ [.lst vs]) else .no
theorem RvL.length {K g} : ∀ {xs : List VV} {vs : List V}, RvL K T g xs vs → vs.length = xs.length
  | [], _, r => by cases r; rfl
  | _ :: _, _, ⟨_, _, e, _, h⟩ => by subst e; rw [List.length_cons, List.length_cons, RvL.length h]
theorem r_tup {es : List Expr} {ms : List DE} {x1} (h : PA X es (tA X.K T E ms)) : PE X (.Tuple es x1 pos) (tD X.K T E (dTup ms)) :=
  (pe_tup h).imp fun σ H Q hq => tA_of hq fun g vs S xs H hl0 r s p => by
    cases e1 : allP vs with
    | none => simp only [e1] at p; exact p.elim
    | some ys =>
      simp only [e1] at p
      by_cases hl : ys.length ≤ LIM
      · rw [if_pos hl] at p
        have r' := RvL.allP e1 r
        exact ⟨by rw [r'.length]; exact lim_line hl, PostE.newT p s r'⟩
      · rw [if_neg hl] at p; exact p.elim
theorem r_lst {es : List Expr} {ms : List DE} (h : PA X es (tA X.K T E ms)) : PE X (.List es pos) (tD X.K T E (dLst ms)) :=
  (pe_lst h).imp fun σ H Q hq => tA_of hq fun g vs S xs H hl0 r s p => by
    cases e1 : allP vs with
    | none => simp only [e1] at p; exact p.elim
    | some ys =>
      simp only [e1] at p
      by_cases hl : ys.length ≤ LIM
      · rw [if_pos hl] at p
        have r' := RvL.allP e1 r
        exact ⟨by rw [r'.length]; exact lim_line hl, PostE.newL p s r'⟩
      · rw [if_neg hl] at p; exact p.elim
theorem r_new {es : List Expr} {ms : List DE} (h : PA X es (tA X.K T E ms)) : PE X (.List es pos) (tD X.K T E (dNew ms)) :=
  (pe_lst h).imp fun σ H Q hq => tA_of hq fun g vs S xs H hl0 r s p => by
    by_cases hl : vs.length ≤ LIM
    · rw [if_pos hl] at p
      refine ⟨by rw [r.length]; exact lim_line hl, fun q hp => ?_⟩
      have l := G.le_alloc g q
      have s' := s.alloc (so := .lst vs) (o := .lst xs) hp ⟨xs, upd_same, r.mono X.K T l.s⟩
      refine p _ _ _ l ⟨q, ?_, rfl⟩ s'
      show (g.f ++ [q])[S.length]? = some q
      rw [s.len, List.getElem?_append_right (Nat.le_refl _), Nat.sub_self]
      rfl
    · rw [if_neg hl] at p; exact p.elim

/-! ### calls of own defs -/
/-- a def's promise by its meaning -/
def spD (K : PySem.W.Frag) (T : Tab) (np : Nat) (m : DF) : Sp := fun vs H Q E => vs.length = np ∧ ∃ g as S, RvL K T g as vs ∧ Rs K T g S H ∧ PostE K T E g (m as S) Q
def dCall (m : DF) (ms : List DE) (ds : List PV) : DE := fun env S => args ms env S fun vs S1 => m (vs ++ ds.map .p) S1
def Dsv (ds : List PV) (dvs : List V) : Prop := ∀ (K : PySem.W.Frag) (T : Tab) (F : Hp), RpL K T F ds dvs
theorem RvL.append {K g} : ∀ {xs ys : List VV} {vs ws : List V}, RvL K T g xs vs → RvL K T g ys ws → RvL K T g (xs ++ ys) (vs ++ ws)
  | [], _, _, _, r, s => by cases r; exact s
  | _ :: _, _, _, _, ⟨v, r, e, h1, h2⟩, s => by subst e; exact ⟨v, _, rfl, h1, RvL.append h2 s⟩
theorem RvL.ofP {K g} : ∀ {xs : List PV} {vs : List V}, RpL K T g.F xs vs → RvL K T g (xs.map .p) vs
  | [], _, r => r
  | _ :: _, _, ⟨v, r, e, h1, h2⟩ => ⟨v, r, e, h1, RvL.ofP h2⟩
/-- the def at f -/
abbrev FnD (X : Cx) (T : Tab) (k : Nat) (f : Addr) (fd : FuncData) (ps : List Str) (m : DF) : Prop := FnOk X.prog X.w X.K X.mg X.base (L2.CX X.prog X.w) k f fd ps (spD X.K T ps.length m)
def Tks (X : Cx) (E : XK) : Prop := Takes X (fun c d _ H => E c d H)
theorem Tks.pass (tk : Tks X E) : Passes (L2.CX X.prog X.w) X E := passes_call tk fun _ _ _ _ h => h
theorem r_call {k : Nat} {f : Addr} {fd : FuncData} {ps : List Str} {m : DF} {ds : List PV} {dvs : List V} {dus : List Value} {x : Str} {p : Pos} {es : List Expr} {ms : List DE} (tk : Tks X E) (F : FnD X T k f fd ps m) (hr : Room k X.A) (hg : Gl X x) (hm : X.mg x = some (.ref f)) (hk : PySem.W.keepIn X.K (.ref f) = true)
    (hb : Binds X.K fd ps dus) (hd : Vals dvs dus) (hds : Dsv ds dvs) (hn : ms.length + ds.length = ps.length := by rfl) (ha : PA X (e :: es) (tA X.K T E ms)) (he : starEach (e :: es) X.env = (false, eval e X.env) :: starEach es X.env := by rfl) (hpl : (backTo pos (starEach es X.env)).any (·.1) = false := by rfl)
    (hdb : (x == ("__debug__" : Str)) = false := by decide) :
    PE X (.Call (.Name x p) (e :: es) [] pos) (tD X.K T E (dCall m ms ds)) :=
  (pe_call F hr hg hm hk hb hd tk.pass ha hdb he hpl).imp fun σ H Q h => tA_of h fun g vs S xs H hl0 r s q => by
    have r2 : RvL X.K T g (vs ++ ds.map .p) (xs ++ dvs) := r.append (RvL.ofP (hds _ _ _))
    exact ⟨by rw [r2.length, List.length_append, List.length_map, hl0, hn], g, _, S, r2, s, q⟩
theorem r_call0 {k : Nat} {f : Addr} {fd : FuncData} {ps : List Str} {m : DF} {ds : List PV} {dvs : List V} {dus : List Value} {x : Str} {p : Pos} (tk : Tks X E) (F : FnD X T k f fd ps m) (hr : Room k X.A) (hg : Gl X x) (hm : X.mg x = some (.ref f)) (hk : PySem.W.keepIn X.K (.ref f) = true)
    (hb : Binds X.K fd ps dus) (hd : Vals dvs dus) (hds : Dsv ds dvs) (hn : ds.length = ps.length := by rfl) (hdb : (x == ("__debug__" : Str)) = false := by decide) :
    PE X (.Call (.Name x p) [] [] pos) (tD X.K T E (dCall m [] ds)) :=
  (pe_call0 F hr hg hm hk hb hd tk.pass hdb).imp fun σ H Q ⟨g, env, S, hE, hS, h⟩ => by
    have r2 : RvL X.K T g ([] ++ ds.map .p) ([] ++ dvs) := RvL.ofP (hds _ _ _)
    exact ⟨by rw [r2.length, List.length_append, List.length_map, ← hn]; exact Nat.zero_add _, g, _, S, r2, hS, h⟩
theorem ofString_inj {a b : String} (h : Str.ofString a = Str.ofString b) : a = b := by
  unfold Str.ofString at h
  injection h with h
  have h2 := congrArg Array.toList h
  simp only [cpsOfBytes_string] at h2
  have h3 : a.toList = b.toList := by
    have inj : ∀ c d : Char, c.toNat = d.toNat → c = d := fun c d e => Char.toNat_inj.mp e
    have go : ∀ l m : List Char, l.map Char.toNat = m.map Char.toNat → l = m := by
      intro l
      induction l with
      | nil => intro m e; cases m with
        | nil => rfl
        | cons _ _ => simp at e
      | cons c l ih => intro m e; cases m with
        | nil => simp at e
        | cons d m =>
          simp only [List.map_cons, List.cons.injEq] at e
          rw [inj c d e.1, ih m e.2]
    exact go _ _ h2
  exact String.toList_inj.mp h3
theorem RvF.look {K g} {n : String} : ∀ {fs : List (String × VV)} {vs : List (Str × V)}, RvF K T g fs vs → (∀ v, fs.lookup n = some v → ∃ x, vs.lookup (Str.ofString n) = some x ∧ Rv K T g v x) ∧ (fs.lookup n = none → vs.lookup (Str.ofString n) = none)
  | [], _, r => by cases r; exact ⟨fun v e => (by cases e), fun _ => rfl⟩
  | (m, u) :: fs, _, ⟨x, r, e, h1, h2⟩ => by
    subst e
    have ih := RvF.look (n := n) h2
    by_cases hm : n = m
    · subst hm
      simp only [List.lookup_cons, beq_self_eq_true]
      exact ⟨fun v e => by cases e; exact ⟨x, rfl, h1⟩, fun e => by cases e⟩
    · have e1 : (n == m) = false := beq_eq_false_iff_ne.mpr hm
      have e2 : (Str.ofString n == Str.ofString m) = false := beq_eq_false_iff_ne.mpr fun z => hm (ofString_inj z)
      simp only [List.lookup_cons, e1, e2]
      exact ih
theorem RpF.toRv {K g} : ∀ {fs : List (String × PV)} {vs : List (Str × V)}, RpF K T g.F fs vs → RvF K T g (fs.map fun q => (q.1, VV.p q.2)) vs
  | [], _, r => r
  | (_, _) :: _, _, ⟨x, r, e, h1, h2⟩ => ⟨x, r, e, h1, RpF.toRv h2⟩
/-- the class and the fields of an instance -/
def insOf (S : Sto) : VV → Option (Nat × List (String × VV))
  | .p (.ins c fs) => some (c, fs.map fun q => (q.1, VV.p q.2))
  | .ob i => match S[i]? with
    | some (.ins c fs) => some (c, fs)
    | _ => none
  | _ => none
theorem Rs.ins {K g S H} (hS : Rs K T g S H) {v : VV} {x : V} {c : Nat} {fs : List (String × VV)} (e : insOf S v = some (c, fs)) (r : Rv K T g v x) : ∃ a dx vs, x = .ref a ∧ H a = some (.ins (T.C c) dx vs) ∧ RvF K T g fs vs := by
  cases v with
  | p v =>
    cases v with
    | ins c' fs' =>
      cases e
      obtain ⟨a, dx, vs, e1, h1, h2⟩ := r
      exact ⟨a, dx, vs, e1, hS.fz _ _ h1, h2.toRv⟩
    | _ => cases e
  | ob i =>
    obtain ⟨a, ea, e1⟩ := r
    unfold insOf at e
    cases q : S[i]? with
    | none => simp [q] at e
    | some o =>
      cases o with
      | ins c' fs' =>
        simp only [q] at e
        cases e
        obtain ⟨dx, vs, h1, h2⟩ := hS.at_ i _ a q ea
        exact ⟨a, dx, vs, e1, h1, h2⟩
      | lst xs => simp [q] at e
      | tup _ => simp [q] at e
      | dic _ _ => simp [q] at e
/-- o.f -/
def fldOf (c0 : Nat) (f : String) (S : Sto) (o : VV) : Option VV := match insOf S o with
  | some (c, fs) => if c = c0 then fs.lookup f else none
  | none => none
def dFld (c0 : Nat) (f : String) (mo : DE) : DE := fun env S => (mo env S).bind fun o S1 => RE.of S1 (fldOf c0 f S1 o)
theorem r_fld (c0 : Nat) {f : String} {mo : DE} (he : PE X e (tD X.K T E mo)) (hc : Cls X.K (T.C c0)) (hn : NoAttr X.K (T.C c0) (Str.ofString f)) (hb : attributeBase e (Str.ofString f) X.env (eval e X.env) = eval e X.env := by rfl) :
    PE X (.Attribute e (Str.ofString f) pos) (tD X.K T E (dFld c0 f mo)) :=
  (pe_fld he hb).imp fun σ H Q ⟨g, env, S, hE, hS, h⟩ => by
    refine ⟨g, env, S, hE, hS, ?_⟩
    have p := PostE.bind h
    revert p
    cases mo env S with
    | no => exact fun p => p
    | exc c fs S1 => exact fun p => p
    | ok v S1 =>
      intro p g1 x H1 l1 r1 s1
      obtain ⟨g2, v2, S2, l2, rv, rs, q⟩ := p g1 x H1 l1 r1 s1
      unfold fldOf at q
      cases e1 : insOf S2 v2 with
      | none => simp only [e1] at q; exact q.elim
      | some cf =>
        obtain ⟨c, fs⟩ := cf
        simp only [e1] at q
        by_cases hcc : c = c0
        case neg => rw [if_neg hcc] at q; exact q.elim
        rw [if_pos hcc] at q
        subst hcc
        obtain ⟨a, dx, vs, e2, h1, h2⟩ := rs.ins e1 rv
        cases e3 : fs.lookup f with
        | none => rw [e3] at q; exact q.elim
        | some w =>
          rw [e3] at q
          obtain ⟨z, e4, rz⟩ := (RvF.look h2).1 w e3
          exact ⟨a, T.C c, dx, vs, z, e2, h1, hc, hn, e4, q.val rz rs⟩
end
end Dn

set_option maxRecDepth 100000
namespace Dn
open PySem PySem.Spec PyProof.Rows L2

section
variable {X : Cx} {T : Tab} {E : XK} {e a b c o : Expr} {pos apos : Pos} {ma mb mc mo : DE} {ta tb : DB}
/-! ### methods of own classes, new instances -/
def isIns (c : Nat) (mn : String) (S : Sto) (o : VV) : Bool := match insOf S o with
  | some (c', fs) => c' == c && (fs.lookup mn).isNone
  | none => false
def dMeth (c : Nat) (mn : String) (m : DF) (mo : DE) (ms : List DE) (ds : List PV) : DE := fun env S => (mo env S).bind fun o S1 =>
  if isIns c mn S1 o then args ms env S1 fun vs S2 => m (o :: (vs ++ ds.map .p)) S2 else .no
theorem tMeth_of {c : Nat} {mn : String} {m : DF} {ms : List DE} {ds : List PV} {dvs : List V} {np : Nat} {σ H} {Q : VK} (hds : Dsv ds dvs) (hn : ms.length + ds.length + 1 = np) (h : tD X.K T E (dMeth c mn m mo ms ds) σ H Q) :
    tMeth (T.C c) (Str.ofString mn) (spD X.K T np m) dvs E (tD X.K T E mo) (tA X.K T E ms) σ H Q := by
  obtain ⟨g, env, S, hE, hS, h⟩ := h
  refine ⟨g, env, S, hE, hS, ?_⟩
  have p := PostE.bind h
  revert p
  cases mo env S with
  | no => exact fun p => p
  | exc c fs S1 => exact fun p => p
  | ok v S1 =>
    intro p g1 x H1 l1 r1 s1
    obtain ⟨g2, v2, S2, l2, rv, rs, q⟩ := p g1 x H1 l1 r1 s1
    by_cases hi : isIns c mn S2 v2 = true
    · rw [if_pos hi] at q
      unfold isIns at hi
      cases e1 : insOf S2 v2 with
      | none => rw [e1] at hi; cases hi
      | some cf =>
        obtain ⟨c', fs⟩ := cf
        rw [e1] at hi
        simp only [Bool.and_eq_true, beq_iff_eq, Option.isNone_iff_eq_none] at hi
        obtain ⟨rfl, hi⟩ := hi
        obtain ⟨a, dx, vs, e2, h1, h2⟩ := rs.ins e1 rv
        refine ⟨a, dx, vs, e2, h1, (RvF.look h2).2 hi, ?_⟩
        refine ⟨g2, env, S2, hE.mono X.K T l2.s, rs, _, Q, q, fun g3 as S3 xs H3 hl l3 r3 s3 q3 => ?_⟩
        have r4 : RvL X.K T g3 (v2 :: (as ++ ds.map .p)) (x :: (xs ++ dvs)) := ⟨x, _, rfl, rv.mono X.K T l3.s, r3.append (RvL.ofP (hds _ _ _))⟩
        exact ⟨by rw [r4.length, List.length_cons, List.length_append, List.length_map, hl]; exact hn, g3, _, S3, r4, s3, q3⟩
    · rw [if_neg hi] at q; exact q.elim
theorem r_meth {c : Nat} {mn : String} {k : Nat} {f : Addr} {fd : FuncData} {ps : List Str} {m : DF} {ds : List PV} {dvs : List V} {dus : List Value} {es : List Expr} {ms : List DE} {pl : Sem Bool} (he : PE X o (tD X.K T E mo)) (hc : Cls X.K (T.C c)) (hm : Meth X.K (T.C c) (Str.ofString mn) f) (tk : Tks X E) (F : FnD X T k f fd ps m) (hr : Room k X.A)
    (hb : Binds X.K fd ps dus) (hd : Vals dvs dus) (hds : Dsv ds dvs) (ha : PA X (e :: es) (tA X.K T E ms)) (hn : ms.length + ds.length + 1 = ps.length := by rfl)
    (hst : starEach (e :: es) X.env = (false, eval e X.env) :: starEach es X.env := by rfl) (hpl : (backTo pos (starEach es X.env)).any (·.1) = false := by rfl)
    (ht : eval (.Call (.Attribute o (Str.ofString mn) apos) (e :: es) [] pos) X.env = (do
      let ov ← eval o X.env
      standAt apos.atName
      let (f, first) ← holding [ov] (getMethod ov (Str.ofString mn) pl)
      callWith pos f first (backTo pos (starEach (e :: es) X.env)) (backToKw pos (keywordEach [] X.env))) := by rfl) :
    PE X (.Call (.Attribute o (Str.ofString mn) apos) (e :: es) [] pos) (tD X.K T E (dMeth c mn m mo ms ds)) :=
  (pe_meth he hc hm F hr hb hd tk.pass ha hst hpl ht).imp fun σ H Q h => tMeth_of hds hn h
theorem r_meth0 {c : Nat} {mn : String} {k : Nat} {f : Addr} {fd : FuncData} {ps : List Str} {m : DF} {ds : List PV} {dvs : List V} {dus : List Value} {pl : Sem Bool} (he : PE X o (tD X.K T E mo)) (hc : Cls X.K (T.C c)) (hm : Meth X.K (T.C c) (Str.ofString mn) f) (tk : Tks X E) (F : FnD X T k f fd ps m) (hr : Room k X.A)
    (hb : Binds X.K fd ps dus) (hd : Vals dvs dus) (hds : Dsv ds dvs) (hn : ds.length + 1 = ps.length := by rfl)
    (ht : eval (.Call (.Attribute o (Str.ofString mn) apos) [] [] pos) X.env = (do
      let ov ← eval o X.env
      standAt apos.atName
      let (f, first) ← holding [ov] (getMethod ov (Str.ofString mn) pl)
      callWith pos f first (backTo pos (starEach [] X.env)) (backToKw pos (keywordEach [] X.env))) := by rfl) :
    PE X (.Call (.Attribute o (Str.ofString mn) apos) [] [] pos) (tD X.K T E (dMeth c mn m mo [] ds)) :=
  (pe_meth0 he hc hm F hr hb hd tk.pass ht).imp fun σ H Q h => by
    obtain ⟨g, env, S, hE, hS, h2⟩ := tMeth_of (X := X) (T := T) (E := E) (mo := mo) (ms := []) (np := ps.length) hds (by rw [← hn]; simp) h
    refine ⟨g, env, S, hE, hS, ?_⟩
    revert h2
    cases mo env S with
    | no => exact fun p => p
    | exc c fs S1 => exact fun p => p
    | ok v S1 =>
      intro h2 g1 x H1 l1 r1 s1
      obtain ⟨a, dx, fs, e1, e2, e3, g2, env2, S2, hE2, hS2, k, Q', p, q⟩ := h2 g1 x H1 l1 r1 s1
      exact ⟨a, dx, fs, e1, e2, e3, q g2 [] S2 [] H1 rfl (G.le.refl _) rfl hS2 p⟩

end

/-! ### one and the same -/
mutual
def PV.beq : PV → PV → Bool
  | .non, .non => true
  | .bl a, .bl b => a == b
  | .int a, .int b => a == b
  | .str a, .str b => a == b
  | .tup a, .tup b => PV.beqL a b
  | .lst a, .lst b => PV.beqL a b
  | .scr a, .scr b => PV.beqL a b
  | .ins c a, .ins d b => c == d && PV.beqF a b
  | .cls a, .cls b => a == b
  | .ty a, .ty b => a == b
  | .exn, .exn => true
  | .dic s a, .dic t b => s == t && PV.beqK a b
  | _, _ => false
termination_by structural x => x
def PV.beqK : List (PV × PV) → List (PV × PV) → Bool
  | [], [] => true
  | (k, a) :: as, (l, b) :: bs => PV.beq k l && (PV.beq a b && PV.beqK as bs)
  | _, _ => false
termination_by structural x => x
def PV.beqL : List PV → List PV → Bool
  | [], [] => true
  | a :: as, b :: bs => PV.beq a b && PV.beqL as bs
  | _, _ => false
termination_by structural x => x
def PV.beqF : List (String × PV) → List (String × PV) → Bool
  | [], [] => true
  | (n, a) :: as, (m, b) :: bs => n == m && (PV.beq a b && PV.beqF as bs)
  | _, _ => false
termination_by structural x => x
end
mutual
theorem PV.beq_eq : ∀ (a b : PV), PV.beq a b = true → a = b
  | .non, b, h => by cases b <;> first | rfl | cases h
  | .bl x, b, h => by
    cases b <;> first | (simp only [PV.beq, beq_iff_eq] at h; rw [h]; done) | cases h
  | .int x, b, h => by
    cases b <;> first | (simp only [PV.beq, beq_iff_eq] at h; rw [h]; done) | cases h
  | .str x, b, h => by
    cases b <;> first | (simp only [PV.beq, beq_iff_eq] at h; rw [h]; done) | cases h
  | .tup x, b, h => by
    cases b <;> first | (simp only [PV.beq] at h; rw [PV.beqL_eq _ _ h]; done) | cases h
  | .lst x, b, h => by
    cases b <;> first | (simp only [PV.beq] at h; rw [PV.beqL_eq _ _ h]; done) | cases h
  | .scr x, b, h => by
    cases b <;> first | (simp only [PV.beq] at h; rw [PV.beqL_eq _ _ h]; done) | cases h
  | .ins c x, b, h => by
    cases b <;> first | (simp only [PV.beq, Bool.and_eq_true, beq_iff_eq] at h; rw [h.1, PV.beqF_eq _ _ h.2]; done) | cases h
  | .cls x, b, h => by
    cases b <;> first | (simp only [PV.beq, beq_iff_eq] at h; rw [h]; done) | cases h
  | .ty x, b, h => by
    cases b <;> first | (simp only [PV.beq, beq_iff_eq] at h; rw [h]; done) | cases h
  | .exn, b, h => by cases b <;> first | rfl | cases h
  | .dic t x, b, h => by
    cases b <;> first | (simp only [PV.beq, Bool.and_eq_true, beq_iff_eq] at h; rw [h.1, PV.beqK_eq _ _ h.2]; done) | cases h
theorem PV.beqK_eq : ∀ (a b : List (PV × PV)), PV.beqK a b = true → a = b
  | [], b, h => by cases b <;> first | rfl | cases h
  | (k, x) :: xs, b, h => by
    cases b with
    | nil => cases h
    | cons y ys =>
      obtain ⟨m, y⟩ := y
      simp only [PV.beqK, Bool.and_eq_true] at h
      rw [PV.beq_eq k m h.1, PV.beq_eq x y h.2.1, PV.beqK_eq xs ys h.2.2]
theorem PV.beqL_eq : ∀ (a b : List PV), PV.beqL a b = true → a = b
  | [], b, h => by cases b <;> first | rfl | cases h
  | x :: xs, b, h => by
    cases b with
    | nil => cases h
    | cons y ys =>
      simp only [PV.beqL, Bool.and_eq_true] at h
      rw [PV.beq_eq x y h.1, PV.beqL_eq xs ys h.2]
theorem PV.beqF_eq : ∀ (a b : List (String × PV)), PV.beqF a b = true → a = b
  | [], b, h => by cases b <;> first | rfl | cases h
  | (n, x) :: xs, b, h => by
    cases b with
    | nil => cases h
    | cons y ys =>
      obtain ⟨m, y⟩ := y
      simp only [PV.beqF, Bool.and_eq_true, beq_iff_eq] at h
      rw [h.1, PV.beq_eq x y h.2.1, PV.beqF_eq xs ys h.2.2]
end
mutual
theorem PV.beq_refl : ∀ (a : PV), PV.beq a a = true
  | .non => rfl
  | .bl x => by simp [PV.beq]
  | .int x => by simp [PV.beq]
  | .str x => by simp [PV.beq]
  | .tup x => by simp [PV.beq, PV.beqL_refl x]
  | .lst x => by simp [PV.beq, PV.beqL_refl x]
  | .scr x => by simp [PV.beq, PV.beqL_refl x]
  | .ins c x => by simp [PV.beq, PV.beqF_refl x]
  | .cls x => by simp [PV.beq]
  | .ty x => by simp [PV.beq]
  | .exn => rfl
  | .dic t x => by simp [PV.beq, PV.beqK_refl x]
theorem PV.beqK_refl : ∀ (a : List (PV × PV)), PV.beqK a a = true
  | [] => rfl
  | (k, x) :: xs => by simp [PV.beqK, PV.beq_refl k, PV.beq_refl x, PV.beqK_refl xs]
theorem PV.beqL_refl : ∀ (a : List PV), PV.beqL a a = true
  | [] => rfl
  | x :: xs => by simp [PV.beqL, PV.beq_refl x, PV.beqL_refl xs]
theorem PV.beqF_refl : ∀ (a : List (String × PV)), PV.beqF a a = true
  | [] => rfl
  | (n, x) :: xs => by simp [PV.beqF, PV.beq_refl x, PV.beqF_refl xs]
end
def VV.beq : VV → VV → Bool
  | .p a, .p b => PV.beq a b
  | .ob i, .ob j => i == j
  | _, _ => false
def VV.beqL : List VV → List VV → Bool
  | [], [] => true
  | a :: as, b :: bs => VV.beq a b && VV.beqL as bs
  | _, _ => false
def VV.beqF : List (String × VV) → List (String × VV) → Bool
  | [], [] => true
  | (n, a) :: as, (m, b) :: bs => n == m && (VV.beq a b && VV.beqF as bs)
  | _, _ => false
def VV.beqK : List (PV × VV) → List (PV × VV) → Bool
  | [], [] => true
  | (k, a) :: as, (l, b) :: bs => PV.beq k l && (VV.beq a b && VV.beqK as bs)
  | _, _ => false
def SO.beq : SO → SO → Bool
  | .lst a, .lst b => VV.beqL a b
  | .ins c a, .ins d b => c == d && VV.beqF a b
  | .tup a, .tup b => VV.beqL a b
  | .dic s a, .dic t b => s == t && VV.beqK a b
  | _, _ => false
def Sto.same : Sto → Sto → Bool
  | [], [] => true
  | a :: as, b :: bs => SO.beq a b && Sto.same as bs
  | _, _ => false
theorem VV.beq_eq : ∀ {a b : VV}, VV.beq a b = true → a = b
  | .p _, .p _, h => by rw [PV.beq_eq _ _ h]
  | .ob i, .ob j, h => by
    have e : i = j := by simpa [VV.beq] using h
    rw [e]
  | .p _, .ob _, h => nomatch h
  | .ob _, .p _, h => nomatch h
theorem VV.beqL_eq : ∀ {a b : List VV}, VV.beqL a b = true → a = b
  | [], b, h => by cases b <;> first | rfl | cases h
  | x :: xs, b, h => by
    cases b with
    | nil => cases h
    | cons y ys =>
      simp only [VV.beqL, Bool.and_eq_true] at h
      rw [VV.beq_eq h.1, VV.beqL_eq h.2]
theorem VV.beqF_eq : ∀ {a b : List (String × VV)}, VV.beqF a b = true → a = b
  | [], b, h => by cases b <;> first | rfl | cases h
  | (n, x) :: xs, b, h => by
    cases b with
    | nil => cases h
    | cons y ys =>
      obtain ⟨m, y⟩ := y
      simp only [VV.beqF, Bool.and_eq_true, beq_iff_eq] at h
      rw [h.1, VV.beq_eq h.2.1, VV.beqF_eq h.2.2]
theorem VV.beqK_eq : ∀ {a b : List (PV × VV)}, VV.beqK a b = true → a = b
  | [], b, h => by cases b <;> first | rfl | cases h
  | (k, x) :: xs, b, h => by
    cases b with
    | nil => cases h
    | cons y ys =>
      obtain ⟨m, y⟩ := y
      simp only [VV.beqK, Bool.and_eq_true] at h
      rw [PV.beq_eq k m h.1, VV.beq_eq h.2.1, VV.beqK_eq h.2.2]
theorem SO.beq_eq {a b : SO} (h : SO.beq a b = true) : a = b := by
  cases a <;> cases b
  case lst.lst => rw [VV.beqL_eq h]
  case ins.ins => simp only [SO.beq, Bool.and_eq_true, beq_iff_eq] at h; rw [h.1, VV.beqF_eq h.2]
  case tup.tup => rw [VV.beqL_eq h]
  case dic.dic => simp only [SO.beq, Bool.and_eq_true, beq_iff_eq] at h; rw [h.1, VV.beqK_eq h.2]
  all_goals cases h
theorem Sto.same_eq : ∀ {a b : Sto}, Sto.same a b = true → a = b
  | [], b, h => by cases b <;> first | rfl | cases h
  | x :: xs, b, h => by
    cases b with
    | nil => cases h
    | cons y ys =>
      simp only [Sto.same, Bool.and_eq_true] at h
      rw [SO.beq_eq h.1, Sto.same_eq h.2]
@[simp] theorem VV.beq_refl (a : VV) : VV.beq a a = true := by
  cases a
  · exact PV.beq_refl _
  · simp [VV.beq]
@[simp] theorem VV.beqL_refl : ∀ (a : List VV), VV.beqL a a = true
  | [] => rfl
  | x :: xs => by simp [VV.beqL, VV.beqL_refl xs]
@[simp] theorem VV.beqF_refl : ∀ (a : List (String × VV)), VV.beqF a a = true
  | [] => rfl
  | (n, x) :: xs => by simp [VV.beqF, VV.beqF_refl xs]
@[simp] theorem VV.beqK_refl : ∀ (a : List (PV × VV)), VV.beqK a a = true
  | [] => rfl
  | (k, x) :: xs => by simp [VV.beqK, PV.beq_refl, VV.beqK_refl xs]
@[simp] theorem SO.beq_refl (a : SO) : SO.beq a a = true := by
  cases a <;> simp [SO.beq]
@[simp] theorem Sto.same_refl : ∀ (a : Sto), Sto.same a a = true
  | [] => rfl
  | x :: xs => by simp [Sto.same, Sto.same_refl xs]

section
variable {X : Cx} {T : Tab} {E : XK} {e a b c o : Expr} {pos apos : Pos} {ma mb mc mo : DE} {ta tb : DB}
/-- all of them are plain -/
def plainF : List (String × VV) → Option (List (String × PV))
  | [] => some []
  | (n, .p v) :: r => (plainF r).map ((n, v) :: ·)
  | (_, .ob _) :: _ => none
theorem RvF.plain {K g} : ∀ {fs : List (String × VV)} {gs : List (String × PV)} {vs : List (Str × V)}, plainF fs = some gs → RvF K T g fs vs → RpF K T g.F gs vs
  | [], _, _, e, r => by cases e; exact r
  | (n, .p v) :: fs, gs, vs, e, r => by
    obtain ⟨w, rr, e1, h1, h2⟩ := r
    unfold plainF at e
    cases q : plainF fs with
    | none => rw [q] at e; cases e
    | some zs =>
      rw [q] at e; cases e
      exact ⟨w, rr, e1, h1, RvF.plain q h2⟩
  | (_, .ob _) :: _, _, _, e, _ => by cases e
/-- C(..), the instance kept in the store -/
def dMakeS (c : Nat) (m : DF) (ms : List DE) (ds : List PV) : DE := fun env S => args ms env S fun vs S1 => (m (.ob S1.length :: (vs ++ ds.map .p)) (S1 ++ [.ins c []])).bind fun w S2 => match w with
  | .p .non => .ok (.ob S1.length) S2
  | _ => .no
/-- C(..), the instance never changed any more: a plain value; the store as it was -/
def frzIns (S1 S2 : Sto) : RE := match S2[S1.length]? with
  | some (.ins c fs) => match plainF fs with
    | some gs => if Sto.same (S2.take S1.length) S1 then .ok (.p (.ins c gs)) S1 else .no
    | none => .no
  | _ => .no
def backTo_ (S1 : Sto) (r : RE) : RE := match r with
  | .exc c fs S2 => if Sto.same (S2.take S1.length) S1 then .exc c fs S1 else .no
  | r => r
def dMake (c : Nat) (m : DF) (ms : List DE) (ds : List PV) : DE := fun env S => args ms env S fun vs S1 => (backTo_ S1 (m (.ob S1.length :: (vs ++ ds.map .p)) (S1 ++ [.ins c []]))).bind fun w S2 => match w with
  | .p .non => frzIns S1 S2
  | _ => .no

end
/-! ### what was made meanwhile is let go: it stands for good -/
section
variable {K : PySem.W.Frag} {T : Tab} {g g2 : G} {S1 S2 : Sto} {H H2 : Hp}
def G.cut (g2 : G) (H : Hp) (n : Nat) : G := { F := fun a => if a ∈ g2.f.drop n then H a else g2.F a, f := g2.f.take n, hid := g2.hid }
theorem cut_F (r2 : Rs K T g2 S2 H2) (n : Nat) : Same g2.F (g2.cut H2 n).F := fun a o e => by
  show (if a ∈ g2.f.drop n then H2 a else g2.F a) = some o
  rw [if_neg fun hm => by rw [r2.apart a (List.mem_of_mem_drop hm)] at e; cases e]
  exact e
theorem Rv.back (hf : g.f <+: g2.f) {g3 : G} (h3 : g3.f = g.f) (hF : Same g2.F g3.F) {v : VV} {x y : V} (r : Rv K T g v x) (q : Rv K T g2 v y) : Rv K T g3 v y := by
  cases v with
  | p v => exact Rp.mono K T hF v y q
  | ob i =>
    obtain ⟨a, ea, _⟩ := r
    obtain ⟨b, eb, e⟩ := q
    obtain ⟨t, ht⟩ := hf
    refine ⟨a, by rw [h3]; exact ea, ?_⟩
    rw [← ht, List.getElem?_append_left (List.getElem?_eq_some_iff.mp ea).1, ea] at eb
    cases eb
    exact e
theorem RvL.back (hf : g.f <+: g2.f) {g3 : G} (h3 : g3.f = g.f) (hF : Same g2.F g3.F) : ∀ {xs : List VV} {vs ws : List V}, RvL K T g xs vs → RvL K T g2 xs ws → RvL K T g3 xs ws
  | [], _, _, _, q => q
  | _ :: _, _, _, ⟨_, _, _, h1, h2⟩, ⟨w, s, e, k1, k2⟩ => ⟨w, s, e, Rv.back hf h3 hF h1 k1, RvL.back hf h3 hF h2 k2⟩
theorem RvF.back (hf : g.f <+: g2.f) {g3 : G} (h3 : g3.f = g.f) (hF : Same g2.F g3.F) : ∀ {xs : List (String × VV)} {vs ws : List (Str × V)}, RvF K T g xs vs → RvF K T g2 xs ws → RvF K T g3 xs ws
  | [], _, _, _, q => q
  | (_, _) :: _, _, _, ⟨_, _, _, h1, h2⟩, ⟨w, s, e, k1, k2⟩ => ⟨w, s, e, Rv.back hf h3 hF h1 k1, RvF.back hf h3 hF h2 k2⟩
theorem RvK.back (hf : g.f <+: g2.f) {g3 : G} (h3 : g3.f = g.f) (hF : Same g2.F g3.F) : ∀ {xs : List (PV × VV)} {vs ws : List (L2.Key × V)}, RvK K T g xs vs → RvK K T g2 xs ws → RvK K T g3 xs ws
  | [], _, _, _, q => q
  | (_, _) :: _, _, _, ⟨_, _, _, _, _, h1, h2⟩, ⟨q, w, s, e, hk, k1, k2⟩ => ⟨q, w, s, e, hk, Rv.back hf h3 hF h1 k1, RvK.back hf h3 hF h2 k2⟩
theorem RvT.back (hf : g.f <+: g2.f) {g3 : G} (h3 : g3.f = g.f) (hF : Same g2.F g3.F) : ∀ {xs : List (PV × VV)} {vs ws : List (List L2.Key × V)}, RvT K T g xs vs → RvT K T g2 xs ws → RvT K T g3 xs ws
  | [], _, _, _, q => q
  | (_, _) :: _, _, _, ⟨_, _, _, _, _, h1, h2⟩, ⟨q, w, s, e, hk, k1, k2⟩ => ⟨q, w, s, e, hk, Rv.back hf h3 hF h1 k1, RvT.back hf h3 hF h2 k2⟩
theorem cut_f (l : g.le g2) (r : Rs K T g S1 H) : (g2.cut H2 S1.length).f = g.f := by
  obtain ⟨t, ht⟩ := l.f
  show g2.f.take S1.length = g.f
  rw [← ht, r.len, List.take_left]
theorem Rs.cut (r : Rs K T g S1 H) (l : g.le g2) (r2 : Rs K T g2 S2 H2) (e : S2.take S1.length = S1) : g.le (g2.cut H2 S1.length) ∧ Rs K T (g2.cut H2 S1.length) S1 H2 := by
  have hf := cut_f (H2 := H2) l r
  have hF := cut_F (n := S1.length) r2
  refine ⟨⟨⟨l.F.trans hF, by rw [hf]; exact List.prefix_refl _⟩, l.hid⟩, by rw [hf]; exact r.len, by rw [hf]; exact r.nd, fun a o h => ?_, fun a ha => ?_, fun i so a h1 h2 => ?_, fun q hq => ?_, r2.hnd, r2.tab, fun a ps h => ?_, r2.hpl⟩
  · have h' : (if a ∈ g2.f.drop S1.length then H2 a else g2.F a) = some o := h
    split at h'
    · exact h'
    · exact r2.fz _ _ h'
  · rw [hf] at ha
    show (if a ∈ g2.f.drop S1.length then H2 a else g2.F a) = none
    obtain ⟨t, ht⟩ := l.f
    have hd : g2.f.drop S1.length = t := by rw [← ht, r.len, List.drop_left]
    have nd := r2.nd
    rw [← ht, List.nodup_append] at nd
    rw [if_neg (by rw [hd]; exact fun hm => nd.2.2 a ha a hm rfl)]
    exact r2.apart a (by rw [← ht]; exact List.mem_append_left _ ha)
  · rw [hf] at h2
    have hi : i < S1.length := (List.getElem?_eq_some_iff.mp h1).1
    have h1' : S2[i]? = some so := by
      rw [← h1]
      conv => rhs; rw [← e]
      rw [List.getElem?_take_of_lt hi]
    have h2' : g2.f[i]? = some a := by
      obtain ⟨t, ht⟩ := l.f
      rw [← ht, List.getElem?_append_left (List.getElem?_eq_some_iff.mp h2).1]
      exact h2
    have q1 := r.at_ i so a h1 h2
    have q2 := r2.at_ i so a h1' h2'
    cases so with
    | lst xs =>
      obtain ⟨vs, _, k1⟩ := q1
      obtain ⟨ws, e2, k2⟩ := q2
      exact ⟨ws, e2, RvL.back l.f hf hF k1 k2⟩
    | ins c fs =>
      obtain ⟨_, vs, _, k1⟩ := q1
      obtain ⟨dx, ws, e2, k2⟩ := q2
      exact ⟨dx, ws, e2, RvF.back l.f hf hF k1 k2⟩
    | tup xs =>
      obtain ⟨vs, _, k1⟩ := q1
      obtain ⟨ws, e2, k2⟩ := q2
      exact ⟨ws, e2, RvL.back l.f hf hF k1 k2⟩
    | dic t kvs =>
      cases t
      · obtain ⟨vs, _, k1⟩ := q1
        obtain ⟨ws, e2, k2⟩ := q2
        exact ⟨ws, e2, RvK.back l.f hf hF k1 k2⟩
      · obtain ⟨vs, _, k1⟩ := q1
        obtain ⟨ws, e2, k2⟩ := q2
        exact ⟨ws, e2, RvT.back l.f hf hF k1 k2⟩
  · obtain ⟨h1, h2, h3⟩ := r2.hid q hq
    refine ⟨h1, ?_, fun hm => h3 (List.mem_of_mem_take hm)⟩
    show (if q.1 ∈ g2.f.drop S1.length then H2 q.1 else g2.F q.1) = none
    rw [if_neg fun hm => h3 (List.mem_of_mem_drop hm)]
    exact h2
  · have h' : (if a ∈ g2.f.drop S1.length then H2 a else g2.F a) = some (.tbl ps) := h
    split at h'
    · rename_i hm
      exact (r2.plainAt (List.mem_of_mem_drop hm) _ h').t ps rfl
    · exact r2.ntb _ _ h'
/-- an object that isn't told of -/
theorem Rs.other (r : Rs K T g S1 H) {p : Addr} (h : H p = none) (o : HO) : Rs K T g S1 (upd H p o) := by
  have hF := r.free h
  have hf := r.nplace h
  refine ⟨r.len, r.nd, same_upd r.fz hF, r.apart, fun i so a h1 h2 => ?_, fun q hq => ?_, r.hnd, tabs_new r.tab h, r.ntb, r.hpl⟩
  · exact Ro.upd (fun e => hf (by have := List.mem_of_getElem? h2; rw [e] at this; exact this)) (r.at_ i so a h1 h2)
  · obtain ⟨h1, h2, h3⟩ := r.hid q hq
    have hne : q.1 ≠ p := ne_of_none h1 h
    exact ⟨by rw [upd_ne hne]; exact h1, h2, h3⟩
theorem cut_at (r2 : Rs K T g2 S2 H2) {n i : Nat} {a : Addr} (hn : n ≤ i) (h : g2.f[i]? = some a) : (g2.cut H2 n).F a = H2 a := by
  show (if a ∈ g2.f.drop n then H2 a else g2.F a) = H2 a
  rw [if_pos]
  have : (g2.f.drop n)[i - n]? = some a := by rw [List.getElem?_drop, Nat.add_sub_cancel' hn]; exact h
  exact List.mem_of_getElem? this
theorem Rx.mono {fs : List (String × PV)} {d : Option Addr} (h : Same g.F g2.F) (r : Rx K T g fs d) : Rx K T g2 fs d := by
  rcases r with r | ⟨n, a, vs, e, h1, h2⟩
  · exact .inl r
  · exact .inr ⟨n, a, vs, e, h _ _ h1, RpF.mono K T h fs vs h2⟩
end
/-- a def that leaves the store as it was: what it made meanwhile is let go; a list that it hands back stands for good -/
def gcV (S S2 : Sto) : VV → RE
  | .p v => .ok (.p v) S
  | .ob j => if j < S.length then .ok (.ob j) S else match S2[j]? with
    | some (.lst xs) => match allP xs with
      | some ys => .ok (.p (.lst ys)) S
      | none => .no
    | _ => .no
def gcR (S : Sto) (r : RE) : RE := match r with
  | .ok v S2 => if Sto.same (S2.take S.length) S then gcV S S2 v else .no
  | .exc c fs S2 => if Sto.same (S2.take S.length) S then .exc c fs S else .no
  | .no => .no
def gc (m : DF) : DF := fun as S => gcR S (m as S)
section
variable {K : PySem.W.Frag} {T : Tab} {g : G} {S : Sto} {H : Hp} {E : XK} {Q : VK}
theorem PostE.gc {r : RE} (hS : Rs K T g S H) (p : PostE K T E g (gcR S r) Q) : PostE K T E g r Q := by
  cases r with
  | no => exact p
  | exc c fs S2 =>
    unfold gcR at p
    by_cases hs : Sto.same (S2.take S.length) S = true
    · simp only [if_pos hs] at p
      intro g' d H' l rx rs
      obtain ⟨l3, r3⟩ := hS.cut l rs (Sto.same_eq hs)
      exact p _ d H' l3 (rx.mono (cut_F rs _)) r3
    · simp only [if_neg hs] at p; exact p.elim
  | ok v S2 =>
    unfold gcR at p
    by_cases hs : Sto.same (S2.take S.length) S = true
    · simp only [if_pos hs] at p
      intro g' x H' l rv rs
      obtain ⟨l3, r3⟩ := hS.cut l rs (Sto.same_eq hs)
      cases v with
      | p v => exact p _ x H' l3 (Rp.mono K T (cut_F rs _) v x rv) r3
      | ob j =>
        unfold gcV at p
        obtain ⟨a, ea, rfl⟩ := rv
        by_cases hj : j < S.length
        · simp only [if_pos hj] at p
          refine p _ _ H' l3 ⟨a, ?_, rfl⟩ r3
          show (g'.f.take S.length)[j]? = some a
          rw [List.getElem?_take_of_lt hj]; exact ea
        · simp only [if_neg hj] at p
          cases e1 : S2[j]? with
          | none => simp only [e1] at p; exact p.elim
          | some o =>
            cases o with
            | ins c fs => simp only [e1] at p; exact p.elim
            | tup _ => simp only [e1] at p; exact p.elim
            | dic _ _ => simp only [e1] at p; exact p.elim
            | lst xs =>
              simp only [e1] at p
              cases e2 : allP xs with
              | none => simp only [e2] at p; exact p.elim
              | some ys =>
                simp only [e2] at p
                obtain ⟨vs, h1, h2⟩ := rs.at_ j _ a e1 ea
                refine p _ _ H' l3 ⟨a, vs, rfl, ?_, RpL.mono K T (cut_F rs _) ys vs (RvL.allP e2 h2)⟩ r3
                rw [cut_at rs (by omega) ea]; exact h1
    · simp only [if_neg hs] at p; exact p.elim
theorem FnD.gc {X : Cx} {k : Nat} {f : Addr} {fd : FuncData} {ps : List Str} {m : DF} (F : FnD X T k f fd ps m) : FnD X T k f fd ps (gc m) :=
  F.imp fun vs H Q E ⟨hl, g, as, S, r, s, p⟩ => ⟨hl, g, as, S, r, s, PostE.gc s p⟩
end
section
variable {X : Cx} {T : Tab} {E : XK} {e a b c o : Expr} {pos apos : Pos} {ma mb mc mo : DE} {ta tb : DB}
theorem made_at {K : PySem.W.Frag} {g : G} {S : Sto} {H : Hp} {x dx : Addr} {c : Nat} (s : Rs K T g S H) (hx : H x = none) (hdx : H dx = none) (hne : dx ≠ x) :
    Rs K T (g.alloc x) (S ++ [.ins c []]) (upd (upd H dx (.own x)) x (.ins (T.C c) dx [])) := by
  have s1 := s.other hdx (.own x)
  have hx1 : (upd H dx (.own x)) x = none := by rw [upd_ne hne.symm]; exact hx
  exact s1.alloc (so := .ins c []) hx1 ⟨dx, [], upd_same, rfl⟩
theorem alloc_ob {K : PySem.W.Frag} {g : G} {S : Sto} {H : Hp} (s : Rs K T g S H) (x : Addr) : Rv K T (g.alloc x) (.ob S.length) (.ref x) := by
  refine ⟨x, ?_, rfl⟩
  show (g.f ++ [x])[S.length]? = some x
  rw [s.len, List.getElem?_append_right (Nat.le_refl _), Nat.sub_self]
  rfl
theorem r_makeS {c : Nat} {k : Nat} {f : Addr} {fd : FuncData} {ps : List Str} {m : DF} {ds : List PV} {dvs : List V} {dus : List Value} {x : Str} {p : Pos} {es : List Expr} {ms : List DE} (M : Mk X.K (T.C c) f) (tk : Tks X E) (F : FnD X T k f fd ps m) (hr : Room (k + 1) X.A) (hg : Gl X x) (hm : X.mg x = some (.ref (T.C c)))
    (hb : Binds X.K fd ps dus) (hd : Vals dvs dus) (hds : Dsv ds dvs) (ha : PA X (e :: es) (tA X.K T E ms)) (hn : ms.length + ds.length + 1 = ps.length := by rfl) (hdb : (x == ("__debug__" : Str)) = false := by decide)
    (he : starEach (e :: es) X.env = (false, eval e X.env) :: starEach es X.env := by rfl) (hpl : (backTo pos (starEach es X.env)).any (·.1) = false := by rfl) : PE X (.Call (.Name x p) (e :: es) [] pos) (tD X.K T E (dMakeS c m ms ds)) :=
  (pe_make M F hr hg hm hb hd tk.pass ha hdb he hpl).imp fun σ H Q h => tA_of h fun g vs S xs H hl r s q => by
    intro x dx hx hdx hne
    have l := G.le_alloc g x
    have s2 := made_at (c := c) s hx hdx hne
    have r2 : RvL X.K T (g.alloc x) (.ob S.length :: (vs ++ ds.map .p)) (.ref x :: (xs ++ dvs)) := ⟨_, _, rfl, alloc_ob s x, (r.append (RvL.ofP (hds _ _ _))).mono X.K T l.s⟩
    refine ⟨by rw [r2.length, List.length_cons, List.length_append, List.length_map, hl]; exact hn, g.alloc x, _, _, r2, s2, ?_⟩
    have q2 := PostE.up l q
    revert q2
    cases m (.ob S.length :: (vs ++ ds.map .p)) (S ++ [.ins c []]) with
    | no => exact fun p => p
    | exc c fs S1 => exact fun p => p
    | ok v S1 =>
      intro q2 g2 y H2 l2 rv rs
      cases v with
      | ob i => exact q2.elim
      | p v =>
        cases v with
        | non => exact ⟨rv, q2 g2 _ H2 l2 ((alloc_ob s x).mono X.K T l2.s) rs⟩
        | _ => exact q2.elim
theorem r_make {c : Nat} {k : Nat} {f : Addr} {fd : FuncData} {ps : List Str} {m : DF} {ds : List PV} {dvs : List V} {dus : List Value} {x : Str} {p : Pos} {es : List Expr} {ms : List DE} (M : Mk X.K (T.C c) f) (tk : Tks X E) (F : FnD X T k f fd ps m) (hr : Room (k + 1) X.A) (hg : Gl X x) (hm : X.mg x = some (.ref (T.C c)))
    (hb : Binds X.K fd ps dus) (hd : Vals dvs dus) (hds : Dsv ds dvs) (ha : PA X (e :: es) (tA X.K T E ms)) (hn : ms.length + ds.length + 1 = ps.length := by rfl) (hdb : (x == ("__debug__" : Str)) = false := by decide)
    (he : starEach (e :: es) X.env = (false, eval e X.env) :: starEach es X.env := by rfl) (hpl : (backTo pos (starEach es X.env)).any (·.1) = false := by rfl) : PE X (.Call (.Name x p) (e :: es) [] pos) (tD X.K T E (dMake c m ms ds)) :=
  (pe_make M F hr hg hm hb hd tk.pass ha hdb he hpl).imp fun σ H Q h => tA_of h fun g vs S xs H hl r s q => by
    intro x dx hx hdx hne
    have l := G.le_alloc g x
    have s2 := made_at (c := c) s hx hdx hne
    have r2 : RvL X.K T (g.alloc x) (.ob S.length :: (vs ++ ds.map .p)) (.ref x :: (xs ++ dvs)) := ⟨_, _, rfl, alloc_ob s x, (r.append (RvL.ofP (hds _ _ _))).mono X.K T l.s⟩
    refine ⟨by rw [r2.length, List.length_cons, List.length_append, List.length_map, hl]; exact hn, g.alloc x, _, _, r2, s2, ?_⟩
    revert q
    cases m (.ob S.length :: (vs ++ ds.map .p)) (S ++ [.ins c []]) with
    | no => exact fun p => p
    | exc c' fs S2 =>
      intro q g2 d H2 l2 rx rs
      unfold backTo_ at q
      by_cases hs : Sto.same (S2.take S.length) S = true
      · simp only [if_pos hs, RE.bind_exc] at q
        obtain ⟨l3, r3⟩ := s.cut (l.trans l2) rs (Sto.same_eq hs)
        exact q _ d H2 l3 (rx.mono (cut_F rs _)) r3
      · simp only [if_neg hs, RE.bind_no] at q; exact q.elim
    | ok v S2 =>
      intro q g2 y H2 l2 rv rs
      cases v with
      | ob i => exact q.elim
      | p v =>
        cases v with
        | non =>
          refine ⟨rv, ?_⟩
          unfold backTo_ at q
          simp only [RE.bind_ok] at q
          unfold frzIns at q
          cases e1 : S2[S.length]? with
          | none => simp only [e1] at q; exact q.elim
          | some so =>
            cases so with
            | lst _ => simp only [e1] at q; exact q.elim
            | tup _ => simp only [e1] at q; exact q.elim
            | dic _ _ => simp only [e1] at q; exact q.elim
            | ins c2 fs =>
              simp only [e1] at q
              cases e2 : plainF fs with
              | none => simp only [e2] at q; exact q.elim
              | some gs =>
                simp only [e2] at q
                by_cases hs : Sto.same (S2.take S.length) S = true
                · simp only [if_pos hs] at q
                  obtain ⟨l3, r3⟩ := s.cut (l.trans l2) rs (Sto.same_eq hs)
                  obtain ⟨a, ea, ea2⟩ := (alloc_ob s x).mono X.K T l2.s
                  cases ea2
                  obtain ⟨dx', ws, h1, h2⟩ := rs.at_ _ _ _ e1 ea
                  refine q _ _ H2 l3 ⟨x, dx', ws, rfl, ?_, RpF.mono X.K T (cut_F rs _) gs ws (RvF.plain e2 h2)⟩ r3
                  rw [cut_at rs (Nat.le_refl _) ea]; exact h1
                · simp only [if_neg hs] at q; exact q.elim
        | _ => exact q.elim
end
end Dn

set_option maxRecDepth 100000
namespace Dn
open PySem PySem.Spec PyProof.Rows L2

/-! ### targets -/
inductive Tg where
  | nm (i : Nat)
  | tp (is : List Nat)
def setAll : List Nat → List PV → En → En
  | i :: is, v :: vs, env => setAll is vs (env.set i (some (.p v)))
  | _, _, env => env
def Tg.put : Tg → VV → En → Option En
  | .nm i, v, env => some (env.set i (some v))
  | .tp is, .p (.tup vs), env => if vs.length = is.length then some (setAll is vs env) else none
  | .tp _, _, _ => none
def Tg.slots : Tg → List Nat
  | .nm i => [i]
  | .tp is => is
theorem Re.set {K T g} {env : En} {σ : L2.St} (r : Re K T g env σ) (i : Nat) {v : VV} {x : V} (rv : Rv K T g v x) : Re K T g (env.set i (some v)) (σ.set i (some x)) := by
  refine ⟨by rw [List.length_set, List.length_set]; exact r.1, fun j w e => ?_⟩
  by_cases hj : i = j
  · subst hj
    by_cases hl : i < env.length
    · rw [List.getElem?_set_self hl] at e
      cases e
      exact ⟨x, List.getElem?_set_self (by rw [← r.1]; exact hl), rv⟩
    · rw [List.getElem?_eq_none (by rw [List.length_set]; omega)] at e; cases e
  · rw [List.getElem?_set_ne hj] at e ⊢
    exact r.2 j w e
section
variable {X : Cx} {T : Tab} {E : XK} {e a b c o tg iter : Expr} {pos apos : Pos} {ma mb mc mo : DE} {ta tb : DB}
def tTg (K : PySem.W.Frag) (T : Tab) (t : Tg) : TG := fun v σ H Q => ∃ g env S u e', Re K T g env σ ∧ Rs K T g S H ∧ Rv K T g u v ∧ t.put u env = some e' ∧ ∀ σ', Re K T g e' σ' → wipe σ' t.slots = wipe σ t.slots → Q σ' H
theorem wipe_set {σ : L2.St} {i : Nat} {x : Option V} : ∀ {vs : List Nat}, i ∈ vs → wipe (σ.set i x) vs = wipe σ vs
  | v :: vs, h => by
    show (wipe (σ.set i x) vs).set v none = (wipe σ vs).set v none
    by_cases hi : i ∈ vs
    · rw [wipe_set hi]
    · have hv : v = i := by rcases List.mem_cons.mp h with e | e; exact e.symm; exact absurd e hi
      subst hv
      clear h
      have go : ∀ (vs : List Nat), v ∉ vs → wipe (σ.set v x) vs = (wipe σ vs).set v x := by
        intro vs
        induction vs with
        | nil => intro _; rfl
        | cons w ws ih =>
          intro hm
          show (wipe (σ.set v x) ws).set w none = ((wipe σ ws).set w none).set v x
          rw [ih (fun z => hm (List.mem_cons_of_mem _ z)), List.set_comm _ _ (fun e => hm (by rw [e]; exact List.mem_cons_self))]
      rw [go vs hi, List.set_set]
theorem g_name {i : Nat} {x : Str} (hN : X.N.Nodup) (hi : X.N[i]? = some x) (hx : Loc X.env.scope x) (hf : X.fn x = true ∨ X.env.scope.names.lookup x = some .local) : PG X (.Name x pos) (tTg X.K T (.nm i)) := by
  refine ⟨fun pins s σ H v u Q I r h => ?_⟩
  obtain ⟨g, env, S, w, e', hE, hS, rv, hp, q⟩ := h
  cases hp
  exact (pg_name hN hi hx hf).run pins s σ H v u Q I r (q _ (hE.set i rv) (wipe_set (by simp [Tg.slots])))
/-- names one after another -/
def PGn (X : Cx) (es : List Expr) (is : List Nat) : Prop := PGs X es (fun vs σ H Q => vs.length = is.length ∧ Q ((is.zip vs).foldl (fun σ p => σ.set p.1 (some p.2)) σ) H)
theorem gn_nil : PGn X [] [] := by
  refine ⟨fun pins s σ H vs us Q I r h => ?_⟩
  have e : vs = [] := List.length_eq_zero_iff.mp h.1
  subst e
  exact pgs_nil.run pins s σ H [] us Q I r ⟨rfl, h.2⟩
theorem gn_cons {i : Nat} {x : Str} {es : List Expr} {is : List Nat} (hN : X.N.Nodup) (hi : X.N[i]? = some x) (hx : Loc X.env.scope x) (hf : X.fn x = true ∨ X.env.scope.names.lookup x = some .local) (h : PGn X es is)
    (hs : (assignEach (.Name x pos :: es) X.env).map (·.2) = assign (.Name x pos) X.env :: (assignEach es X.env).map (·.2) := by rfl) : PGn X (.Name x pos :: es) (i :: is) := by
  refine ⟨fun pins s σ H vs us Q I r hq => ?_⟩
  obtain ⟨hl, q⟩ := hq
  cases vs with
  | nil => cases hl
  | cons v vs =>
    exact (pgs_cons (pg_name hN hi hx hf) h hs).run pins s σ H (v :: vs) us Q I r ⟨v, vs, rfl, by simpa using hl, q⟩
theorem setAll_re {K} {g : G} : ∀ {is : List Nat} {vs : List PV} {xs : List V} {env : En} {σ : L2.St}, RpL K T g.F vs xs → Re K T g env σ → vs.length = is.length →
    Re K T g (setAll is vs env) ((is.zip xs).foldl (fun σ p => σ.set p.1 (some p.2)) σ) ∧ wipe ((is.zip xs).foldl (fun σ p => σ.set p.1 (some p.2)) σ) is = wipe σ is
  | [], [], _, env, σ, r, hE, _ => by cases r; exact ⟨hE, rfl⟩
  | i :: is, v :: vs, _, env, σ, ⟨x, xs, e, h1, h2⟩, hE, hl => by
    subst e
    have ih := setAll_re (is := is) h2 (hE.set i (v := .p v) (x := x) h1) (by simpa using hl)
    refine ⟨ih.1, ?_⟩
    have e2 := ih.2
    show (wipe _ is).set i none = (wipe σ is).set i none
    have e3 : wipe ((is.zip xs).foldl (fun σ p => σ.set p.1 (some p.2)) (σ.set i (some x))) is = wipe (σ.set i (some x)) is := e2
    have e4 : (wipe (σ.set i (some x)) is).set i none = (wipe σ is).set i none := by
      have := wipe_set (σ := σ) (i := i) (x := some x) (vs := i :: is) List.mem_cons_self
      exact this
    rw [show ((i :: is).zip (x :: xs)).foldl (fun σ p => σ.set p.1 (some p.2)) σ = (is.zip xs).foldl (fun σ p => σ.set p.1 (some p.2)) (σ.set i (some x)) from rfl, e3, e4]
  | [], _ :: _, _, _, _, _, _, hl => by cases hl
  | _ :: _, [], _, _, _, _, _, hl => by cases hl
theorem g_tup {es : List Expr} {k : Nat} {is : List Nat} (hc : X.calm = true) (h : PGn X es is)
    (hn : (assignEach es X.env).length = is.length := by rfl) (hst : (assignEach es X.env).findIdx? (·.1) = none := by rfl) : PG X (.Tuple es k pos) (tTg X.K T (.tp is)) := by
  refine ⟨fun pins s σ H v u Q I r hw => ?_⟩
  obtain ⟨g, env, S, w, e', hE, hS, rv, hp, q⟩ := hw
  cases w with
  | ob i => cases hp
  | p w =>
    cases w with
    | tup ws =>
      have hp' : (if ws.length = is.length then some (setAll is ws env) else none) = some e' := hp
      by_cases hl : ws.length = is.length
      · rw [if_pos hl] at hp'
        cases hp'
        obtain ⟨a, vs, rfl, ht, rr⟩ := rv
        have hlv : vs.length = is.length := by rw [rr.length]; exact hl
        obtain ⟨k1, k2⟩ := setAll_re rr hE hl
        exact (pg_tup hc h hn hst).run pins s σ H _ u Q I r ⟨a, vs, rfl, SqT.up hS.fz (.inl (.inl ht)), hlv, hlv, q _ k1 k2⟩
      · rw [if_neg hl] at hp'; cases hp'
    | _ => cases hp

/-! ### statements -/
def dSeq (m m' : DS) : DS := fun env S => match m env S with
  | .nx env1 S1 => m' env1 S1
  | r => r
def dNil : DS := fun env S => .nx env S
def dDo (m : DE) : DS := fun env S => (m env S).bindS fun _ S1 => .nx env S1
def dRet (m : DE) : DS := fun env S => (m env S).bindS fun v S1 => .rt v S1
def dRetN : DS := fun _ S => .rt (.p .non) S
def dBk : DS := fun env S => .bk env S
def dCt : DS := fun env S => .ct env S
def dIfS (t : DB) (m m' : DS) : DS := fun env S => (t env S).bindS fun k S1 => match k with
  | true => m env S1
  | false => m' env S1
def dSet (t : Tg) (m : DE) : DS := fun env S => (m env S).bindS fun v S1 => match t.put v env with
  | some env1 => .nx env1 S1
  | none => .no
theorem s_nil : PSs X [] (tS X.K T E dNil) := pss_nil.imp fun D σ H ⟨g, env, S, hE, hS, h⟩ => h g σ H (G.le.refl g) hE hS
theorem s_cons {st : Stmt} {sts : List Stmt} {m m' : DS} (h : PS X st (tS X.K T E m)) (h' : PSs X sts (tS X.K T E m')) : PSs X (st :: sts) (tS X.K T E (dSeq m m')) :=
  (pss_cons h h').imp fun D σ H ⟨g, env, S, hE, hS, h⟩ => by
    refine ⟨g, env, S, hE, hS, ?_⟩
    unfold dSeq at h
    cases q : m env S with
    | nx e1 S1 => rw [q] at h; exact fun g' σ' H' l r s => ⟨g', e1, S1, r, s, PostS.up l h⟩
    | rt v S1 => rw [q] at h; exact h
    | bk e1 S1 => rw [q] at h; exact h
    | ct e1 S1 => rw [q] at h; exact h
    | exc c fs S1 => rw [q] at h; exact h
    | no => rw [q] at h; exact h
theorem s_one {st : Stmt} {m : DS} (h : PS X st (tS X.K T E m)) : PSs X [st] (tS X.K T E m) := pss_one h
theorem PostE.bindS {K T} {E : XK} {D : Ends} {g : G} {r : RE} {k : VV → Sto → RS} (p : PostS K T E D g (r.bindS k)) :
    PostE K T E g r (fun x H1 => ∃ g1 v S1, g.le g1 ∧ Rv K T g1 v x ∧ Rs K T g1 S1 H1 ∧ PostS K T E D g1 (k v S1)) := by
  cases r with
  | ok v S => exact fun g1 x H1 l r1 s1 => ⟨g1, v, S, l, r1, s1, PostS.up l p⟩
  | exc c fs S => exact p
  | no => exact p
/-- an expression's reading ahead of a statement's end -/
theorem tD_S {k : VV → Sto → En → RS} {σ H} {D : Ends} {R : V → Hp → Prop} (h : tS X.K T E (fun env S => (ma env S).bindS fun v S1 => k v S1 env) D σ H)
    (hR : ∀ g env v S x H, Re X.K T g env σ → Rv X.K T g v x → Rs X.K T g S H → PostS X.K T E D g (k v S env) → R x H) : tD X.K T E ma σ H R := by
  obtain ⟨g, env, S, hE, hS, h⟩ := h
  refine ⟨g, env, S, hE, hS, ?_⟩
  have p := PostE.bindS h
  revert p
  cases ma env S with
  | no => exact fun p => p
  | exc c fs S1 => exact fun p => p
  | ok v S1 =>
    intro p g1 x H1 l1 r1 s1
    obtain ⟨g2, v2, S2, l2, rv, rs, q⟩ := p g1 x H1 l1 r1 s1
    exact hR g2 env v2 S2 x H1 (hE.mono X.K T l2.s) rv rs q
theorem s_do (h : PE X e (tD X.K T E ma)) (hs : swapsWith e none pos.line X.env = pure false := by rfl) : PS X (.Expr e pos) (tS X.K T E (dDo ma)) :=
  (ps_expr h hs).imp fun D σ H h => tD_S (k := fun _ S env => .nx env S) h fun g env v S x H hE rv rs p => p g σ H (G.le.refl g) hE rs
theorem s_ret (h : PE X e (tD X.K T E ma)) : PS X (.Return (some e) pos) (tS X.K T E (dRet ma)) :=
  (ps_ret h).imp fun D σ H h => tD_S (k := fun v S env => .rt v S) h fun g env v S x H hE rv rs p => p g x H (G.le.refl g) rv rs
theorem s_retN : PS X (.Return none pos) (tS X.K T E dRetN) := ps_retN.imp fun D σ H ⟨g, env, S, hE, hS, h⟩ => h g .non H (G.le.refl g) rfl hS
theorem s_pass : PS X (.Pass pos) (tS X.K T E dNil) := ps_pass.imp fun D σ H ⟨g, env, S, hE, hS, h⟩ => h g σ H (G.le.refl g) hE hS
theorem s_bk : PS X (.Break pos) (tS X.K T E dBk) := ps_break.imp fun D σ H ⟨g, env, S, hE, hS, h⟩ => h g σ H (G.le.refl g) hE hS
theorem s_ct : PS X (.Continue pos) (tS X.K T E dCt) := ps_continue.imp fun D σ H ⟨g, env, S, hE, hS, h⟩ => h g σ H (G.le.refl g) hE hS
theorem s_if {t : DB} {as bs : List Stmt} {m m' : DS} (ht : PT X c (tB_ X.K T E t)) (ha : PSs X as (tS X.K T E m)) (hb : PSs X bs (tS X.K T E m')) : PS X (.If c as bs pos) (tS X.K T E (dIfS t m m')) :=
  (ps_if ht ha hb).imp fun D σ H ⟨g, env, S, hE, hS, h⟩ => by
    refine ⟨g, env, S, hE, hS, ?_⟩
    unfold dIfS at h
    cases q : t env S with
    | no => rw [q] at h; exact h
    | exc c fs S1 => rw [q] at h; exact h
    | ok k S1 =>
      rw [q] at h
      intro g1 H1 l1 s1
      cases k with
      | true => exact iteT ⟨g1, env, S1, hE.mono X.K T l1.s, s1, PostS.up l1 h⟩
      | false => exact iteF ⟨g1, env, S1, hE.mono X.K T l1.s, s1, PostS.up l1 h⟩
theorem tSet_of {t : Tg} {D : Ends} {σ H} (h : tS X.K T E (dSet t ma) D σ H) : tAsg (tD X.K T E ma) (tTg X.K T t) D σ H :=
  tD_S (k := fun v S env => match t.put v env with
    | some env1 => .nx env1 S
    | none => .no) h fun g env v S x H hE rv rs p => by
    cases q : t.put v env with
    | none => rw [q] at p; exact p.elim
    | some e' => rw [q] at p; exact ⟨g, env, S, v, e', hE, rs, rv, q, fun σ' r _ => p g σ' H (G.le.refl g) r rs⟩
theorem s_set {t : Tg} (he : PE X e (tD X.K T E ma)) (hg : PG X tg (tTg X.K T t)) (hs : swapsWithSole [tg] e pos.line X.env = pure false := by rfl) (hw : swappedStores [tg] e X.env = pure none := by rfl)
    (h1 : (assignEach [tg] X.env).map (·.2) = [assign tg X.env] := by rfl) : PS X (.Assign [tg] e pos) (tS X.K T E (dSet t ma)) :=
  (ps_asg he hg hs hw h1).imp fun D σ H h => tSet_of h
/-- a, b = e1, e2 -/
def dPar (i j : Nat) (m m' : DE) : DS := fun env S => (m env S).bindS fun v S1 => (m' env S1).bindS fun u S2 => .nx ((env.set i (some v)).set j (some u)) S2
theorem s_par {i j : Nat} {x y : Str} {px py pt : Pos} {kt k2 pt2} (hc : X.calm = true) (hN : X.N.Nodup) (hi : X.N[i]? = some x) (hj : X.N[j]? = some y) (hij : i ≠ j)
    (hx : X.env.scope.names.lookup x = some .local) (hy : X.env.scope.names.lookup y = some .local) (ha : PE X a (tD X.K T E ma)) (hb : PE X b (tD X.K T E mb))
    (hw : swappedStores [.Tuple [.Name x px, .Name y py] kt pt] (.Tuple [a, b] k2 pt2) X.env = pure (some [x, y]) := by rfl)
    (hs : swapsWithSole [.Tuple [.Name x px, .Name y py] kt pt] (.Tuple [a, b] k2 pt2) pos.line X.env = pure false := by rfl)
    (h1 : starEach [a, b] X.env = (false, eval a X.env) :: starEach [b] X.env := by rfl) (h2 : starEach [b] X.env = (false, eval b X.env) :: starEach [] X.env := by rfl) :
    PS X (.Assign [.Tuple [.Name x px, .Name y py] kt pt] (.Tuple [a, b] k2 pt2) pos) (tS X.K T E (dPar i j ma mb)) :=
  (ps_par hc hN hi hj hij hx hy (pa_cons ha (pa_cons hb pa_nil h2) h1) hw hs).imp fun D σ H h => by
    refine tD_S (k := fun v S env => (mb env S).bindS fun u S2 => .nx ((env.set i (some v)).set j (some u)) S2) h fun g env v S x H hE rv rs p => ?_
    have h3 : tS X.K T E (fun env' S' => (mb env' S').bindS fun u S2 => .nx ((env'.set i (some v)).set j (some u)) S2) D σ H := ⟨g, env, S, hE, rs, p⟩
    refine ⟨g, env, S, hE, rs, ?_⟩
    have p2 := PostE.bindS p
    revert p2
    cases mb env S with
    | no => exact fun p => p
    | exc c fs S1 => exact fun p => p
    | ok u S1 =>
      intro p2 g1 y H1 l1 r1 s1
      obtain ⟨g2, u2, S2, l2, ru, s2, q⟩ := p2 g1 y H1 l1 r1 s1
      exact ⟨x, y, rfl, q g2 _ H1 (G.le.refl _) (((hE.mono X.K T l2.s).set i (rv.mono X.K T l2.s)).set j ru) s2⟩
end
end Dn

set_option maxRecDepth 100000
namespace Dn
open PySem PySem.Spec PyProof.Rows L2

/-! ### what is walked -/
inductive RI where
  | ok (xs : List VV) (kp : Sto → Bool) (S : Sto)
  | exc (c : Nat) (fs : List (String × PV)) (S : Sto)
  | no
abbrev DI := En → Sto → RI
structure IterOk (K : PySem.W.Frag) (T : Tab) (g : G) (xs : List VV) (kp : Sto → Bool) (J : It) : Prop where
  go : ∀ g' S H i v, g.sub g' → Rs K T g' S H → kp S = true → xs[i]? = some v → J.go i H ∧ ∀ x H', J.yld i H x H' → ∃ g'', g'.le g'' ∧ Rv K T g'' v x ∧ Rs K T g'' S H'
  stop : ∀ g' S H i, g.sub g' → Rs K T g' S H → kp S = true → xs.length ≤ i → J.stop i H
theorem G.sub.trans {a b c : G} (h : a.sub b) (k : b.sub c) : a.sub c := ⟨h.F.trans k.F, h.f.trans k.f⟩
theorem IterOk.up {K T} {g g' : G} {xs : List VV} {kp} {J : It} (l : g.sub g') (h : IterOk K T g xs kp J) : IterOk K T g' xs kp J :=
  ⟨fun g2 S H i v l2 => h.go g2 S H i v (l.trans l2), fun g2 S H i l2 => h.stop g2 S H i (l.trans l2)⟩
def PostI (K : PySem.W.Frag) (T : Tab) (E : XK) (g : G) (r : RI) (R : It → Hp → Prop) : Prop := match r with
  | .ok xs kp S' => ∀ g' H' J, g.le g' → Rs K T g' S' H' → IterOk K T g' xs kp J → R J H'
  | .exc c fs S' => ∀ g' d H', g.le g' → Rx K T g' fs d → Rs K T g' S' H' → E (.ref (T.C c)) d H'
  | .no => False
def tI (K : PySem.W.Frag) (T : Tab) (E : XK) (m : DI) : TI := fun σ H R => ∃ g env S, Re K T g env σ ∧ Rs K T g S H ∧ PostI K T E g (m env S) R
def RE.bindI (r : RE) (k : VV → Sto → RI) : RI := match r with
  | .ok v S => k v S
  | .exc c fs S => .exc c fs S
  | .no => .no
@[simp] theorem RE.bindI_ok (v : VV) (S : Sto) (k) : (RE.ok v S).bindI k = k v S := rfl
def RI.bindE (r : RI) (k : List VV → (Sto → Bool) → Sto → RE) : RE := match r with
  | .ok v p S => k v p S
  | .exc c fs S => .exc c fs S
  | .no => .no
@[simp] theorem RI.bindE_ok (v p) (S : Sto) (k) : (RI.ok v p S).bindE k = k v p S := rfl
def RI.bindS (r : RI) (k : List VV → (Sto → Bool) → Sto → RS) : RS := match r with
  | .ok v p S => k v p S
  | .exc c fs S => .exc c fs S
  | .no => .no
@[simp] theorem RI.bindS_ok (v p) (S : Sto) (k) : (RI.ok v p S).bindS k = k v p S := rfl

section
variable {X : Cx} {T : Tab} {E : XK} {e a b c o tg iter : Expr} {pos apos : Pos} {ma mb mc mo : DE} {ta tb : DB}
theorem PostE.bindI {K T} {E : XK} {R} {g : G} {r : RE} {k : VV → Sto → RI} (p : PostI K T E g (r.bindI k) R) :
    PostE K T E g r (fun x H1 => ∃ g1 v S1, g.le g1 ∧ Rv K T g1 v x ∧ Rs K T g1 S1 H1 ∧ PostI K T E g1 (k v S1) R) := by
  cases r with
  | ok v S =>
    exact fun g1 x H1 l r1 s1 => ⟨g1, v, S, l, r1, s1, by
      revert p
      cases hk : k v S with
      | ok xs kp S2 => intro p; simp only [RE.bindI_ok, hk] at p ⊢; exact fun g2 H2 J l2 => p g2 H2 J (l.trans l2)
      | exc c fs S2 => intro p; simp only [RE.bindI_ok, hk] at p ⊢; exact fun g2 d H2 l2 => p g2 d H2 (l.trans l2)
      | no => intro p; simp only [RE.bindI_ok, hk] at p ⊢; exact p⟩
  | exc c fs S => exact p
  | no => exact p
theorem tD_I {k : VV → Sto → RI} {σ H} {R : It → Hp → Prop} {R' : V → Hp → Prop} (h : tI X.K T E (fun env S => (ma env S).bindI k) σ H R)
    (hR : ∀ g v S x H, Rv X.K T g v x → Rs X.K T g S H → PostI X.K T E g (k v S) R → R' x H) : tD X.K T E ma σ H R' := by
  obtain ⟨g, env, S, hE, hS, h⟩ := h
  refine ⟨g, env, S, hE, hS, ?_⟩
  have p := PostE.bindI h
  revert p
  cases ma env S with
  | no => exact fun p => p
  | exc c fs S1 => exact fun p => p
  | ok v S1 =>
    intro p g1 x H1 l1 r1 s1
    obtain ⟨g2, v2, S2, l2, rv, rs, q⟩ := p g1 x H1 l1 r1 s1
    exact hR g2 v2 S2 x H1 rv rs q
theorem PI.imp {wi wi' : TI} (h : PI X tg iter wi) (k : ∀ σ H R, wi' σ H R → wi σ H R) : PI X tg iter wi' := ⟨fun pins s σ H R I w => h.run pins s σ H R I (k σ H R w)⟩
/-- a list, plain or in the store -/
def lstItems (S : Sto) : VV → Option (List VV × (Sto → Bool))
  | .p (.lst xs) => some (xs.map .p, fun _ => true)
  | .p (.scr xs) => some (xs.map .p, fun _ => true)
  | .ob i => match S[i]? with
    | some (.lst xs) => some (xs, fun S' => match S'[i]? with
      | some (.lst ys) => VV.beqL ys xs
      | _ => false)
    | _ => none
  | _ => none
def dIL (m : DE) : DI := fun env S => (m env S).bindI fun v S1 => match lstItems S1 v with
  | some (xs, kp) => .ok xs kp S1
  | none => .no
theorem RvL.get {K g} : ∀ {xs : List VV} {vs : List V} {i : Nat} {v : VV}, RvL K T g xs vs → xs[i]? = some v → ∃ x, vs[i]? = some x ∧ Rv K T g v x
  | [], _, _, _, _, h => by simp at h
  | _ :: _, _, 0, _, ⟨v, r, e, h1, h2⟩, h => by subst e; simp at h; subst h; exact ⟨v, rfl, h1⟩
  | _ :: _, _, i + 1, _, ⟨v, r, e, h1, h2⟩, h => by subst e; simpa using RvL.get (i := i) h2 (by simpa using h)
theorem iterL {K : PySem.W.Frag} {g : G} {S : Sto} {H : Hp} {v : VV} {x : V} {xs : List VV} {kp} (hS : Rs K T g S H) (e : lstItems S v = some (xs, kp)) (r : Rv K T g v x) : ∃ a, x = .ref a ∧ (∃ vs, SqL K H a vs) ∧ IterOk K T g xs kp (Itl K a) ∧
    (∀ g' S' H', g.sub g' → Rs K T g' S' H' → kp S' = true → ∃ vs, SqL K H' a vs ∧ RvL K T g' xs vs) := by
  have fin : ∀ a, (∀ g' S' H', g.sub g' → Rs K T g' S' H' → kp S' = true → ∃ vs, SqL K H' a vs ∧ RvL K T g' xs vs) → IterOk K T g xs kp (Itl K a) := fun a q => by
    refine ⟨fun g' S' H' i w l s hk hi => ?_, fun g' S' H' i l s hk hi => ?_⟩
    · obtain ⟨vs, h1, h2⟩ := q g' S' H' l s hk
      obtain ⟨y, e1, ry⟩ := h2.get hi
      refine ⟨⟨vs, y, h1, e1⟩, fun z H2 hz => ?_⟩
      obtain ⟨rfl, hz⟩ := hz
      have e2 := hz vs h1
      rw [e1] at e2; cases e2
      exact ⟨g', G.le.refl _, ry, s⟩
    · obtain ⟨vs, h1, h2⟩ := q g' S' H' l s hk
      exact ⟨vs, h1, by rw [h2.length]; exact hi⟩
  have fin2 : ∀ a, x = .ref a → (∃ vs, SqL K H a vs) → (∀ g' S' H', g.sub g' → Rs K T g' S' H' → kp S' = true → ∃ vs, SqL K H' a vs ∧ RvL K T g' xs vs) → ∃ a, x = .ref a ∧ (∃ vs, SqL K H a vs) ∧ IterOk K T g xs kp (Itl K a) ∧
    (∀ g' S' H', g.sub g' → Rs K T g' S' H' → kp S' = true → ∃ vs, SqL K H' a vs ∧ RvL K T g' xs vs) := fun a h1 h2 h3 => ⟨a, h1, h2, fin a h3, h3⟩
  cases v with
  | p v =>
    cases v with
    | lst ys =>
      cases e
      obtain ⟨a, vs, rfl, h1, h2⟩ := r
      exact fin2 a rfl ⟨vs, .inl (.inl (hS.fz _ _ h1))⟩ fun g' S' H' l s _ => ⟨vs, .inl (.inl (s.fz _ _ (l.F _ _ h1))), RvL.ofP (RpL.mono K T l.F ys vs h2)⟩
    | scr ys =>
      cases e
      obtain ⟨a, vs, rfl, h1, h2⟩ := r
      exact fin2 a rfl ⟨vs, hS.fz.seq h1⟩ fun g' S' H' l s _ => ⟨vs, s.fz.seq (l.F.seq h1), RvL.ofP (RpL.mono K T l.F ys vs h2)⟩
    | _ => cases e
  | ob i =>
    obtain ⟨a, ea, rfl⟩ := r
    unfold lstItems at e
    cases q : S[i]? with
    | none => simp [q] at e
    | some so =>
      cases so with
      | ins c fs => simp [q] at e
      | tup _ => simp [q] at e
      | dic _ _ => simp [q] at e
      | lst ys =>
        simp only [q, Option.some.injEq, Prod.mk.injEq] at e
        obtain ⟨rfl, rfl⟩ := e
        obtain ⟨vs, h1, h2⟩ := hS.at_ i _ a q ea
        refine fin2 a rfl ⟨vs, .inl (.inl h1)⟩ fun g' S' H' l s hk => ?_
        cases q2 : S'[i]? with
        | none => simp [q2] at hk
        | some so2 =>
          cases so2 with
          | ins c fs => simp [q2] at hk
          | tup _ => simp [q2] at hk
          | dic _ _ => simp [q2] at hk
          | lst zs =>
            simp only [q2] at hk
            have ez := VV.beqL_eq hk
            subst ez
            obtain ⟨t, ht⟩ := l.f
            have ea2 : g'.f[i]? = some a := by
              rw [← ht, List.getElem?_append_left (List.getElem?_eq_some_iff.mp ea).1]; exact ea
            obtain ⟨ws, k1, k2⟩ := s.at_ i _ a q2 ea2
            exact ⟨ws, .inl (.inl k1), k2⟩
theorem i_list {l : Expr} (hl : PE X l (tD X.K T E ma)) : PI X tg l (tI X.K T E (dIL ma)) :=
  PI.imp (pi_list hl) fun σ H R h => tD_I h fun g v S x H rv rs p => by
    cases q : lstItems S v with
    | none => simp only [q] at p; exact p.elim
    | some y =>
      obtain ⟨xs, kp⟩ := y
      simp only [q] at p
      obtain ⟨a, e1, h1, h2, _⟩ := iterL rs q rv
      exact ⟨a, e1, h1, p g H _ (G.le.refl g) rs h2⟩
/-- a tuple -/
def dIT (m : DE) : DI := fun env S => (m env S).bindI fun v S1 => match asTup v with
  | some xs => .ok (xs.map .p) (fun _ => true) S1
  | none => .no
theorem i_tup {l : Expr} (hl : PE X l (tD X.K T E ma)) : PI X tg l (tI X.K T E (dIT ma)) :=
  PI.imp (pi_tup hl) fun σ H R h => tD_I h fun g v S x H rv rs p => by
    cases q : asTup v with
    | none => simp only [q] at p; exact p.elim
    | some ys =>
      simp only [q] at p
      cases v with
      | ob i => cases q
      | p v =>
        cases v with
        | tup zs =>
          cases q
          obtain ⟨a, vs, rfl, h1, h2⟩ := rv
          refine ⟨a, rfl, ⟨vs, SqT.up rs.fz (.inl (.inl h1))⟩, p g H _ (G.le.refl g) rs ⟨fun g' S' H' i w l s _ hi => ?_, fun g' S' H' i l s _ hi => ?_⟩⟩
          · have k1 : SqT X.K H' a vs := SqT.up s.fz (SqT.up l.F (.inl (.inl h1)))
            obtain ⟨y, e1, ry⟩ := (RvL.ofP (RpL.mono X.K T l.F ys vs h2) : RvL X.K T g' _ vs).get hi
            refine ⟨⟨vs, y, k1, e1⟩, fun z H2 hz => ?_⟩
            obtain ⟨rfl, hz⟩ := hz
            have e2 := hz vs k1
            rw [e1] at e2; cases e2
            exact ⟨g', G.le.refl _, ry, s⟩
          · exact ⟨vs, SqT.up s.fz (SqT.up l.F (.inl (.inl h1))), by rw [h2.length]; simpa using hi⟩
        | _ => cases q
/-- range(n), range(a, b) -/
def rng (lo : Int) (n : Nat) : List VV := (List.range n).map fun (i : Nat) => VV.p (.int (lo + (i : Int)))
theorem iterR {K : PySem.W.Frag} {g : G} (lo : Int) (n : Nat) : IterOk K T g (rng lo n) (fun _ => true) (Itr lo n) := by
  refine ⟨fun g' S' H' i w l s _ hi => ?_, fun g' S' H' i l s _ hi => by
    have hi' : n ≤ i := by simpa [rng] using hi
    exact hi'⟩
  unfold rng at hi
  rw [List.getElem?_map] at hi
  have hin : i < n := by
    by_cases hl : i < n
    · exact hl
    · rw [List.getElem?_eq_none (by rw [List.length_range]; omega)] at hi; cases hi
  rw [List.getElem?_range hin] at hi
  cases hi
  refine ⟨hin, fun z H2 hz => ?_⟩
  obtain ⟨rfl, rfl⟩ := hz
  exact ⟨g', G.le.refl _, rfl, s⟩
def argsI : List DE → En → Sto → (List VV → Sto → RI) → RI
  | [], _, S, k => k [] S
  | m :: ms, env, S, k => (m env S).bindI fun v S1 => argsI ms env S1 fun vs S2 => k (v :: vs) S2
@[simp] theorem argsI_nil (env : En) (S : Sto) (k) : argsI [] env S k = k [] S := rfl
@[simp] theorem argsI_cons (m : DE) (ms) (env : En) (S : Sto) (k) : argsI (m :: ms) env S k = (m env S).bindI fun v S1 => argsI ms env S1 fun vs S2 => k (v :: vs) S2 := rfl
def dR1 (m : DE) : DI := fun env S => (m env S).bindI fun v S1 => match v with
  | .p (.int j) => if j.natAbs < 2 ^ 62 then .ok (rng 0 j.toNat) (fun _ => true) S1 else .no
  | _ => .no
theorem i_range1 {p : Pos} (hg : Gl X "range") (hm : X.mg "range" = none) (ha : PE X a (tD X.K T E ma)) (hs : starEach [a] X.env = (false, eval a X.env) :: starEach [] X.env := by rfl) : PI X tg (.Call (.Name "range" p) [a] [] pos) (tI X.K T E (dR1 ma)) :=
  PI.imp (pi_range1 hg hm (pa_cons ha pa_nil hs) hs) fun σ H R h => by
    refine tD_I h fun g v S x H rv rs p => ?_
    cases v with
    | ob i => exact p.elim
    | p v =>
      cases v with
      | int j =>
        cases rv
        by_cases hj : j.natAbs < 2 ^ 62
        · simp only [if_pos hj] at p
          exact ⟨j, rfl, by omega, by omega, p g H _ (G.le.refl g) rs (iterR 0 _)⟩
        · simp only [if_neg hj] at p; exact p.elim
      | _ => exact p.elim
def dR2 (m m' : DE) : DI := fun env S => (m env S).bindI fun v S1 => (m' env S1).bindI fun u S2 => match v, u with
  | .p (.int i), .p (.int j) => if i.natAbs < 2 ^ 62 ∧ j.natAbs < 2 ^ 62 then .ok (rng i (j - i).toNat) (fun _ => true) S2 else .no
  | _, _ => .no
theorem i_range2 {p : Pos} (hg : Gl X "range") (hm : X.mg "range" = none) (ha : PE X a (tD X.K T E ma)) (hb : PE X b (tD X.K T E mb)) (hs : starEach [a, b] X.env = (false, eval a X.env) :: starEach [b] X.env := by rfl) (hs2 : starEach [b] X.env = (false, eval b X.env) :: starEach [] X.env := by rfl) :
    PI X tg (.Call (.Name "range" p) [a, b] [] pos) (tI X.K T E (dR2 ma mb)) :=
  PI.imp (pi_range2 hg hm (pa_cons ha (pa_cons hb pa_nil hs2) hs) (by rw [hs, hs2]; rfl) hs2) fun σ H R ⟨g, env, S, hE, hS, h⟩ => by
    refine ⟨g, env, S, hE, hS, ?_⟩
    have p := PostE.bindI h
    revert p
    cases ma env S with
    | no => exact fun p => p
    | exc c fs S1 => exact fun p => p
    | ok v S1 =>
      intro p g1 x H1 l1 r1 s1
      obtain ⟨g2, v2, S2, l2, rv, rs, q⟩ := p g1 x H1 l1 r1 s1
      refine ⟨g2, env, S2, hE.mono X.K T l2.s, rs, ?_⟩
      have p2 := PostE.bindI q
      revert p2
      cases mb env S2 with
      | no => exact fun p => p
      | exc c fs S3 => exact fun p => p
      | ok u S3 =>
        intro p2 g3 y H3 l3 r3 s3
        obtain ⟨g4, u2, S4, l4, ru, rs4, q4⟩ := p2 g3 y H3 l3 r3 s3
        have rv4 := rv.mono X.K T l4.s
        split at q4
        · rename_i i j
          cases rv4; cases ru
          by_cases hj : i.natAbs < 2 ^ 62 ∧ j.natAbs < 2 ^ 62
          · rw [if_pos hj] at q4
            exact ⟨i, j, rfl, by omega, q4 g4 H3 _ (G.le.refl g4) rs4 (iterR i _)⟩
          · rw [if_neg hj] at q4; exact q4.elim
        · exact q4.elim

/-! ### for -/
def dForL (t : Tg) (kp : Sto → Bool) (body : DS) : List VV → En → Sto → RS
  | [], env, S => if kp S then .nx env S else .no
  | v :: vs, env, S => if kp S then match t.put v env with
    | some env1 => match body env1 S with
      | .nx e2 S2 => dForL t kp body vs e2 S2
      | .ct e2 S2 => dForL t kp body vs e2 S2
      | .bk e2 S2 => .nx e2 S2
      | r => r
    | none => .no
    else .no
def dFor (t : Tg) (it : DI) (body : DS) : DS := fun env S => (it env S).bindS fun xs kp S1 => dForL t kp body xs env S1
theorem s_for {t : Tg} {it : DI} {body : List Stmt} {m : DS} (hp : PassesOwn (model X.prog X.w) X.A X.env X.xe) (hc : X.calm = true) (hi : PI X tg iter (tI X.K T E it)) (hg : PG X tg (tTg X.K T t)) (hb : PSs X body (tS X.K T E m))
    (hs : ∀ x, foldedSetIterable iter X.env x = pure x := by intro _; rfl) : PS X (.For tg iter body [] pos) (tS X.K T E (dFor t it m)) :=
  (ps_for hp hc hi hg hb hs).imp fun D σ H ⟨g, env, S, hE, hS, h⟩ => by
    refine ⟨g, env, S, hE, hS, ?_⟩
    unfold dFor at h
    cases q : it env S with
    | no => rw [q] at h; exact h
    | exc c fs S1 => rw [q] at h; exact h
    | ok xs kp S1 =>
      rw [q] at h
      intro g1 H1 J l1 s1 ok
      refine ⟨fun i k σ H => ∃ g2 env2 S2, k = xs.length - i ∧ i ≤ xs.length ∧ g1.le g2 ∧ Re X.K T g2 env2 σ ∧ Rs X.K T g2 S2 H ∧ PostS X.K T E D g2 (dForL t kp m (xs.drop i) env2 S2), ⟨xs.length, g1, env, S1, by simp, Nat.zero_le _, G.le.refl _, hE.mono X.K T l1.s, s1, by rw [List.drop_zero]; exact PostS.up l1 h⟩, ?_⟩
      rintro i k σ2 H2 ⟨g2, env2, S2, rfl, hle, l2, hE2, s2, p2⟩
      by_cases hlt : i < xs.length
      · have hx : xs[i]? = some xs[i] := List.getElem?_eq_getElem hlt
        rw [List.drop_eq_getElem_cons hlt] at p2
        unfold dForL at p2
        by_cases hk : kp S2 = true
        · rw [if_pos hk] at p2
          obtain ⟨hgo, hyl⟩ := ok.go g2 S2 H2 i _ l2.s s2 hk hx
          refine .inr ⟨hgo, fun σ' H' => ∃ g3 env3 S3, g1.le g3 ∧ Re X.K T g3 env3 σ' ∧ Rs X.K T g3 S3 H' ∧ PostS X.K T E D g3 (dForL t kp m (xs.drop (i + 1)) env3 S3), ?_, ?_⟩
          · rintro σ' H' ⟨g3, env3, S3, l3, hE3, s3, p3⟩
            exact ⟨xs.length - (i + 1), by omega, g3, env3, S3, rfl, hlt, l3, hE3, s3, p3⟩
          · intro x H' hy
            obtain ⟨g3, l3, r3, s3⟩ := hyl x H' hy
            cases ep : t.put xs[i] env2 with
            | none => rw [ep] at p2; exact p2.elim
            | some env3 =>
              rw [ep] at p2
              simp only at p2
              refine ⟨g3, env2, S2, xs[i], env3, hE2.mono X.K T l3.s, s3, r3, ep, fun σ' rE _ => ?_⟩
              refine ⟨g3, env3, S2, rE, s3, ?_⟩
              cases em : m env3 S2 with
              | nx e4 S4 => rw [em] at p2; exact fun g4 σ4 H4 l4 r4 s4 => ⟨g4, e4, S4, (l2.trans l3).trans l4, r4, s4, PostS.up (l3.trans l4) p2⟩
              | ct e4 S4 => rw [em] at p2; exact fun g4 σ4 H4 l4 r4 s4 => ⟨g4, e4, S4, (l2.trans l3).trans l4, r4, s4, PostS.up (l3.trans l4) p2⟩
              | bk e4 S4 => rw [em] at p2; exact fun g4 σ4 H4 l4 r4 s4 => p2 g4 σ4 H4 (l3.trans l4) r4 s4
              | rt v4 S4 => rw [em] at p2; exact fun g4 x4 H4 l4 => p2 g4 x4 H4 (l3.trans l4)
              | exc c4 f4 S4 => rw [em] at p2; exact fun g4 x4 H4 l4 => p2 g4 x4 H4 (l3.trans l4)
              | no => rw [em] at p2; exact p2
        · rw [if_neg hk] at p2; exact p2.elim
      · have e : i = xs.length := by omega
        subst e
        rw [List.drop_length] at p2
        unfold dForL at p2
        by_cases hk : kp S2 = true
        · rw [if_pos hk] at p2
          exact .inl ⟨ok.stop g2 S2 H2 _ l2.s s2 hk (Nat.le_refl _), p2 g2 σ2 H2 (G.le.refl _) hE2 s2⟩
        · rw [if_neg hk] at p2; exact p2.elim
end
end Dn

set_option maxRecDepth 100000
namespace Dn
open PySem PySem.Spec PyProof.Rows L2

/-! ### comprehensions -/
def wipeE (env : En) : List Nat → En
  | [] => env
  | v :: vs => (wipeE env vs).set v none
theorem Re.wipe {K T g} {env : En} {σ : L2.St} (r : Re K T g env σ) : ∀ vs : List Nat, Re K T g (wipeE env vs) (L2.wipe σ vs)
  | [] => r
  | v :: vs => by
    have ih := Re.wipe r vs
    refine ⟨by show ((wipeE env vs).set v none).length = ((L2.wipe σ vs).set v none).length; rw [List.length_set, List.length_set]; exact ih.1, fun j w e => ?_⟩
    have e' : ((wipeE env vs).set v none)[j]? = some (some w) := e
    by_cases hj : v = j
    · subst hj
      by_cases hl : v < (wipeE env vs).length
      · rw [List.getElem?_set_self hl] at e'; cases e'
      · rw [List.getElem?_eq_none (by rw [List.length_set]; omega)] at e'; cases e'
    · rw [List.getElem?_set_ne hj] at e'
      obtain ⟨x, k1, k2⟩ := ih.2 j w e'
      exact ⟨x, by show ((L2.wipe σ vs).set v none)[j]? = _; rw [List.getElem?_set_ne hj]; exact k1, k2⟩
theorem wipe_sub {σ σ' : L2.St} {vs : List Nat} : ∀ {ws : List Nat}, (∀ i ∈ vs, i ∈ ws) → wipe σ' vs = wipe σ vs → wipe σ' ws = wipe σ ws := by
  have key : ∀ (τ : L2.St) (ws : List Nat) (j : Nat), (wipe τ ws)[j]? = if j ∈ ws then (if j < τ.length then some none else none) else τ[j]? := by
    intro τ ws
    induction ws with
    | nil => intro j; rfl
    | cons w ws ih =>
      intro j
      show ((wipe τ ws).set w none)[j]? = _
      by_cases hj : w = j
      · subst hj
        by_cases hl : w < τ.length
        · rw [List.getElem?_set_self (by rw [wipe_length]; exact hl)]; simp [hl]
        · rw [List.getElem?_eq_none (by rw [List.length_set, wipe_length]; omega)]; simp [hl]
      · rw [List.getElem?_set_ne hj, ih j]
        have e : (j ∈ w :: ws) ↔ j ∈ ws := by
          constructor
          · intro h; rcases List.mem_cons.mp h with z | z
            · exact absurd z.symm hj
            · exact z
          · exact List.mem_cons_of_mem _
        by_cases hm : j ∈ ws
        · rw [if_pos hm, if_pos (e.mpr hm)]
        · rw [if_neg hm, if_neg (fun z => hm (e.mp z))]
  intro ws hsub h
  have hlen : σ'.length = σ.length := by rw [← wipe_length σ' vs, ← wipe_length σ vs, h]
  apply List.ext_getElem?
  intro j
  rw [key, key]
  by_cases hm : j ∈ ws
  · rw [if_pos hm, if_pos hm, hlen]
  · have h1 := congrArg (fun τ => τ[j]?) h
    simp only [key, if_neg (fun z => hm (hsub j z))] at h1
    rw [if_neg hm, if_neg hm, h1]
theorem wipe_idem (σ : L2.St) (vs : List Nat) : wipe (wipe σ vs) vs = wipe σ vs := by
  induction vs with
  | nil => rfl
  | cons v vs ih =>
    show (wipe ((wipe σ vs).set v none) vs).set v none = (wipe σ vs).set v none
    have h : ∀ (τ : L2.St) (ws : List Nat), (wipe (τ.set v none) ws).set v none = (wipe τ ws).set v none := by
      intro τ ws
      have := wipe_set (σ := τ) (i := v) (x := none) (vs := v :: ws) List.mem_cons_self
      exact this
    rw [h, ih]

inductive RC where
  | ok (acc : List PV) (S : Sto)
  | no
def dCompL (t : Tg) (tt : DB) (el : DE) (kp : Sto → Bool) (env : En) : List VV → List PV → Sto → RC
  | [], acc, S => if kp S then .ok acc S else .no
  | v :: vs, acc, S => if kp S then match t.put v env with
    | some env1 => match tt env1 S with
      | .ok true S1 => match el env1 S1 with
        | .ok (.p w) S2 => if acc.length < LIM then dCompL t tt el kp env vs (acc ++ [w]) S2 else .no
        | _ => .no
      | .ok false S1 => dCompL t tt el kp env vs acc S1
      | _ => .no
    | none => .no
    else .no
def RC.toE (r : RC) : RE := match r with
  | .ok acc S => .ok (.p (.lst acc)) S
  | .no => .no
@[simp] theorem RC.toE_ok (acc) (S : Sto) : (RC.ok acc S).toE = .ok (.p (.lst acc)) S := rfl
def dComp (vs : List Nat) (t : Tg) (it : DI) (tt : DB) (el : DE) : DE := fun env S => (it env S).bindE fun xs kp S1 => (dCompL t tt el kp (wipeE env vs) xs [] S1).toE
def dYes : DB := fun _ S => .ok true S

section
variable {X : Cx} {T : Tab} {E : XK} {e a b c o tg iter elt : Expr} {pos apos : Pos} {ma mb mc mo : DE} {ta tb : DB}
/-- the list that is made, hidden: behind the turns so far -/
structure CI (K : PySem.W.Frag) (T : Tab) (g1 g2 : G) (D : Addr) (acc : List PV) (H : Hp) (S : Sto) : Prop where
  sub : g1.sub g2
  hid : ∃ vs, g2.hid = (D, .lst vs) :: g1.hid ∧ RpL K T g2.F acc vs
  rs : Rs K T g2 S H
theorem CI.at_ {K g1 g2 D acc H S} (h : CI K T g1 g2 D acc H S) : ∃ vs, H D = some (.lst vs) ∧ RpL K T g2.F acc vs := by
  obtain ⟨vs, e, r⟩ := h.hid
  exact ⟨vs, (h.rs.hid (D, .lst vs) (by rw [e]; exact List.mem_cons_self)).1, r⟩
theorem CI.up {K g1 g2 g3 D acc H H3 S S3} (h : CI K T g1 g2 D acc H S) (l : g2.le g3) (s : Rs K T g3 S3 H3) : CI K T g1 g3 D acc H3 S3 := by
  obtain ⟨vs, e, r⟩ := h.hid
  exact ⟨h.sub.trans l.s, ⟨vs, by rw [l.hid]; exact e, RpL.mono K T l.F acc vs r⟩, s⟩
theorem CI.app {K g1 g2 D acc H S} (h : CI K T g1 g2 D acc H S) {w : PV} {y : V} (rw_ : Rp K T g2.F w y) (hl : acc.length < LIM) : ∃ vs, H D = some (.lst vs) ∧ vs.length < sizeLine ∧ ∃ g3, CI K T g1 g3 D (acc ++ [w]) (upd H D (.lst (vs ++ [y]))) S ∧ g3.F = g2.F ∧ g3.f = g2.f := by
  obtain ⟨vs, e, r⟩ := h.hid
  have h1 := (h.rs.hid (D, .lst vs) (by rw [e]; exact List.mem_cons_self)).1
  refine ⟨vs, h1, by rw [r.length]; exact lim_lt (Nat.le_of_lt hl), { g2 with hid := (D, .lst (vs ++ [y])) :: g1.hid }, ⟨⟨h.sub.F, h.sub.f⟩, ⟨vs ++ [y], rfl, r.append ⟨y, [], rfl, rw_, rfl⟩⟩, h.rs.hidw e⟩, rfl, rfl⟩
theorem CI.fin {K g1 g2 D acc H S} (h : CI K T g1 g2 D acc H S) {E : XK} {Q : VK} (p : PostE K T E g1 (.ok (.p (.lst acc)) S) Q) : Q (.ref D) H := by
  obtain ⟨vs, e, r⟩ := h.hid
  have hD := (h.rs.hid (D, .lst vs) (by rw [e]; exact List.mem_cons_self)).2.1
  refine p { F := upd g2.F D (.lst vs), f := g2.f, hid := g1.hid } (.ref D) H ⟨⟨h.sub.F.trans (same_new hD), h.sub.f⟩, rfl⟩ ⟨D, vs, rfl, by show upd g2.F D _ D = _; exact upd_same, RpL.mono K T (same_new hD) acc vs r⟩ (h.rs.unhide e)
theorem CI.start {K : PySem.W.Frag} {g1 : G} {H : Hp} {S : Sto} {D : Addr} (s : Rs K T g1 S H) (hD : H D = none) : ∃ g2, CI K T g1 g2 D [] (upd H D (.lst [])) S ∧ g2.F = g1.F ∧ g2.f = g1.f :=
  ⟨g1.hide D (.lst []), ⟨⟨Same.refl _, List.prefix_refl _⟩, ⟨[], rfl, rfl⟩, s.hide hD _⟩, rfl, rfl⟩
theorem Rv.eqg {K g g'} (hF : g'.F = g.F) (hf : g'.f = g.f) {v : VV} {x : V} (r : Rv K T g v x) : Rv K T g' v x := by
  cases v with
  | p v => show Rp K T g'.F v x; rw [hF]; exact r
  | ob i => obtain ⟨a, e, q⟩ := r; exact ⟨a, by rw [hf]; exact e, q⟩
theorem Re.sub {K g g' env σ} (h : G.sub g g') (r : Re K T g env σ) : Re K T g' env σ := r.mono K T h

/-- the inner turns: from the list so far to what is wanted of it -/
theorem compL_run {K : PySem.W.Frag} {t : Tg} {tt : DB} {el : DE} {kp : Sto → Bool} {xs : List VV} {J : It} {env : En} {σ : L2.St} {vs : List Nat} {D : Addr} {g0 g1 : G} {acc0 : List PV} {H0 : Hp} {S0 : Sto} {Nx : Hp → Prop}
    (ok : IterOk K T g1 xs kp J) (hE : Re K T g1 env (wipe σ vs)) (hsl : ∀ i ∈ t.slots, i ∈ vs) (hci : CI K T g0 g1 D acc0 H0 S0) {res : RC} (hres : dCompL t tt el kp env xs acc0 S0 = res) (fin : ∀ acc g S H, res = .ok acc S → CI K T g0 g D acc H S → g1.sub g → Nx H) (hne : res ≠ .no)
    {g : TG} {tti : TT} {te : TE} (hg : ∀ v σ H Q, tTg K T t v σ H Q → g v σ H Q) (ht : ∀ σ H Q, tB_ K T E0 tt σ H Q → tti σ H Q) (he : ∀ σ H Q, tD K T E0 el σ H Q → te σ H Q) :
    ∃ W : Nat → Nat → Hp → Prop, (∃ m, W 0 m H0) ∧ ∀ i m H, W i m H →
      (J.stop i H ∧ Nx H) ∨ (J.go i H ∧ ∃ N : Hp → Prop, (∀ H', N H' → ∃ m', m' < m ∧ W (i + 1) m' H') ∧ ∀ x H', J.yld i H x H' → g x (wipe σ vs) H' fun σ2 H2 => wipe σ2 vs = wipe σ vs ∧ tti σ2 H2 fun b H3 =>
        if b = true then te σ2 H3 fun y H4 => ∃ acc, H4 D = some (.lst acc) ∧ acc.length < sizeLine ∧ N (upd H4 D (.lst (acc ++ [y]))) else N H3) := by
  refine ⟨fun i m H => ∃ g2 S2 acc, m = xs.length - i ∧ i ≤ xs.length ∧ CI K T g0 g2 D acc H S2 ∧ g1.sub g2 ∧ dCompL t tt el kp env (xs.drop i) acc S2 = res, ⟨xs.length, g1, S0, acc0, by simp, Nat.zero_le _, hci, ⟨Same.refl _, List.prefix_refl _⟩, by rw [List.drop_zero]; exact hres⟩, ?_⟩
  rintro i m H ⟨g2, S2, acc, rfl, hle, ci, l2, eq⟩
  by_cases hlt : i < xs.length
  · have hx : xs[i]? = some xs[i] := List.getElem?_eq_getElem hlt
    rw [List.drop_eq_getElem_cons hlt] at eq
    unfold dCompL at eq
    by_cases hk : kp S2 = true
    · rw [if_pos hk] at eq
      obtain ⟨hgo, hyl⟩ := ok.go g2 S2 H i _ l2 ci.rs hk hx
      refine .inr ⟨hgo, fun H' => ∃ g3 S3 acc3, CI K T g0 g3 D acc3 H' S3 ∧ g1.sub g3 ∧ dCompL t tt el kp env (xs.drop (i + 1)) acc3 S3 = res, ?_, ?_⟩
      · rintro H' ⟨g3, S3, acc3, ci3, l3, eq3⟩
        exact ⟨xs.length - (i + 1), by omega, g3, S3, acc3, rfl, hlt, ci3, l3, eq3⟩
      · intro x H' hy
        obtain ⟨g3, l3, r3, s3⟩ := hyl x H' hy
        have ci3 := ci.up l3 s3
        cases ep : t.put xs[i] env with
        | none => simp only [ep] at eq; exact absurd eq.symm hne
        | some env3 =>
          simp only [ep] at eq
          refine hg _ _ _ _ ⟨g3, env, S2, xs[i], env3, hE.sub (l2.trans l3.s), s3, r3, ep, fun σ' rE hw => ?_⟩
          refine ⟨by rw [wipe_sub hsl hw, wipe_idem], ht _ _ _ ⟨g3, env3, S2, rE, s3, ?_⟩⟩
          cases et : tt env3 S2 with
          | no => simp only [et] at eq; exact absurd eq.symm hne
          | exc _ _ _ => simp only [et] at eq; exact absurd eq.symm hne
          | ok k S4 =>
            intro g4 H4 l4 s4
            have ci4 := ci3.up l4 s4
            cases k with
            | false =>
              simp only [et] at eq
              exact iteF ⟨g4, S4, acc, ci4, (l2.trans l3.s).trans l4.s, eq⟩
            | true =>
              simp only [et] at eq
              refine iteT (he _ _ _ ⟨g4, env3, S4, rE.mono K T l4.s, s4, ?_⟩)
              cases ee : el env3 S4 with
              | no => simp only [ee] at eq; exact absurd eq.symm hne
              | exc _ _ _ => simp only [ee] at eq; exact absurd eq.symm hne
              | ok w S5 =>
                cases w with
                | ob j => simp only [ee] at eq; exact absurd eq.symm hne
                | p w =>
                  simp only [ee] at eq
                  intro g5 y H5 l5 r5 s5
                  have ci5 := ci4.up l5 s5
                  by_cases hl : acc.length < LIM
                  · rw [if_pos hl] at eq
                    obtain ⟨vs', k1, k2, g6, ci6, hF, hf⟩ := ci5.app r5 hl
                    exact ⟨vs', k1, k2, g6, S5, acc ++ [w], ci6, ⟨by rw [hF]; exact ((l2.trans l3.s).trans l4.s).F.trans l5.F, by rw [hf]; exact (((l2.trans l3.s).trans l4.s).trans l5.s).f⟩, eq⟩
                  · rw [if_neg hl] at eq; exact absurd eq.symm hne
    · rw [if_neg hk] at eq; exact absurd eq.symm hne
  · have e : i = xs.length := by omega
    subst e
    rw [List.drop_length] at eq
    unfold dCompL at eq
    by_cases hk : kp S2 = true
    · rw [if_pos hk] at eq
      exact .inl ⟨ok.stop g2 S2 H _ l2 ci.rs hk (Nat.le_refl _), fin acc g2 S2 H eq.symm ci l2⟩
    · rw [if_neg hk] at eq; exact absurd eq.symm hne
theorem tLc_of {vs : List Nat} {t : Tg} {it : DI} {tt : DB} {el : DE} {σ H} {Q : VK} (hsl : ∀ i ∈ t.slots, i ∈ vs) (h : tD X.K T E (dComp vs t it tt el) σ H Q) : tLc (tI X.K T E it) (tTg X.K T t) (tB_ X.K T E0 tt) (tD X.K T E0 el) vs σ H Q := by
  obtain ⟨g, env, S, hE, hS, h⟩ := h
  refine ⟨g, env, S, hE, hS, ?_⟩
  unfold dComp at h
  cases q : it env S with
  | no => rw [q] at h; exact h
  | exc c fs S1 => rw [q] at h; exact h
  | ok xs kp S1 =>
    rw [q, RI.bindE_ok] at h
    intro g1 H1 J l1 s1 ok D hD
    obtain ⟨g2, ci, hF, hf⟩ := CI.start s1 hD
    have hE1 := (hE.mono X.K T l1.s).wipe vs
    cases er : dCompL t tt el kp (wipeE env vs) xs [] S1 with
    | no => rw [er] at h; exact h.elim
    | ok acc S2 =>
      rw [er, RC.toE_ok] at h
      have sub12 : g1.sub g2 := ci.sub
      refine compL_run (ok.up sub12) (hE1.sub sub12) hsl ci er (fun acc' g S H e c _ => ?_) (fun z => by cases z) (fun _ _ _ _ z => z) (fun _ _ _ z => z) fun _ _ _ z => z
      cases e
      exact c.fin (PostE.up l1 h)
theorem tks0 : Tks X E0 := takes0
theorem r_comp {ifs : List Expr} {scope : Scope} {own : List (Str × Nat)} {t : Tg} {it : DI} {tt : DB} {el : DE} (hc : X.calm = true) (hN : X.N.Nodup) (hi : PI X tg iter (tI X.K T E it)) (ok : BlkOk X.N X.env.scope scope own)
    (hsl : ∀ i ∈ t.slots, i ∈ own.map (·.2))
    (hg : ∀ (s : Shared) (H : Hp) (C : Addr) (cl : List (Str × Addr)) (fp : List Addr), PG (X.blk s H scope (compEnvC scope cl C X.env) fp) tg (tTg X.K T t))
    (ht : ∀ (s : Shared) (H : Hp) (C : Addr) (cl : List (Str × Addr)) (fp : List Addr), PTs (X.blk s H scope (compEnvC scope cl C X.env) fp) ifs (tB_ X.K T E0 tt))
    (he : ∀ (s : Shared) (H : Hp) (C : Addr) (cl : List (Str × Addr)) (fp : List Addr), PE (X.blk s H scope (compEnvC scope cl C X.env) fp) elt (tD X.K T E0 el)) (hs : ∀ x, foldedSetIterable iter X.env x = pure x := by intro _; rfl) :
    PE X (.ListComp elt [⟨tg, iter, ifs, 0⟩] scope pos) (tD X.K T E (dComp (own.map (·.2)) t it tt el)) :=
  (pe_lc hc hN hi ok hg ht he hs).imp fun σ H Q h => tLc_of hsl h
theorem t_yes : PTs X [] (tB_ X.K T E0 dYes) := ⟨fun pins s σ H Q I ⟨g, env, S, hE, hS, h⟩ => pts_nil.run pins s σ H Q I (h g H (G.le.refl g) hS)⟩
theorem t_one {t : DB} (h : PT X c (tB_ X.K T E0 t)) : PTs X [c] (tB_ X.K T E0 t) := pts_one h
/-- name = [..] -/
theorem s_setComp {i : Nat} {y : Str} {py spos : Pos} {ifs : List Expr} {scope : Scope} {own : List (Str × Nat)} {t : Tg} {it : DI} {tt : DB} {el : DE} (hc : X.calm = true) (hN : X.N.Nodup) (hy : X.N[i]? = some y) (hyl : X.env.scope.names.lookup y = some .local)
    (hsw : swapsWith (.ListComp elt [⟨tg, iter, ifs, 0⟩] scope pos) (some (.Name y py)) spos.line X.env = pure true) (hi : PI X tg iter (tI X.K T E it)) (ok : BlkOk X.N X.env.scope scope own)
    (hsl : ∀ i ∈ t.slots, i ∈ own.map (·.2))
    (hg : ∀ (s : Shared) (H : Hp) (C : Addr) (cl : List (Str × Addr)) (fp : List Addr), PG (X.blk s H scope (compEnvC scope cl C X.env) fp) tg (tTg X.K T t))
    (ht : ∀ (s : Shared) (H : Hp) (C : Addr) (cl : List (Str × Addr)) (fp : List Addr), PTs (X.blk s H scope (compEnvC scope cl C X.env) fp) ifs (tB_ X.K T E0 tt))
    (he : ∀ (s : Shared) (H : Hp) (C : Addr) (cl : List (Str × Addr)) (fp : List Addr), PE (X.blk s H scope (compEnvC scope cl C X.env) fp) elt (tD X.K T E0 el)) (hs : ∀ x, foldedSetIterable iter X.env x = pure x := by intro _; rfl) :
    PS X (.Assign [.Name y py] (.ListComp elt [⟨tg, iter, ifs, 0⟩] scope pos) spos) (tS X.K T E (dSet (.nm i) (dComp (own.map (·.2)) t it tt el))) :=
  (ps_setLc hc hN hy hyl hsw hi ok hg ht he hs).imp fun D σ H h => by
    refine tLc_of hsl (Q := fun x H1 => gName i x σ H1 D.nx) ?_
    obtain ⟨g, env, S, hE, hS, p⟩ := h
    refine ⟨g, env, S, hE, hS, ?_⟩
    unfold dSet at p
    revert p
    cases dComp (own.map (·.2)) t it tt el env S with
    | no => exact fun p => p
    | exc c fs S1 => exact fun p => p
    | ok v S1 => exact fun p g1 x H1 l1 r1 s1 => p g1 _ H1 l1 ((hE.mono X.K T l1.s).set i r1) s1
end
end Dn

set_option maxRecDepth 100000
namespace Dn
open PySem PySem.Spec PyProof.Rows L2

section
variable {X : Cx} {T : Tab} {E : XK} {e a b c o tg iter tg1 iter1 elt : Expr} {pos apos : Pos} {ma mb mc mo : DE} {ta tb : DB}
/-! ### two fors in a comprehension -/
def dCompL2 (t : Tg) (tt : DB) (vs1 : List Nat) (t1 : Tg) (it1 : DI) (tt1 : DB) (el : DE) (kp : Sto → Bool) (env : En) : List VV → List PV → Sto → RC
  | [], acc, S => if kp S then .ok acc S else .no
  | v :: vs, acc, S => if kp S then match t.put v env with
    | some env1 => match tt env1 S with
      | .ok true S1 => match it1 env1 S1 with
        | .ok xs1 kp1 S2 => match dCompL t1 tt1 el kp1 (wipeE env1 vs1) xs1 acc S2 with
          | .ok acc2 S3 => dCompL2 t tt vs1 t1 it1 tt1 el kp env vs acc2 S3
          | .no => .no
        | _ => .no
      | .ok false S1 => dCompL2 t tt vs1 t1 it1 tt1 el kp env vs acc S1
      | _ => .no
    | none => .no
    else .no
def dComp2 (vs vs1 : List Nat) (t : Tg) (it : DI) (tt : DB) (t1 : Tg) (it1 : DI) (tt1 : DB) (el : DE) : DE := fun env S => (it env S).bindE fun xs kp S1 => (dCompL2 t tt vs1 t1 it1 tt1 el kp (wipeE env vs) xs [] S1).toE
theorem tLc2_of {vs vs1 : List Nat} {t t1 : Tg} {it it1 : DI} {tt tt1 : DB} {el : DE} {σ H} {Q : VK} (hsl : ∀ i ∈ t.slots, i ∈ vs) (hsl1 : ∀ i ∈ t1.slots, i ∈ vs1) (h : tD X.K T E (dComp2 vs vs1 t it tt t1 it1 tt1 el) σ H Q) :
    tLc2 (tI X.K T E it) (tTg X.K T t) (tB_ X.K T E0 tt) (tI X.K T E0 it1) (tTg X.K T t1) (tB_ X.K T E0 tt1) (tD X.K T E0 el) vs vs1 σ H Q := by
  obtain ⟨g, env, S, hE, hS, h⟩ := h
  refine ⟨g, env, S, hE, hS, ?_⟩
  unfold dComp2 at h
  cases q : it env S with
  | no => rw [q] at h; exact h
  | exc c fs S1 => rw [q] at h; exact h
  | ok xs kp S1 =>
    rw [q, RI.bindE_ok] at h
    intro g1 H1 J l1 s1 ok D hD
    obtain ⟨g2, ci, hF, hf⟩ := CI.start s1 hD
    have hE1 := (hE.mono X.K T l1.s).wipe vs
    cases er : dCompL2 t tt vs1 t1 it1 tt1 el kp (wipeE env vs) xs [] S1 with
    | no => rw [er] at h; exact h.elim
    | ok acc0 Sf =>
      rw [er, RC.toE_ok] at h
      generalize hres : RC.ok acc0 Sf = res at er
      have hne : res ≠ .no := by rw [← hres]; exact fun z => by cases z
      refine ⟨fun i m H => ∃ g3 S3 acc, m = xs.length - i ∧ i ≤ xs.length ∧ CI X.K T g1 g3 D acc H S3 ∧ dCompL2 t tt vs1 t1 it1 tt1 el kp (wipeE env vs) (xs.drop i) acc S3 = res, ⟨xs.length, g2, S1, [], by simp, Nat.zero_le _, ci, by rw [List.drop_zero]; exact er⟩, ?_⟩
      rintro i m H ⟨g3, S3, acc, rfl, hle, ci3, eq⟩
      by_cases hlt : i < xs.length
      · have hx : xs[i]? = some xs[i] := List.getElem?_eq_getElem hlt
        rw [List.drop_eq_getElem_cons hlt] at eq
        unfold dCompL2 at eq
        by_cases hk : kp S3 = true
        case neg => rw [if_neg hk] at eq; exact absurd eq.symm hne
        rw [if_pos hk] at eq
        obtain ⟨hgo, hyl⟩ := ok.go g3 S3 H i _ ci3.sub ci3.rs hk hx
        refine .inr ⟨hgo, fun H' => ∃ g4 S4 acc4, CI X.K T g1 g4 D acc4 H' S4 ∧ dCompL2 t tt vs1 t1 it1 tt1 el kp (wipeE env vs) (xs.drop (i + 1)) acc4 S4 = res, ?_, ?_⟩
        · rintro H' ⟨g4, S4, acc4, ci4, eq4⟩
          exact ⟨xs.length - (i + 1), by omega, g4, S4, acc4, rfl, hlt, ci4, eq4⟩
        · intro x H' hy
          obtain ⟨g4, l4, r4, s4⟩ := hyl x H' hy
          have ci4 := ci3.up l4 s4
          cases ep : t.put xs[i] (wipeE env vs) with
          | none => simp only [ep] at eq; exact absurd eq.symm hne
          | some env4 =>
            simp only [ep] at eq
            refine ⟨g4, wipeE env vs, S3, xs[i], env4, hE1.sub ci4.sub, s4, r4, ep, fun σ' rE hw => ?_⟩
            refine ⟨by rw [wipe_sub hsl hw, wipe_idem], ⟨g4, env4, S3, rE, s4, ?_⟩⟩
            cases et : tt env4 S3 with
            | no => simp only [et] at eq; exact absurd eq.symm hne
            | exc _ _ _ => simp only [et] at eq; exact absurd eq.symm hne
            | ok k S5 =>
              intro g5 H5 l5 s5
              have ci5 := ci4.up l5 s5
              cases k with
              | false =>
                simp only [et] at eq
                exact iteF ⟨g5, S5, acc, ci5, eq⟩
              | true =>
                simp only [et] at eq
                have rE5 := rE.mono X.K T l5.s
                refine iteT ⟨g5, env4, S5, rE5, s5, ?_⟩
                cases ei : it1 env4 S5 with
                | no => simp only [ei] at eq; exact absurd eq.symm hne
                | exc _ _ _ => simp only [ei] at eq; exact absurd eq.symm hne
                | ok xs1 kp1 S6 =>
                  simp only [ei] at eq
                  intro g6 H6 J1 l6 s6 ok1
                  have ci6 := ci5.up l6 s6
                  cases ec : dCompL t1 tt1 el kp1 (wipeE env4 vs1) xs1 acc S6 with
                  | no => simp only [ec] at eq; exact absurd eq.symm hne
                  | ok acc7 S7 =>
                    simp only [ec] at eq
                    exact compL_run (Nx := fun H' => ∃ g4 S4 acc4, CI X.K T g1 g4 D acc4 H' S4 ∧ dCompL2 t tt vs1 t1 it1 tt1 el kp (wipeE env vs) (xs.drop (i + 1)) acc4 S4 = res)
                      ok1 ((rE5.mono X.K T l6.s).wipe vs1) hsl1 ci6 ec (fun acc' g' S' H' e c _ => ⟨g', S', acc', c, by injection e with e1 e2; rw [← e1, ← e2]; exact eq⟩) (fun z => by cases z) (fun _ _ _ _ z => z) (fun _ _ _ z => z) fun _ _ _ z => z
      · have e : i = xs.length := by omega
        subst e
        rw [List.drop_length] at eq
        unfold dCompL2 at eq
        by_cases hk : kp S3 = true
        · rw [if_pos hk] at eq
          rw [← hres] at eq
          injection eq with e1 e2
          subst e1; subst e2
          exact .inl ⟨ok.stop g3 _ H _ ci3.sub ci3.rs hk (Nat.le_refl _), ci3.fin (PostE.up l1 h)⟩
        · rw [if_neg hk] at eq; exact absurd eq.symm hne
theorem r_comp2 {ifs ifs1 : List Expr} {scope : Scope} {own : List (Str × Nat)} {vs1 : List Nat} {t t1 : Tg} {it it1 : DI} {tt tt1 : DB} {el : DE} (hc : X.calm = true) (hN : X.N.Nodup) (hi : PI X tg iter (tI X.K T E it)) (ok : BlkOk X.N X.env.scope scope own) (hv : ∀ i ∈ vs1, i ∈ own.map (·.2))
    (hsl : ∀ i ∈ t.slots, i ∈ own.map (·.2)) (hsl1 : ∀ i ∈ t1.slots, i ∈ vs1)
    (hg : ∀ (s : Shared) (H : Hp) (C : Addr) (cl : List (Str × Addr)) (fp : List Addr), PG (X.blk s H scope (compEnvC scope cl C X.env) fp) tg (tTg X.K T t))
    (ht : ∀ (s : Shared) (H : Hp) (C : Addr) (cl : List (Str × Addr)) (fp : List Addr), PTs (X.blk s H scope (compEnvC scope cl C X.env) fp) ifs (tB_ X.K T E0 tt))
    (hi1 : ∀ (s : Shared) (H : Hp) (C : Addr) (cl : List (Str × Addr)) (fp : List Addr), PI (X.blk s H scope (compEnvC scope cl C X.env) fp) tg1 iter1 (tI X.K T E0 it1))
    (hg1 : ∀ (s : Shared) (H : Hp) (C : Addr) (cl : List (Str × Addr)) (fp : List Addr), PG (X.blk s H scope (compEnvC scope cl C X.env) fp) tg1 (tTg X.K T t1))
    (ht1 : ∀ (s : Shared) (H : Hp) (C : Addr) (cl : List (Str × Addr)) (fp : List Addr), PTs (X.blk s H scope (compEnvC scope cl C X.env) fp) ifs1 (tB_ X.K T E0 tt1))
    (he : ∀ (s : Shared) (H : Hp) (C : Addr) (cl : List (Str × Addr)) (fp : List Addr), PE (X.blk s H scope (compEnvC scope cl C X.env) fp) elt (tD X.K T E0 el)) (hs : ∀ x, foldedSetIterable iter X.env x = pure x := by intro _; rfl) (hs1 : ∀ env x, foldedSetIterable iter1 env x = pure x := by intro _ _; rfl) :
    PE X (.ListComp elt [⟨tg, iter, ifs, 0⟩, ⟨tg1, iter1, ifs1, 0⟩] scope pos) (tD X.K T E (dComp2 (own.map (·.2)) vs1 t it tt t1 it1 tt1 el)) :=
  (pe_lc2 hc hN hi ok hv hg ht hi1 hg1 ht1 he hs hs1).imp fun σ H Q h => tLc2_of hsl hsl1 h

/-! ### built-ins -/
abbrev MB := List VV → Sto → Option VV
def RrB (X : Cx) (T : Tab) (m : MB) : List V → Hp → VK → Prop := fun xs H Q => ∃ g vs S, RvL X.K T g vs xs ∧ Rs X.K T g S H ∧ PostE X.K T E0 g (RE.of S (m vs S)) Q
def BiM (X : Cx) (T : Tab) (f : Value) (m : MB) : Prop := CallR X f (RrB X T m)
def dBi (m : MB) (ms : List DE) : DE := fun env S => args ms env S fun vs S1 => RE.of S1 (m vs S1)
theorem tCB_of {m : MB} {ms : List DE} {σ H} {Q : VK} (h : tD X.K T E (dBi m ms) σ H Q) : tCB (RrB X T m) (tA X.K T E ms) σ H Q :=
  tA_of h fun g vs S xs H _ r s p => ⟨g, vs, S, r, s, p.w0⟩
theorem r_bi {id : String} {x : Str} {p : Pos} {es : List Expr} {m : MB} {ms : List DE} (hc : BiM X T (.builtin id) m) (hg : Gl X x) (hm : X.mg x = none) (hv : bootBuiltins x = some (.builtin id)) (ha : PA X (e :: es) (tA X.K T E ms)) (hn : x ≠ "__name__" := by decide) (hdb : (x == ("__debug__" : Str)) = false := by decide)
    (he : starEach (e :: es) X.env = (false, eval e X.env) :: starEach es X.env := by rfl) (hpl : (backTo pos (starEach es X.env)).any (·.1) = false := by rfl) : PE X (.Call (.Name x p) (e :: es) [] pos) (tD X.K T E (dBi m ms)) :=
  (pe_callB hc hg hm hv ha hn hdb he hpl).imp fun σ H Q h => tCB_of h
theorem r_bty {ty : String} {x : Str} {p : Pos} {es : List Expr} {m : MB} {ms : List DE} (hc : BiM X T (.type ty) m) (hg : Gl X x) (hm : X.mg x = none) (hv : bootBuiltins x = some (.type ty)) (ha : PA X (e :: es) (tA X.K T E ms)) (hn : x ≠ "__name__" := by decide) (hdb : (x == ("__debug__" : Str)) = false := by decide)
    (he : starEach (e :: es) X.env = (false, eval e X.env) :: starEach es X.env := by rfl) (hpl : (backTo pos (starEach es X.env)).any (·.1) = false := by rfl) : PE X (.Call (.Name x p) (e :: es) [] pos) (tD X.K T E (dBi m ms)) :=
  (pe_callTy hc hg hm hv ha hn hdb he hpl).imp fun σ H Q h => tCB_of h
theorem RvL.one {K g} {v : VV} {xs : List V} (r : RvL K T g [v] xs) : ∃ x, xs = [x] ∧ Rv K T g v x := by
  obtain ⟨x, rr, e, h1, h2⟩ := r; cases h2; exact ⟨x, e, h1⟩
theorem RvL.two {K g} {v u : VV} {xs : List V} (r : RvL K T g [v, u] xs) : ∃ x y, xs = [x, y] ∧ Rv K T g v x ∧ Rv K T g u y := by
  obtain ⟨x, rr, e, h1, h2⟩ := r; obtain ⟨y, e2, k1⟩ := RvL.one h2; exact ⟨x, y, by rw [e, e2], h1, k1⟩
/-- one argument -/
def mB1 (f : VV → Sto → Option VV) : MB := fun vs S => match vs with
  | [v] => f v S
  | _ => none
theorem biM_1 {f : Value} {r : List V → Hp → VK → Prop} {k : VV → Sto → Option VV} (ho : CallR X f r)
    (h : ∀ g v S x H w Q, k v S = some w → Rv X.K T g v x → Rs X.K T g S H → PostE X.K T E0 g (.ok w S) Q → r [x] H Q) : BiM X T f (mB1 k) := by
  intro pins s σ H xs us Q I r ⟨g, vs, S, rv, rs, p⟩
  unfold mB1 at p
  split at p
  · rename_i v
    obtain ⟨x, rfl, r1⟩ := rv.one
    cases e : k v S with
    | none => rw [e] at p; exact p.elim
    | some w => rw [e] at p; exact ho pins s σ H _ us Q I r (h g v S x H w Q e r1 rs p)
  · exact p.elim
/-- the items of a list (plain, the script, or in the store: how many), a tuple -/
def lenOf (S : Sto) : VV → Option Nat
  | .p (.lst xs) => some xs.length
  | .p (.scr xs) => some xs.length
  | .p (.tup xs) => some xs.length
  | .ob i => match S[i]? with
    | some (.lst xs) => some xs.length
    | _ => none
  | _ => none
theorem Rs.seq_len {K g S H} (hS : Rs K T g S H) {v : VV} {x : V} {n : Nat} (e : lenOf S v = some n) (r : Rv K T g v x) : ∃ a vs, x = .ref a ∧ (SqL K H a vs ∨ SqT K H a vs) ∧ vs.length = n := by
  cases v with
  | p v =>
    cases v with
    | lst xs => cases e; obtain ⟨a, vs, e1, h1, h2⟩ := r; exact ⟨a, vs, e1, .inl (.inl (.inl (hS.fz _ _ h1))), h2.length⟩
    | scr xs => cases e; obtain ⟨a, vs, e1, h1, h2⟩ := r; exact ⟨a, vs, e1, .inl (hS.fz.seq h1), h2.length⟩
    | tup xs => cases e; obtain ⟨a, vs, e1, h1, h2⟩ := r; exact ⟨a, vs, e1, .inr (SqT.up hS.fz (.inl (.inl h1))), h2.length⟩
    | _ => cases e
  | ob i =>
    obtain ⟨a, ea, e1⟩ := r
    unfold lenOf at e
    cases q : S[i]? with
    | none => simp [q] at e
    | some so =>
      cases so with
      | ins c fs => simp [q] at e
      | tup _ => simp [q] at e
      | dic _ _ => simp [q] at e
      | lst ys =>
        simp only [q, Option.some.injEq] at e
        obtain ⟨vs, h1, h2⟩ := hS.at_ i _ a q ea
        exact ⟨a, vs, e1, .inl (.inl (.inl h1)), by rw [h2.length]; exact e⟩
def mLen : MB := mB1 fun v S => (lenOf S v).map fun n => .p (.int n)
theorem b_len : BiM X T (.builtin "len") mLen := biM_1 call_len_seq fun g v S x H w Q e r s p => by
  cases q : lenOf S v with
  | none => rw [q] at e; cases e
  | some n =>
    rw [q] at e; cases e
    obtain ⟨a, vs, rfl, h1, h2⟩ := s.seq_len q r
    exact ⟨a, vs, rfl, h1, by rw [h2]; exact p.val rfl s⟩
def mLenS : MB := mB1 fun v _ => match v with
  | .p (.str z) => if z.length ≤ LIM then some (.p (.int z.length)) else none
  | _ => none
theorem b_lenS : BiM X T (.builtin "len") mLenS := biM_1 call_len_str fun g v S x H w Q e r s p => by
  cases v with
  | ob i => cases e
  | p v =>
    cases v with
    | str z =>
      by_cases hl : z.length ≤ LIM
      · simp only [if_pos hl] at e; cases e; cases r
        exact ⟨z, rfl, lim_line hl, p.val rfl s⟩
      · simp only [if_neg hl] at e; cases e
    | _ => cases e
def MB.or (m m' : MB) : MB := fun vs S => (m vs S).orElse fun _ => m' vs S
theorem BiM.or {f : Value} {m m' : MB} (h : BiM X T f m) (h' : BiM X T f m') : BiM X T f (m.or m') := by
  intro pins s σ H xs us Q I r ⟨g, vs, S, rv, rs, p⟩
  unfold MB.or at p
  cases e : m vs S with
  | some w => rw [e] at p; exact h pins s σ H xs us Q I r ⟨g, vs, S, rv, rs, by rw [e]; exact p⟩
  | none => rw [e] at p; exact h' pins s σ H xs us Q I r ⟨g, vs, S, rv, rs, p⟩
/-- all ints, all truths -/
def allI : List PV → Option (List Int)
  | [] => some []
  | .int i :: r => (allI r).map (i :: ·)
  | _ :: _ => none
def allB : List PV → Option (List Bool)
  | [] => some []
  | .bl i :: r => (allB r).map (i :: ·)
  | _ :: _ => none
theorem RpL.ints {K F} : ∀ {xs : List PV} {ns : List Int} {vs : List V}, allI xs = some ns → RpL K T F xs vs → vs = ns.map V.int
  | [], _, _, e, r => by cases e; cases r; rfl
  | x :: xs, ns, vs, e, ⟨v, r, e1, h1, h2⟩ => by
    cases x with
    | int i =>
      unfold allI at e
      cases q : allI xs with
      | none => rw [q] at e; cases e
      | some ms => rw [q] at e; cases e; cases h1; subst e1; rw [RpL.ints q h2]; rfl
    | _ => cases e
theorem RpL.bls {K F} : ∀ {xs : List PV} {ns : List Bool} {vs : List V}, allB xs = some ns → RpL K T F xs vs → vs = ns.map V.bl
  | [], _, _, e, r => by cases e; cases r; rfl
  | x :: xs, ns, vs, e, ⟨v, r, e1, h1, h2⟩ => by
    cases x with
    | bl i =>
      unfold allB at e
      cases q : allB xs with
      | none => rw [q] at e; cases e
      | some ms => rw [q] at e; cases e; cases h1; subst e1; rw [RpL.bls q h2]; rfl
    | _ => cases e
@[simp] theorem allI_map : ∀ ns : List Int, allI (ns.map .int) = some ns
  | [] => rfl
  | n :: ns => by simp [allI, allI_map ns]
@[simp] theorem allB_map : ∀ ns : List Bool, allB (ns.map .bl) = some ns
  | [] => rfl
  | n :: ns => by simp [allB, allB_map ns]
def intsOf (S : Sto) (v : VV) : Option (List Int) := (asList S v).bind allI
theorem Rs.ints {K g S H} (hS : Rs K T g S H) {v : VV} {x : V} {ns : List Int} (e : intsOf S v = some ns) (r : Rv K T g v x) : ∃ a, x = .ref a ∧ SqL K H a (ns.map V.int) := by
  unfold intsOf at e
  cases q : asList S v with
  | none => rw [q] at e; cases e
  | some xs =>
    rw [q] at e
    obtain ⟨a, vs, e1, h1, h2⟩ := hS.lst q r
    have := h2.ints e
    subst this
    exact ⟨a, e1, .inl (.inl h1)⟩
theorem sum_tup_raw {prog : Program} {w : World} {A : Around} {EE : Value → Shared → Prop} {s : Shared} {l : Addr} {its : List Value} {ns : List Int} {Q : Value → Shared → Prop} (hh : A.handled = none) (hl : s.heap.IsTuple l its.toArray) (hi : IntsAre its ns)
    (h : ∀ h' tk t', (∀ b o, s.heap.get? b = some o → h'.get? b = some o) → Q (.int ns.sum t') { s with heap := h', toks := tk }) : wpAny (model prog w) A (call (.builtin "sum") [.ref l]) Q EE s := by
  obtain ⟨xs, e⟩ := hi.allInts.items
  have hn : numsOf (intItems xs).toList = ns := by rw [← e]; exact hi.numsOf
  rw [nums_intItems] at hn
  rw [e] at hl
  have hlt : l < s.heap.objs.size := by obtain ⟨_, e, _⟩ := hl; exact Heap.lt_size e
  refine call_sum_walkG (wpAny_pyIter_tuple hl ?_)
  refine ⟨_, [_, l], [_], _, _, _, numAt xs, rfl, Walks.tuple (A := A.in1) hh _ l (Nat.ne_of_lt hlt) (intItems xs), ⟨⟨_, Heap.get?_push_size _ rfl, rfl, rfl⟩, hl.push _⟩, fun c hc => ?_, (fun _ _ => intItems_at), fun h' tk t' hk => ?_⟩
  · show c < (s.heap.push _).objs.size
    rw [Heap.size_push]
    rcases List.mem_cons.mp hc with rfl | hc
    · exact Nat.lt_succ_self _
    · rcases List.mem_cons.mp hc with rfl | hc
      · exact Nat.lt_succ_of_lt hlt
      · cases hc
  · have hold : ∀ c o, s.heap.get? c = some o → h'.get? c = some o := fun c o e => by
      refine hk c o (fun hm => ?_) (Heap.get?_push_of_some _ e)
      rcases List.mem_cons.mp hm with e1 | hm
      · have := Heap.lt_size e; rw [e1] at this; exact Nat.lt_irrefl _ this
      · cases hm
    have := h h' tk t' hold
    have e2 : (intItems xs).size = xs.size := by simp [intItems]
    rw [e2, preSum_eq, List.take_of_length_le (by simp), hn]; exact this
theorem cr_sumT (hc : X.calm = true) : CallR X (.builtin "sum") (fun vs H Q => ∃ (a : Addr) (ns : List Int), vs = [V.ref a] ∧ SqT X.K H a (ns.map V.int) ∧ Q (.int ns.sum) H) := by
  intro pins s σ H vs us Q I r h
  obtain ⟨a, ns, rfl, hs, q⟩ := h
  obtain ⟨its, rv, hl, _⟩ := I.tuple hs
  rw [Vals.ref1 r]
  exact sum_tup_raw (I.ok.hd hc) hl rv.ints fun h' tk t' hk => ⟨.int _, H, I.kept hk, ⟨_, rfl⟩, q⟩
def mSumL : MB := mB1 fun v S => (intsOf S v).map fun ns => .p (.int ns.sum)
def mSumT : MB := mB1 fun v S => match v with
  | .p (.tup xs) => (allI xs).map fun ns => .p (.int ns.sum)
  | _ => none
def mSum : MB := mSumL.or mSumT
theorem b_sumL (hc : X.calm = true) : BiM X T (.builtin "sum") mSumL := biM_1 (cr_sum hc) fun g v S x H w Q e r s p => by
  cases q : intsOf S v with
  | none => rw [q] at e; cases e
  | some ns =>
    rw [q] at e; cases e
    obtain ⟨a, rfl, h1⟩ := s.ints q r
    exact ⟨a, ns, rfl, h1, p.val rfl s⟩
theorem b_sumT (hc : X.calm = true) : BiM X T (.builtin "sum") mSumT := biM_1 (cr_sumT hc) fun g v S x H w Q e r s p => by
  cases v with
  | ob j => cases e
  | p v =>
    cases v with
    | tup xs =>
      cases q : allI xs with
      | none => simp only [q, Option.map_none] at e; cases e
      | some ns =>
        simp only [q, Option.map_some, Option.some.injEq] at e; subst e
        obtain ⟨a, vs, e1, h1, h2⟩ := r
        have := h2.ints q
        subst this
        exact ⟨a, ns, by rw [e1], SqT.up s.fz (.inl (.inl h1)), p.val rfl s⟩
    | _ => cases e
theorem b_sum (hc : X.calm = true) : BiM X T (.builtin "sum") mSum := (b_sumL hc).or (b_sumT hc)
def maxL : List Int → Int
  | [] => 0
  | [x] => x
  | x :: y :: r => max x (maxL (y :: r))
def minL : List Int → Int
  | [] => 0
  | [x] => x
  | x :: y :: r => min x (minL (y :: r))
theorem maxL_ge : ∀ {ns : List Int} {y : Int}, y ∈ ns → y ≤ maxL ns
  | [x], y, h => by have : y = x := by simpa using h
                    subst this; exact Int.le_refl _
  | x :: z :: r, y, h => by
    show y ≤ max x (maxL (z :: r))
    rcases List.mem_cons.mp h with e | e
    · subst e; exact Int.le_max_left _ _
    · exact Int.le_trans (maxL_ge e) (Int.le_max_right _ _)
theorem maxL_mem : ∀ {ns : List Int}, ns ≠ [] → maxL ns ∈ ns
  | [x], _ => by simp [maxL]
  | x :: z :: r, _ => by
    show max x (maxL (z :: r)) ∈ x :: z :: r
    have ih := maxL_mem (ns := z :: r) (by simp)
    by_cases h : x ≤ maxL (z :: r)
    · rw [Int.max_eq_right h]; exact List.mem_cons_of_mem _ ih
    · rw [Int.max_eq_left (by omega)]; exact List.mem_cons_self
theorem minL_le : ∀ {ns : List Int} {y : Int}, y ∈ ns → minL ns ≤ y
  | [x], y, h => by have : y = x := by simpa using h
                    subst this; exact Int.le_refl _
  | x :: z :: r, y, h => by
    show min x (minL (z :: r)) ≤ y
    rcases List.mem_cons.mp h with e | e
    · subst e; exact Int.min_le_left _ _
    · exact Int.le_trans (Int.min_le_right _ _) (minL_le e)
theorem minL_mem : ∀ {ns : List Int}, ns ≠ [] → minL ns ∈ ns
  | [x], _ => by simp [minL]
  | x :: z :: r, _ => by
    show min x (minL (z :: r)) ∈ x :: z :: r
    have ih := minL_mem (ns := z :: r) (by simp)
    by_cases h : x ≤ minL (z :: r)
    · rw [Int.min_eq_left h]; exact List.mem_cons_self
    · rw [Int.min_eq_right (by omega)]; exact List.mem_cons_of_mem _ ih
def mMax1 : MB := mB1 fun v S => (intsOf S v).bind fun ns => if ns = [] then none else some (.p (.int (maxL ns)))
def mMin1 : MB := mB1 fun v S => (intsOf S v).bind fun ns => if ns = [] then none else some (.p (.int (minL ns)))
theorem b_max1 (hc : X.calm = true) : BiM X T (.builtin "max") mMax1 := biM_1 (cr_max hc) fun g v S x H w Q e r s p => by
  cases q : intsOf S v with
  | none => rw [q] at e; cases e
  | some ns =>
    rw [q] at e
    by_cases hn : ns = []
    · simp [hn] at e
    · simp only [Option.bind_some, if_neg hn] at e; cases e
      obtain ⟨a, rfl, h1⟩ := s.ints q r
      refine ⟨a, ns, rfl, h1, List.length_pos_iff.mpr hn, fun m hm hle => ?_⟩
      have : m = maxL ns := Int.le_antisymm (maxL_ge hm) (hle _ (maxL_mem hn))
      subst this; exact p.val rfl s
theorem b_min1 (hc : X.calm = true) : BiM X T (.builtin "min") mMin1 := biM_1 (cr_min hc) fun g v S x H w Q e r s p => by
  cases q : intsOf S v with
  | none => rw [q] at e; cases e
  | some ns =>
    rw [q] at e
    by_cases hn : ns = []
    · simp [hn] at e
    · simp only [Option.bind_some, if_neg hn] at e; cases e
      obtain ⟨a, rfl, h1⟩ := s.ints q r
      refine ⟨a, ns, rfl, h1, List.length_pos_iff.mpr hn, fun m hm hle => ?_⟩
      have : m = minL ns := Int.le_antisymm (hle _ (minL_mem hn)) (minL_le hm)
      subst this; exact p.val rfl s
def mB2 (f : VV → VV → Sto → Option VV) : MB := fun vs S => match vs with
  | [v, u] => f v u S
  | _ => none
theorem biM_2 {f : Value} {r : List V → Hp → VK → Prop} {k : VV → VV → Sto → Option VV} (ho : CallR X f r)
    (h : ∀ g v u S x y H w Q, k v u S = some w → Rv X.K T g v x → Rv X.K T g u y → Rs X.K T g S H → PostE X.K T E0 g (.ok w S) Q → r [x, y] H Q) : BiM X T f (mB2 k) := by
  intro pins s σ H xs us Q I r ⟨g, vs, S, rv, rs, p⟩
  unfold mB2 at p
  split at p
  · rename_i v u
    obtain ⟨x, y, rfl, r1, r2⟩ := rv.two
    cases e : k v u S with
    | none => rw [e] at p; exact p.elim
    | some w => rw [e] at p; exact ho pins s σ H _ us Q I r (h g v u S x y H w Q e r1 r2 rs p)
  · exact p.elim
def mII (f : Int → Int → PV) : MB := mB2 fun v u _ => match v, u with
  | .p (.int i), .p (.int j) => some (.p (f i j))
  | _, _ => none
def mMax2 : MB := mII fun i j => .int (if j > i then j else i)
def mMin2 : MB := mII fun i j => .int (if j < i then j else i)
theorem b_max2 (hc : X.calm = true) : BiM X T (.builtin "max") mMax2 := biM_2 (call_max2 hc) fun g v u S x y H w Q e r1 r2 s p => by
  split at e
  · cases e; cases r1; cases r2; exact ⟨_, _, rfl, p.val rfl s⟩
  · cases e
theorem b_min2 (hc : X.calm = true) : BiM X T (.builtin "min") mMin2 := biM_2 (call_min2 hc) fun g v u S x y H w Q e r1 r2 s p => by
  split at e
  · cases e; cases r1; cases r2; exact ⟨_, _, rfl, p.val rfl s⟩
  · cases e
def mAll : MB := mB1 fun v S => ((asList S v).bind allB).map fun bs => .p (.bl (bs.all id))
theorem b_all (hc : X.calm = true) : BiM X T (.builtin "all") mAll := biM_1 (cr_all hc) fun g v S x H w Q e r s p => by
  cases q : asList S v with
  | none => rw [q] at e; cases e
  | some xs =>
    rw [q] at e
    cases q2 : allB xs with
    | none => simp [q2] at e
    | some bs =>
      simp only [Option.bind_some, q2, Option.map_some, Option.some.injEq] at e
      subst e
      obtain ⟨a, vs, rfl, h1, h2⟩ := s.lst q r
      have := h2.bls q2
      subst this
      exact ⟨a, bs, rfl, .inl (.inl h1), p.val rfl s⟩
/-- tuple(list), tuple(tuple); list(..) -/
def mTup : MB := mB1 fun v S => match v with
  | .p (.tup xs) => some (.p (.tup xs))
  | v => (asList S v).map fun xs => .p (.tup xs)
theorem b_tup : BiM X T (.type "tuple") mTup := biM_1 call_tuple_of fun g v S x H w Q e r s p => by
  have fin : (asList S v).map (fun xs => VV.p (.tup xs)) = some w → ∃ (a : Addr) (ys : List V), [x] = [V.ref a] ∧ ((SqL X.K H a ys ∧ ∀ l, H l = none → Q (.ref l) (upd H l (.tup ys))) ∨ (SqT X.K H a ys ∧ Q (.ref a) H)) := fun e => by
    cases q : asList S v with
    | none => rw [q] at e; cases e
    | some xs =>
      rw [q] at e; cases e
      obtain ⟨a, vs, rfl, h1, h2⟩ := s.lst q r
      exact ⟨a, vs, rfl, .inl ⟨.inl (.inl h1), p.newT s h2⟩⟩
  cases v with
  | ob i => exact fin e
  | p v =>
    cases v with
    | tup xs =>
      cases e
      obtain ⟨a, vs, e1, h1, h2⟩ := id r
      subst e1
      exact ⟨a, vs, rfl, .inr ⟨SqT.up s.fz (.inl (.inl h1)), p.val r s⟩⟩
    | _ => exact fin e
def mLst : MB := mB1 fun v S => match v with
  | .p (.tup xs) => some (.p (.lst xs))
  | v => (asList S v).map fun xs => .p (.lst xs)
theorem b_lst : BiM X T (.type "list") mLst := biM_1 call_list_of fun g v S x H w Q e r s p => by
  have fin : (asList S v).map (fun xs => VV.p (.lst xs)) = some w → ∃ (a : Addr) (ys : List V), [x] = [V.ref a] ∧ (SqL X.K H a ys ∨ SqT X.K H a ys) ∧ ∀ l, H l = none → Q (.ref l) (upd H l (.lst ys)) := fun e => by
    cases q : asList S v with
    | none => rw [q] at e; cases e
    | some xs =>
      rw [q] at e; cases e
      obtain ⟨a, vs, rfl, h1, h2⟩ := s.lst q r
      exact ⟨a, vs, rfl, .inl (.inl (.inl h1)), p.newL s h2⟩
  cases v with
  | ob i => exact fin e
  | p v =>
    cases v with
    | tup xs =>
      cases e
      obtain ⟨a, vs, e1, h1, h2⟩ := id r
      subst e1
      exact ⟨a, vs, rfl, .inr (SqT.up s.fz (.inl (.inl h1))), p.newL s h2⟩
    | _ => exact fin e
def mInt : MB := mB1 fun v _ => match v with
  | .p (.int i) => some (.p (.int i))
  | .p (.bl k) => some (.p (.int (if k then 1 else 0)))
  | _ => none
theorem b_int : BiM X T (.type "int") mInt := biM_1 call_int1 fun g v S x H w Q e r s p => by
  cases v with
  | ob i => cases e
  | p v =>
    cases v with
    | int i => cases e; cases r; exact .inl ⟨i, rfl, p.val rfl s⟩
    | bl k => cases e; cases r; exact .inr ⟨k, rfl, p.val rfl s⟩
    | _ => cases e
end
end Dn

set_option maxRecDepth 100000
namespace Dn
open PySem PySem.Spec PyProof.Rows L2

section
variable {X : Cx} {T : Tab} {E : XK} {e a b c o tg iter tg1 iter1 elt value : Expr} {pos apos : Pos} {ma mb mc mo mi mv : DE} {ta tb : DB}
/-! ### subscripts -/
def IxM (X : Cx) (T : Tab) (m : M2) : Prop := IxR X (RrM X T m)
def seqAt (S : Sto) (v : VV) (i : Int) : Option VV := match v with
  | .p (.lst xs) => (atI xs i).map .p
  | .p (.scr xs) => (atI xs i).map .p
  | .p (.tup xs) => (atI xs i).map .p
  | .ob j => match S[j]? with
    | some (.lst xs) => atI xs i
    | _ => none
  | _ => none
def mIx : M2 := fun v u S => match u with
  | .p (.int i) => seqAt S v i
  | _ => none
theorem RpL.atI {K F} {xs : List PV} {vs : List V} {i : Int} {w : PV} (r : RpL K T F xs vs) (h : L2.atI xs i = some w) : ∃ x, L2.atI vs i = some x ∧ Rp K T F w x := by
  unfold L2.atI at h ⊢
  rw [r.length]
  cases q : ixN xs.length i with
  | none => rw [q] at h; cases h
  | some j => rw [q] at h; exact r.get h
theorem RvL.atI {K g} {xs : List VV} {vs : List V} {i : Int} {w : VV} (r : RvL K T g xs vs) (h : L2.atI xs i = some w) : ∃ x, L2.atI vs i = some x ∧ Rv K T g w x := by
  unfold L2.atI at h ⊢
  rw [r.length]
  cases q : ixN xs.length i with
  | none => rw [q] at h; cases h
  | some j => rw [q] at h; exact r.get h
theorem map_p {o : Option PV} {w : VV} (h : o.map VV.p = some w) : ∃ v, o = some v ∧ w = .p v := by
  cases o with
  | none => cases h
  | some v => cases h; exact ⟨v, rfl, rfl⟩
theorem x_seq : IxM X T mIx := by
  intro value slice pins s σ H x y v u Q I rx ry ⟨g, v1, u1, S, rv, ru, hS, p⟩ hs
  unfold mIx at p
  cases u1 with
  | ob j => exact p.elim
  | p u1 =>
    cases u1 with
    | int i =>
      cases ru
      cases e : seqAt S v1 i with
      | none => simp only [e] at p; exact p.elim
      | some w =>
        simp only [e] at p
        have fin : ∀ (a : Addr) (vs : List V) (z : V), x = .ref a → (SqL X.K H a vs ∨ SqT X.K H a vs) → L2.atI vs i = some z → Q z H → wpAny (model X.prog X.w) X.A (subscriptTail value slice v u) (EP X pins σ Q) X.xe s := fun a vs z e1 h1 h2 q => by
          rcases h1 with h1 | h1
          · exact ix_list value slice pins s σ H _ _ v u Q I rx ry ⟨a, vs, i, z, e1, rfl, h1, h2, q⟩ hs
          · exact ix_tup value slice pins s σ H _ _ v u Q I rx ry ⟨a, vs, i, z, e1, rfl, h1, h2, q⟩ hs
        cases v1 with
        | p v1 =>
          cases v1 with
          | lst xs =>
            obtain ⟨w', e', rfl⟩ := map_p e
            obtain ⟨a, vs, e1, h1, h2⟩ := rv
            obtain ⟨z, k1, k2⟩ := h2.atI e'
            exact fin a vs z e1 (.inl (.inl (.inl (hS.fz _ _ h1)))) k1 (p.val k2 hS)
          | scr xs =>
            obtain ⟨w', e', rfl⟩ := map_p e
            obtain ⟨a, vs, e1, h1, h2⟩ := rv
            obtain ⟨z, k1, k2⟩ := h2.atI e'
            exact fin a vs z e1 (.inl (hS.fz.seq h1)) k1 (p.val k2 hS)
          | tup xs =>
            obtain ⟨w', e', rfl⟩ := map_p e
            obtain ⟨a, vs, e1, h1, h2⟩ := rv
            obtain ⟨z, k1, k2⟩ := h2.atI e'
            exact fin a vs z e1 (.inr (SqT.up hS.fz (.inl (.inl h1)))) k1 (p.val k2 hS)
          | _ => cases e
        | ob j =>
          obtain ⟨a, ea, e1⟩ := rv
          unfold seqAt at e
          cases q : S[j]? with
          | none => simp [q] at e
          | some so =>
            cases so with
            | ins c fs => simp [q] at e
            | tup _ => simp [q] at e
            | dic _ _ => simp [q] at e
            | lst ys =>
              simp only [q] at e
              obtain ⟨vs, h1, h2⟩ := hS.at_ j _ a q ea
              obtain ⟨z, k1, k2⟩ := h2.atI e
              exact fin a vs z e1 (.inl (.inl (.inl h1))) k1 (p.val k2 hS)
    | _ => exact p.elim
theorem r_ix {m : M2} (hr : IxM X T m) (ha : PE X a (tD X.K T E ma)) (hb : PE X b (tD X.K T E mb)) (hs : PlainIx b := by exact fun _ _ => rfl) : PE X (.Subscript a b pos) (tD X.K T E (dOp m ma mb)) :=
  (pe_ix hr ha hb hs).imp fun σ H Q h => tOp_of (fun _ _ _ _ z => z) h

/-! ### slices -/
abbrev MS := VV → Option Int → Option Int → Sto → Option VV
def part : Option DE → En → Sto → (Option Int → Sto → RE) → RE
  | none, _, S, k => k none S
  | some m, env, S, k => (m env S).bind fun v S1 => match v with
    | .p (.int i) => k (some i) S1
    | _ => .no
def dSl (f : MS) (mo : DE) (lo hi : Option DE) : DE := fun env S => (mo env S).bind fun v S1 => part lo env S1 fun l S2 => part hi env S2 fun h S3 => RE.of S3 (f v l h S3)
def RrS (X : Cx) (T : Tab) (f : MS) : V → Option Int → Option Int → Hp → VK → Prop := fun x lo hi H Q => ∃ g v S, Rv X.K T g v x ∧ Rs X.K T g S H ∧ PostE X.K T E0 g (RE.of S (f v lo hi S)) Q
def SlM (X : Cx) (T : Tab) (f : MS) : Prop := SlR X (RrS X T f)
/-- a part's reading -/
def tP (K : PySem.W.Frag) (T : Tab) (E : XK) (m : Option DE) : TO := fun σ H Q => ∃ g env S k Q', Re K T g env σ ∧ Rs K T g S H ∧ PostE K T E g (part m env S k) Q' ∧
  ∀ g1 i S1 H1, g.le g1 → Rs K T g1 S1 H1 → PostE K T E g1 (k i S1) Q' → Q i H1
theorem p_none : PO X none (tP X.K T E none) := ⟨fun pins s σ H Q I ⟨g, env, S, k, Q', hE, hS, p, q⟩ => po_none.run pins s σ H Q I (q g none S H (G.le.refl g) hS p)⟩
theorem p_some (h : PE X e (tD X.K T E ma)) : PO X (some e) (tP X.K T E (some ma)) := ⟨fun pins s σ H Q I ⟨g, env, S, k, Q', hE, hS, p, q⟩ => by
  refine (po_some h).run pins s σ H Q I ⟨g, env, S, hE, hS, ?_⟩
  have p1 := PostE.bind p
  revert p1
  cases ma env S with
  | no => exact fun p => p
  | exc c fs S1 => exact fun p => p
  | ok v S1 =>
    intro p1 g1 x H1 l1 r1 s1
    obtain ⟨g2, v2, S2, l2, rv, rs, q2⟩ := p1 g1 x H1 l1 r1 s1
    cases v2 with
    | ob i => exact q2.elim
    | p v2 =>
      cases v2 with
      | int i => cases rv; exact ⟨i, rfl, q g2 (some i) S2 H1 l2 rs q2⟩
      | _ => exact q2.elim⟩
theorem r_slice {f : MS} {lo hi : Option Expr} {ml mh : Option DE} {p2 : Pos} (hr : SlM X T f) (he : PE X e (tD X.K T E ma)) (hl : PO X lo (tP X.K T E ml)) (hu : PO X hi (tP X.K T E mh)) : PE X (.Subscript e (.Slice lo hi none p2) pos) (tD X.K T E (dSl f ma ml mh)) :=
  (pe_slice hr he hl hu).imp fun σ H Q ⟨g, env, S, hE, hS, h⟩ => by
    refine ⟨g, env, S, hE, hS, ?_⟩
    have p := PostE.bind h
    revert p
    cases ma env S with
    | no => exact fun p => p
    | exc c fs S1 => exact fun p => p
    | ok v S1 =>
      intro p g1 x H1 l1 r1 s1
      obtain ⟨g2, v2, S2, l2, rv, rs, q⟩ := p g1 x H1 l1 r1 s1
      have hE2 := hE.mono X.K T l2.s
      refine ⟨g2, env, S2, _, Q, hE2, rs, q, fun g3 i S3 H3 l3 s3 q3 => ?_⟩
      refine ⟨g3, env, S3, _, Q, hE2.mono X.K T l3.s, s3, q3, fun g4 j S4 H4 l4 s4 q4 => ?_⟩
      exact ⟨g4, v2, S4, rv.mono X.K T (l3.trans l4).s, s4, q4.w0⟩
def cutP {α : Type} (xs : List α) (lo hi : Option Int) : List α := (xs.drop (HT.sIx xs.length 0 lo)).take (HT.sIx xs.length xs.length hi - HT.sIx xs.length 0 lo)
theorem cut_whole {α : Type} {xs : List α} {lo hi : Option Int} (h : HT.sIx xs.length 0 lo = 0 ∧ HT.sIx xs.length xs.length hi = xs.length) : cutP xs lo hi = xs := by
  unfold cutP; rw [h.1, h.2]; simp
theorem RpL.cut {K F} {xs : List PV} {vs : List V} (r : RpL K T F xs vs) (lo hi : Option Int) : RpL K T F (cutP xs lo hi) (cutV vs lo hi) := by
  unfold cutP cutV
  rw [r.length]
  exact (r.drop _).take _
def mSlT : MS := fun v lo hi _ => match v with
  | .p (.tup xs) => some (.p (.tup (cutP xs lo hi)))
  | _ => none
theorem z_tup : SlM X T mSlT := by
  intro pins s σ H x v vl vu lo hi sl Q I rx hs pl pu ⟨g, w, S, rv, hS, p⟩
  unfold mSlT at p
  cases w with
  | ob j => exact p.elim
  | p w =>
    cases w with
    | tup xs =>
      obtain ⟨a, vs, e1, h1, h2⟩ := id rv
      refine sl_tupA pins s σ H x v vl vu lo hi sl Q I rx hs pl pu ⟨a, vs, e1, SqT.up hS.fz (.inl (.inl h1)), fun hw => ?_, fun _ => PostE.newT p hS (h2.cut lo hi)⟩
      rw [h2.length] at hw
      have p' : PostE X.K T E0 g (.ok (.p (.tup (cutP xs lo hi))) S) Q := p
      rw [cut_whole hw] at p'
      rw [← e1]
      exact p'.val rv hS
    | _ => exact p.elim
def mSlL : MS := fun v lo hi S => match v with
  | .p (.scr xs) => some (.p (.lst (cutP xs lo hi)))
  | v => (asList S v).map fun xs => .p (.lst (cutP xs lo hi))
theorem z_lst : SlM X T mSlL := by
  intro pins s σ H x v vl vu lo hi sl Q I rx hs pl pu ⟨g, w, S, rv, hS, p⟩
  have fin : PostE X.K T E0 g (RE.of S ((asList S w).map fun xs => .p (.lst (cutP xs lo hi)))) Q → ∃ T id, typeLookup (.type T) "__getitem__" = pure (some (.builtin id)) ∧ s.TypeIs v T ∧ wpAny (model X.prog X.w) X.A (getItem v (.ref sl)) (EP X pins σ Q) X.xe s := fun p => by
    cases e : asList S w with
    | none => rw [e] at p; exact p.elim
    | some xs =>
      rw [e] at p
      obtain ⟨a, vs, e1, h1, h2⟩ := hS.lst e rv
      exact sl_list pins s σ H x v vl vu lo hi sl Q I rx hs pl pu ⟨a, vs, e1, .inl (.inl h1), PostE.newL p hS (h2.cut lo hi)⟩
  cases w with
  | ob j => exact fin p
  | p w =>
    cases w with
    | scr xs =>
      obtain ⟨a, vs, e1, h1, h2⟩ := id rv
      exact sl_list pins s σ H x v vl vu lo hi sl Q I rx hs pl pu ⟨a, vs, e1, hS.fz.seq h1, PostE.newL p hS (h2.cut lo hi)⟩
    | _ => exact fin p

/-! ### data compared -/
mutual
def toD : Nat → PV → Option PyData
  | _, .non => some .none
  | _, .bl b => some (.bool b)
  | _, .int i => some (.int i)
  | _, .str x => if PyData.strOk x then some (.str x) else none
  | n + 1, .tup xs => (toDL n xs).map .tuple
  | n + 1, .lst xs => (toDL n xs).map .list
  | _, _ => none
def toDL : Nat → List PV → Option (List PyData)
  | _, [] => some []
  | n, x :: xs => (toD n x).bind fun d => (toDL n xs).map (d :: ·)
end
mutual
theorem toD_dp {K F H} (h : Same F H) : ∀ (n : Nat) (v : PV) (x : V) (d : PyData), toD n v = some d → Rp K T F v x → Dp K H x d
  | _, .non, _, _, e, r => by cases r; simp only [toD, Option.some.injEq] at e; subst e; exact .non
  | _, .bl b, _, _, e, r => by cases r; simp only [toD, Option.some.injEq] at e; subst e; exact .bl b
  | _, .int b, _, _, e, r => by cases r; simp only [toD, Option.some.injEq] at e; subst e; exact .int b
  | _, .str b, _, _, e, r => by
    cases r
    simp only [toD] at e
    split at e
    · cases e; exact .str b
    · cases e
  | n + 1, .tup xs, _, _, e, ⟨a, vs, e1, h1, h2⟩ => by
    subst e1
    simp only [toD] at e
    cases q : toDL n xs with
    | none => rw [q] at e; cases e
    | some ds => rw [q] at e; cases e; exact .tup (SqT.up h (.inl (.inl h1))) (toDL_dp h n xs vs ds q h2)
  | n + 1, .lst xs, _, _, e, ⟨a, vs, e1, h1, h2⟩ => by
    subst e1
    simp only [toD] at e
    cases q : toDL n xs with
    | none => rw [q] at e; cases e
    | some ds => rw [q] at e; cases e; exact .lst (.inl (.inl (h _ _ h1))) (toDL_dp h n xs vs ds q h2)
  | 0, .tup xs, _, _, e, _ => by simp [toD] at e
  | 0, .lst xs, _, _, e, _ => by simp [toD] at e
  | n, .scr _, _, _, e, _ => by cases n <;> simp [toD] at e
  | n, .ins _ _, _, _, e, _ => by cases n <;> simp [toD] at e
  | n, .cls _, _, _, e, _ => by cases n <;> simp [toD] at e
  | n, .ty _, _, _, e, _ => by cases n <;> simp [toD] at e
theorem toDL_dp {K F H} (h : Same F H) : ∀ (n : Nat) (xs : List PV) (vs : List V) (ds : List PyData), toDL n xs = some ds → RpL K T F xs vs → DpAll K H vs ds
  | _, [], _, _, e, r => by cases r; simp only [toDL, Option.some.injEq] at e; subst e; exact .nil
  | n, x :: xs, _, _, e, ⟨v, r, e1, h1, h2⟩ => by
    subst e1
    simp only [toDL] at e
    cases q : toD n x with
    | none => rw [q] at e; cases e
    | some d =>
      rw [q] at e
      simp only [Option.bind_some] at e
      cases q2 : toDL n xs with
      | none => rw [q2] at e; cases e
      | some es => rw [q2] at e; cases e; exact .cons (toD_dp h n x v d q h1) (toDL_dp h n xs r es q2 h2)
end
mutual
theorem toD_sh : ∀ (n : Nat) (v : PV) (d : PyData), toD n v = some d → d.canLay0 = true ∧ d.depth ≤ n
  | _, .non, _, e => by simp only [toD, Option.some.injEq] at e; subst e; exact ⟨rfl, Nat.zero_le _⟩
  | _, .bl b, _, e => by simp only [toD, Option.some.injEq] at e; subst e; exact ⟨rfl, Nat.zero_le _⟩
  | _, .int b, _, e => by simp only [toD, Option.some.injEq] at e; subst e; exact ⟨rfl, Nat.zero_le _⟩
  | _, .str b, _, e => by
    simp only [toD] at e
    split at e
    · rename_i hs; cases e; exact ⟨by simpa [PyData.canLay0] using hs, Nat.zero_le _⟩
    · cases e
  | n + 1, .tup xs, _, e => by
    simp only [toD] at e
    cases q : toDL n xs with
    | none => rw [q] at e; cases e
    | some ds =>
      rw [q] at e; cases e
      obtain ⟨h1, h2⟩ := toDL_sh n xs ds q
      exact ⟨by simpa [PyData.canLay0] using h1, by simpa [PyData.depth] using h2⟩
  | n + 1, .lst xs, _, e => by
    simp only [toD] at e
    cases q : toDL n xs with
    | none => rw [q] at e; cases e
    | some ds =>
      rw [q] at e; cases e
      obtain ⟨h1, h2⟩ := toDL_sh n xs ds q
      exact ⟨by simpa [PyData.canLay0] using h1, by simpa [PyData.depth] using h2⟩
  | 0, .tup xs, _, e => by simp [toD] at e
  | 0, .lst xs, _, e => by simp [toD] at e
  | n, .scr _, _, e => by cases n <;> simp [toD] at e
  | n, .ins _ _, _, e => by cases n <;> simp [toD] at e
  | n, .cls _, _, e => by cases n <;> simp [toD] at e
  | n, .ty _, _, e => by cases n <;> simp [toD] at e
theorem toDL_sh : ∀ (n : Nat) (xs : List PV) (ds : List PyData), toDL n xs = some ds → PyData.canLayAll0 ds = true ∧ PyData.depthAll ds ≤ n
  | _, [], _, e => by simp only [toDL, Option.some.injEq] at e; subst e; exact ⟨rfl, Nat.zero_le _⟩
  | n, x :: xs, _, e => by
    simp only [toDL] at e
    cases q : toD n x with
    | none => rw [q] at e; cases e
    | some d =>
      rw [q] at e
      simp only [Option.bind_some] at e
      cases q2 : toDL n xs with
      | none => rw [q2] at e; cases e
      | some es =>
        rw [q2] at e; cases e
        obtain ⟨a1, a2⟩ := toD_sh n x d q
        obtain ⟨b1, b2⟩ := toDL_sh n xs es q2
        exact ⟨by simp [PyData.canLayAll0, a1, b1], by simp only [PyData.depthAll]; exact Nat.max_le.mpr ⟨a2, b2⟩⟩
end
theorem toD_shaped {v : PV} {d : PyData} (h : toD 60 v = some d) : SeqAt.shaped d = true := by
  obtain ⟨h1, h2⟩ := toD_sh 60 v d h
  unfold SeqAt.shaped
  rw [h1, decide_eq_true (by omega)]; rfl
/-- the data that a value is -/
def dataOf (S : Sto) : VV → Option PyData
  | .p v => toD 60 v
  | .ob i => (asList S (.ob i)).bind fun xs => toD 60 (.lst xs)
theorem Rs.data {K g S H} (hS : Rs K T g S H) {v : VV} {x : V} {d : PyData} (e : dataOf S v = some d) (r : Rv K T g v x) : Dp K H x d ∧ SeqAt.shaped d = true := by
  cases v with
  | p v => exact ⟨toD_dp hS.fz 60 v x d e r, toD_shaped e⟩
  | ob i =>
    have e : (asList S (.ob i)).bind (fun xs => toD 60 (.lst xs)) = some d := e
    cases q : asList S (.ob i) with
    | none => rw [q] at e; cases e
    | some xs =>
      rw [q] at e
      simp only [Option.bind_some] at e
      refine ⟨?_, toD_shaped e⟩
      obtain ⟨a, vs, e1, h1, h2⟩ := hS.lst q r
      subst e1
      simp only [toD] at e
      cases q2 : toDL 59 xs with
      | none => rw [q2] at e; cases e
      | some ds => rw [q2] at e; cases e; exact .lst (.inl (.inl h1)) (toDL_dp hS.fz 59 xs vs ds q2 h2)
def mEq : M2 := fun v u S => (dataOf S v).bind fun d => (dataOf S u).map fun e => .p (.bl (PyData.eqv d e))
def mNe : M2 := fun v u S => (dataOf S v).bind fun d => (dataOf S u).map fun e => .p (.bl (!PyData.eqv d e))
theorem o_eq (hu : X.A.units + 128 < cLine) : OpM X T (compareOp .Eq) mEq := by
  intro pins s σ H x y v u Q I rx ry ⟨g, a, b, S, ra, rb, hS, hp⟩
  unfold mEq at hp
  cases e1 : dataOf S a with
  | none => simp only [e1] at hp; exact hp.elim
  | some d =>
    cases e2 : dataOf S b with
    | none => simp only [e1, e2] at hp; exact hp.elim
    | some d2 =>
      simp only [e1, e2] at hp
      obtain ⟨h1, s1⟩ := hS.data e1 ra
      obtain ⟨h2, s2⟩ := hS.data e2 rb
      exact op_eqD (by omega) pins s σ H x y v u Q I rx ry ⟨d, d2, h1, h2, s1, s2, PostE.val (v := .p (.bl _)) hp rfl hS⟩
theorem o_ne (hu : X.A.units + 128 < cLine) : OpM X T (compareOp .NotEq) mNe := by
  intro pins s σ H x y v u Q I rx ry ⟨g, a, b, S, ra, rb, hS, hp⟩
  unfold mNe at hp
  cases e1 : dataOf S a with
  | none => simp only [e1] at hp; exact hp.elim
  | some d =>
    cases e2 : dataOf S b with
    | none => simp only [e1, e2] at hp; exact hp.elim
    | some d2 =>
      simp only [e1, e2] at hp
      obtain ⟨h1, s1⟩ := hS.data e1 ra
      obtain ⟨h2, s2⟩ := hS.data e2 rb
      exact op_neD (by omega) pins s σ H x y v u Q I rx ry ⟨d, d2, h1, h2, s1, s2, PostE.val (v := .p (.bl _)) hp rfl hS⟩
/-- is None -/
def isNon : VV → Bool
  | .p .non => true
  | _ => false
def mIs : M2 := fun v u _ => match u with
  | .p .non => some (.p (.bl (isNon v)))
  | _ => none
def mIsNot : M2 := fun v u _ => match u with
  | .p .non => some (.p (.bl (!isNon v)))
  | _ => none
theorem isNon_iff {K g} {v : VV} {x : V} (r : Rv K T g v x) : decide (x = .non) = isNon v := by
  cases v with
  | ob i => obtain ⟨a, _, rfl⟩ := r; rfl
  | p v =>
    cases v with
    | non => cases r; rfl
    | tup xs => obtain ⟨a, vs, rfl, _⟩ := r; rfl
    | lst xs => obtain ⟨a, vs, rfl, _⟩ := r; rfl
    | scr xs => obtain ⟨a, vs, rfl, _⟩ := r; rfl
    | ins c fs => obtain ⟨a, dx, vs, rfl, _⟩ := r; rfl
    | exn => obtain ⟨a, _, rfl⟩ := r; rfl
    | dic t kvs => cases t <;> (obtain ⟨a, _, rfl, _⟩ := r; rfl)
    | _ => cases r; rfl
theorem o_is : OpM X T (compareOp .Is) mIs := by
  intro pins s σ H x y v u Q I rx ry ⟨g, a, b, S, ra, rb, hS, hp⟩
  unfold mIs at hp
  split at hp
  · cases rb
    exact op_isN pins s σ H x _ v u Q I rx ry ⟨rfl, by rw [isNon_iff ra]; exact hp.val rfl hS⟩
  · exact hp.elim
theorem o_isnot : OpM X T (compareOp .IsNot) mIsNot := by
  intro pins s σ H x y v u Q I rx ry ⟨g, a, b, S, ra, rb, hS, hp⟩
  unfold mIsNot at hp
  split at hp
  · cases rb
    exact op_notN pins s σ H x _ v u Q I rx ry ⟨rfl, by rw [isNon_iff ra]; exact hp.val rfl hS⟩
  · exact hp.elim

/-! ### stores to items and attributes -/
def dSetIx (mo mi mv : DE) : DS := fun env S => (mv env S).bindS fun w S1 => (mo env S1).bindS fun o S2 => (mi env S2).bindS fun i S3 => match o, i with
  | .ob j, .p (.int k) => match S3[j]? with
    | some (.lst xs) => match ixN xs.length k with
      | some n => .nx env (S3.set j (.lst (xs.set n w)))
      | none => .no
    | _ => .no
  | _, _ => .no
theorem RvL.set {K g} {w : VV} {y : V} (rw_ : Rv K T g w y) : ∀ {xs : List VV} {vs : List V} (n : Nat), RvL K T g xs vs → RvL K T g (xs.set n w) (vs.set n y)
  | [], _, n, r => by cases r; rfl
  | _ :: _, _, 0, ⟨v, r, e, h1, h2⟩ => by subst e; exact ⟨y, r, rfl, rw_, h2⟩
  | _ :: _, _, n + 1, ⟨v, r, e, h1, h2⟩ => by subst e; exact ⟨v, _, rfl, h1, RvL.set rw_ n h2⟩
theorem s_setIx (hv : PE X value (tD X.K T E mv)) (ho : PE X o (tD X.K T E mo)) (hi : PE X a (tD X.K T E mi)) {p2 : Pos}
    (ha : ∀ v, assign (.Subscript o a p2) X.env v = (do
      let ov ← holding [v] (eval o X.env)
      let iv ← holding [v, ov] (eval a X.env)
      standAt p2
      holding [v, ov, iv] (setItem ov iv v)
      release [v, ov, iv] []) := by intro _; rfl)
    (hs : swapsWithSole [.Subscript o a p2] value pos.line X.env = pure false := by rfl) (hw : swappedStores [.Subscript o a p2] value X.env = pure none := by rfl)
    (h1 : (assignEach [.Subscript o a p2] X.env).map (·.2) = [assign (.Subscript o a p2) X.env] := by rfl) : PS X (.Assign [.Subscript o a p2] value pos) (tS X.K T E (dSetIx mo mi mv)) :=
  (ps_asg hv (pg_sub ho hi set_list ha) hs hw h1).imp fun D σ H h => by
    refine tD_S (k := fun w S1 env => (mo env S1).bindS fun o S2 => (mi env S2).bindS fun i S3 => match o, i with
      | .ob j, .p (.int k) => match S3[j]? with
        | some (.lst xs) => match ixN xs.length k with
          | some n => .nx env (S3.set j (.lst (xs.set n w)))
          | none => .no
        | _ => .no
      | _, _ => .no) h fun g env w S x H hE rw_ rs p => ?_
    refine ⟨g, env, S, hE, rs, ?_⟩
    have p2 := PostE.bindS p
    revert p2
    cases mo env S with
    | no => exact fun p => p
    | exc c fs S1 => exact fun p => p
    | ok ov S1 =>
      intro p2 g1 y H1 l1 r1 s1
      obtain ⟨g2, ov2, S2, l2, ro, s2, q2⟩ := p2 g1 y H1 l1 r1 s1
      refine ⟨g2, env, S2, hE.mono X.K T l2.s, s2, ?_⟩
      have p3 := PostE.bindS q2
      revert p3
      cases mi env S2 with
      | no => exact fun p => p
      | exc c fs S3 => exact fun p => p
      | ok iv S3 =>
        intro p3 g3 z H3 l3 r3 s3
        obtain ⟨g4, iv4, S4, l4, ri, s4, q4⟩ := p3 g3 z H3 l3 r3 s3
        split at q4
        · rename_i j k
          obtain ⟨ad, ea, rfl⟩ := ro.mono X.K T l4.s
          cases ri
          cases e1 : S4[j]? with
          | none => simp only [e1] at q4; exact q4.elim
          | some so =>
            cases so with
            | ins c fs => simp only [e1] at q4; exact q4.elim
            | tup _ => simp only [e1] at q4; exact q4.elim
            | dic _ _ => simp only [e1] at q4; exact q4.elim
            | lst xs =>
              simp only [e1] at q4
              cases e2 : ixN xs.length k with
              | none => simp only [e2] at q4; exact q4.elim
              | some n =>
                simp only [e2] at q4
                obtain ⟨vs, k1, k2⟩ := s4.at_ j _ ad e1 ea
                have rw4 := (rw_.mono X.K T l2.s).mono X.K T l4.s
                refine ⟨ad, vs, k, n, rfl, rfl, k1, by rw [k2.length]; exact e2, ?_⟩
                exact q4 g4 σ _ (G.le.refl _) ((hE.mono X.K T l2.s).mono X.K T l4.s) (s4.write (so := .lst (xs.set n w)) ea ⟨_, upd_same, RvL.set rw4 n k2⟩)
        · exact q4.elim
def putA (f : String) (v : VV) : List (String × VV) → List (String × VV)
  | [] => [(f, v)]
  | (g, x) :: r => if g = f then (g, v) :: r else (g, x) :: putA f v r
theorem RvF.put {K g} {f : String} {w : VV} {y : V} (rw_ : Rv K T g w y) : ∀ {fs : List (String × VV)} {vs : List (Str × V)}, RvF K T g fs vs → RvF K T g (putA f w fs) (putF (Str.ofString f) y vs)
  | [], _, r => by cases r; exact ⟨y, [], rfl, rw_, rfl⟩
  | (n, u) :: fs, _, ⟨x, r, e, h1, h2⟩ => by
    subst e
    unfold putA putF
    by_cases hn : n = f
    · subst hn
      rw [if_pos rfl, if_pos rfl]
      exact ⟨y, r, rfl, rw_, h2⟩
    · rw [if_neg hn, if_neg (fun z => hn (ofString_inj z))]
      exact ⟨x, _, rfl, h1, RvF.put rw_ h2⟩
theorem RvF.length {K g} : ∀ {fs : List (String × VV)} {vs : List (Str × V)}, RvF K T g fs vs → vs.length = fs.length
  | [], _, r => by cases r; rfl
  | (_, _) :: _, _, ⟨_, _, e, _, h⟩ => by subst e; rw [List.length_cons, List.length_cons, RvF.length h]
def dSetA (c0 : Nat) (f : String) (mo mv : DE) : DS := fun env S => (mv env S).bindS fun w S1 => (mo env S1).bindS fun o S2 => match o with
  | .ob j => match S2[j]? with
    | some (.ins c fs) => if c = c0 ∧ fs.length < 1000 then .nx env (S2.set j (.ins c (putA f w fs))) else .no
    | _ => .no
  | _ => .no
theorem s_setA (c0 : Nat) {f : String} {p2 : Pos} (ho : PE X o (tD X.K T E mo)) (hv : PE X value (tD X.K T E mv)) (hc : Cls X.K (T.C c0)) (hn : NoAttr X.K (T.C c0) (Str.ofString f)) (hs : swapsWith value (some (.Attribute o (Str.ofString f) p2)) pos.line X.env = pure false := by rfl) :
    PS X (.Assign [.Attribute o (Str.ofString f) p2] value pos) (tS X.K T E (dSetA c0 f mo mv)) :=
  (ps_fld ho hv hs).imp fun D σ H h => by
    refine tD_S (k := fun w S1 env => (mo env S1).bindS fun o S2 => match o with
      | .ob j => match S2[j]? with
        | some (.ins c fs) => if c = c0 ∧ fs.length < 1000 then .nx env (S2.set j (.ins c (putA f w fs))) else .no
        | _ => .no
      | _ => .no) h fun g env w S x H hE rw_ rs p => ?_
    refine ⟨g, env, S, hE, rs, ?_⟩
    have p2 := PostE.bindS p
    revert p2
    cases mo env S with
    | no => exact fun p => p
    | exc c fs S1 => exact fun p => p
    | ok ov S1 =>
      intro p2 g1 y H1 l1 r1 s1
      obtain ⟨g2, ov2, S2, l2, ro, s2, q2⟩ := p2 g1 y H1 l1 r1 s1
      cases ov2 with
      | p v => exact q2.elim
      | ob j =>
        obtain ⟨ad, ea, e0⟩ := ro
        cases e1 : S2[j]? with
        | none => simp only [e1] at q2; exact q2.elim
        | some so =>
          cases so with
          | lst xs => simp only [e1] at q2; exact q2.elim
          | tup _ => simp only [e1] at q2; exact q2.elim
          | dic _ _ => simp only [e1] at q2; exact q2.elim
          | ins c fs =>
            simp only [e1] at q2
            by_cases hcc : c = c0 ∧ fs.length < 1000
            · rw [if_pos hcc] at q2
              obtain ⟨rfl, hl⟩ := hcc
              obtain ⟨dx, vs, k1, k2⟩ := s2.at_ j _ ad e1 ea
              refine ⟨ad, T.C c, dx, vs, e0, k1, hc, hn, by rw [k2.length]; exact hl, ?_⟩
              exact q2 g2 σ _ (G.le.refl _) (hE.mono X.K T l2.s) (s2.write (so := .ins c (putA f w fs)) ea ⟨dx, _, upd_same, RvF.put (rw_.mono X.K T l2.s) k2⟩)
            · rw [if_neg hcc] at q2; exact q2.elim

/-! ### raise of an own class without an __init__ of its own -/
def dRaise (c : Nat) : DS := fun _ S => .exc c [] S
theorem s_raise {cc : Nat} {x m : Str} {j : Nat} {p p2 p3 : Pos} {bm : List Value} {B nw ini : String} (hc : X.calm = true) (tk : Tks X E) (F : ExcBaseFacts B nw ini bm) (q : PySem.W.excIn X.K (T.C cc) bm nw = true) (gC : X.mg x = some (.ref (T.C cc))) (kC : PySem.W.keepIn X.K (.ref (T.C cc)) = true) (r : Raises X (.ref (T.C cc))) (hg : Gl X x)
    (hdb : (x == ("__debug__" : Str)) = false := by decide) : PS X (.Raise (some (.Call (.Name x p) [.Constant (.str m) j p2] [] pos)) none p3) (tS X.K T E (dRaise cc)) :=
  (ps_raise hc tk (pmk_own F q gC kC r hg hdb)).imp fun D σ H ⟨g, env, S, hE, hS, h⟩ => h g none H (G.le.refl g) (.inl ⟨rfl, rfl⟩) hS
end
end Dn

set_option maxRecDepth 100000
namespace Dn
open PySem PySem.Spec PyProof.Rows L2

/-! ### isinstance -/
inductive Tt where
  | ty (n : String) | cls (c : Nat)
  deriving DecidableEq
def Tt.v (T : Tab) : Tt → Value
  | .ty n => .type n
  | .cls c => .ref (T.C c)
structure TyIns (K : PySem.W.Frag) (C : Addr) : Prop where
  cl : Cls K C
  ha : PySem.W.findIn K (.ref C) "__class__" = some (some (.builtin "object.__class__"))
  hn : PySem.W.specialIn K (.builtin "object.__class__") "__get__" = some (some (.builtin "getset_descriptor.__get__"))
  htk : PySem.W.takesIn K (.builtin "object.__class__") = some true
  hm : PySem.W.mroIn K C (.type "object") = some true
structure IsiOk (K : PySem.W.Frag) (T : Tab) (isi : Tt → Tt → Option Bool) : Prop where
  kit : ∀ t u b, isi t u = some b → PySem.W.kitOne K (t.v T) (u.v T) = some b
  ins : ∀ c u b, isi (.cls c) u = some b → TyIns K (T.C c)
def tagOf (S : Sto) : VV → Option Tt
  | .p .non => some (.ty "NoneType")
  | .p (.bl _) => some (.ty "bool")
  | .p (.int _) => some (.ty "int")
  | .p (.str _) => some (.ty "str")
  | .p (.tup _) => some (.ty "tuple")
  | .p (.lst _) => some (.ty "list")
  | .p (.scr _) => some (.ty "list")
  | .p (.ins c _) => some (.cls c)
  | .p (.cls _) => none
  | .p (.ty _) => none
  | .p .exn => none
  | .p (.dic _ _) => some (.ty "dict")
  | .ob i => match S[i]? with
    | some (.lst _) => some (.ty "list")
    | some (.ins c _) => some (.cls c)
    | some (.tup _) => some (.ty "tuple")
    | some (.dic _ _) => some (.ty "dict")
    | none => none
def clsTag : VV → Option Tt
  | .p (.cls c) => some (.cls c)
  | .p (.ty n) => some (.ty n)
  | _ => none
section
variable {X : Cx} {T : Tab} {E : XK} {e a b c o tg iter tg1 iter1 elt value : Expr} {pos apos : Pos} {ma mb mc mo mi mv : DE} {ta tb : DB}
theorem tag_ty {K g S H} {isi} (hi : IsiOk K T isi) (hS : Rs K T g S H) {v : VV} {x : V} {t u : Tt} {b : Bool} (e : tagOf S v = some t) (hb : isi t u = some b) (r : Rv K T g v x) : TyX K H x (t.v T) := by
  have sqt : ∀ {a : Addr} {vs : List V}, SqT K H a vs → TyX K H (.ref a) (.type "tuple") := fun {a vs} h => by
    rcases h with (h | ⟨o, h⟩) | ⟨o, its, n, h, hc, _⟩
    · exact .base (.tup h)
    · exact .fTuple h
    · exact .kTuple h hc
  have sql : ∀ {a : Addr} {vs : List V}, SqL K H a vs → TyX K H (.ref a) (.type "list") := fun {a vs} h => by
    rcases h with (h | ⟨o, h⟩) | ⟨o, its, n, h, hc, _⟩
    · exact .base (.lst h)
    · exact .base (.frz h)
    · exact .kList h hc
  have insx : ∀ {a dx : Addr} {c : Nat} {vs}, H a = some (.ins (T.C c) dx vs) → isi (.cls c) u = some b → TyX K H (.ref a) (.ref (T.C c)) := fun {a dx c vs} h hb => by
    obtain ⟨h1, h2, h3, h4, h5⟩ := hi.ins c u b hb
    exact .base (.ins h h1 h2 h3 h4 h5)
  cases v with
  | p v =>
    cases v with
    | non => cases e; cases r; exact .base .non
    | bl k => cases e; cases r; exact .base (.bl _)
    | int k => cases e; cases r; exact .base (.int _)
    | str k => cases e; cases r; exact .base (.str _)
    | tup xs => cases e; obtain ⟨a, vs, rfl, h1, _⟩ := r; exact sqt (SqT.up hS.fz (.inl (.inl h1)))
    | lst xs => cases e; obtain ⟨a, vs, rfl, h1, _⟩ := r; exact .base (.lst (hS.fz _ _ h1))
    | scr xs => cases e; obtain ⟨a, vs, rfl, h1, _⟩ := r; exact sql (hS.fz.seq h1)
    | ins c fs => cases e; obtain ⟨a, dx, vs, rfl, h1, _⟩ := r; exact insx (hS.fz _ _ h1) hb
    | cls c => cases e
    | ty n => cases e
    | exn => cases e
    | dic t kvs => cases e; cases t <;> (obtain ⟨a, vs, rfl, h1, _⟩ := r; first | exact .base (.dK (hS.fz _ _ h1)) | exact .base (.dT (hS.fz _ _ h1)))
  | ob i =>
    obtain ⟨a, ea, rfl⟩ := r
    unfold tagOf at e
    cases q : S[i]? with
    | none => simp [q] at e
    | some so =>
      have h0 := hS.at_ i so a q ea
      cases so with
      | lst xs => simp only [q, Option.some.injEq] at e; subst e; obtain ⟨vs, h1, _⟩ := h0; exact .base (.lst h1)
      | ins c fs => simp only [q, Option.some.injEq] at e; subst e; obtain ⟨dx, vs, h1, _⟩ := h0; exact insx h1 hb
      | tup xs => simp only [q, Option.some.injEq] at e; subst e; obtain ⟨vs, h1, _⟩ := h0; exact .base (.tup h1)
      | dic t kvs => simp only [q, Option.some.injEq] at e; subst e; cases t <;> (obtain ⟨vs, h1, _⟩ := h0; first | exact .base (.dK h1) | exact .base (.dT h1))
def mIsi (isi : Tt → Tt → Option Bool) : MB := mB2 fun v u S => (tagOf S v).bind fun t => (clsTag u).bind fun c => (isi t c).map fun b => .p (.bl b)
theorem cls_v {K g} {u : VV} {y : V} {t : Tt} (e : clsTag u = some t) (r : Rv K T g u y) : ClsV y (t.v T) := by
  cases u with
  | ob i => cases e
  | p u =>
    cases u with
    | cls c => cases e; cases r; exact .own _
    | ty n => cases e; cases r; exact .ty _
    | _ => cases e
theorem b_isi {isi} (hi : IsiOk X.K T isi) : BiM X T (.builtin "isinstance") (mIsi isi) := biM_2 call_isi fun g v u S x y H w Q e r1 r2 s p => by
  cases q1 : tagOf S v with
  | none => simp [q1] at e
  | some t =>
    cases q2 : clsTag u with
    | none => simp [q1, q2] at e
    | some c =>
      cases q3 : isi t c with
      | none => simp [q1, q2, q3] at e
      | some b =>
        simp only [q1, q2, q3, Option.bind_some, Option.map_some, Option.some.injEq] at e
        subst e
        exact ⟨x, y, t.v T, c.v T, b, rfl, cls_v q2 r2, tag_ty hi s q1 q3 r1, hi.kit t c b q3, p.val rfl s⟩
theorem kitB_kit {K : PySem.W.Frag} {a b : String} {r : Bool} (h : kitB a b = some r) : PySem.W.kitOne K ((Tt.ty a).v T) ((Tt.ty b).v T) = some r := kit_ty h

/-! ### len of an own instance -/
def dLenO (c : Nat) (m : DF) (mo : DE) : DE := fun env S => (mo env S).bind fun o S1 => match insOf S1 o with
  | some (c', _) => if c' = c then match m [o] S1 with
    | .ok (.p (.int n)) S2 => if 0 ≤ n ∧ n.natAbs < 2 ^ 63 then .ok (.p (.int n)) S2 else .no
    | _ => .no
    else .no
  | none => .no
theorem r_lenO {c : Nat} {k : Nat} {f : Addr} {fd : FuncData} {ps : List Str} {m : DF} {p : Pos} (ho : PE X o (tD X.K T E mo)) (hs : PySem.W.findIn X.K (.ref (T.C c)) "__len__" = some (some (.ref f))) (hf : PySem.W.isFn X.K (.ref f) = true) (F : FnD X T k f fd ps m) (hr : Room (k + 1) X.A) (hb : Binds X.K fd ps []) (hps : ps.length = 1)
    (hg : Gl X "len") (hm : X.mg "len" = none) (h1 : starEach [o] X.env = (false, eval o X.env) :: starEach [] X.env := by rfl) : PE X (.Call (.Name "len" p) [o] [] pos) (tD X.K T E (dLenO c m mo)) := by
  have hc : CallR X (.builtin "len") (fun xs H Q => ∃ g v S fs, xs.length = 1 ∧ RvL X.K T g [v] xs ∧ Rs X.K T g S H ∧ insOf S v = some (c, fs) ∧ PostE X.K T E0 g (match m [v] S with
    | .ok (.p (.int n)) S2 => if 0 ≤ n ∧ n.natAbs < 2 ^ 63 then .ok (.p (.int n)) S2 else .no
    | _ => .no) Q) := by
    intro pins s σ H xs us Q I r ⟨g, v, S, fs, _, rv, rs, hi, p⟩
    obtain ⟨x, rfl, r1⟩ := rv.one
    obtain ⟨u, rfl, ru⟩ := vals1 r
    obtain ⟨a, dx, vs, rfl, ha, hfs⟩ := rs.ins hi r1
    cases ru
    obtain ⟨mA, O, _⟩ := ins_get I.hok ha
    obtain ⟨od, J, _⟩ := O.look
    obtain ⟨mm, Fr'⟩ := I.fr
    refine PySem.W.len_K Fr' I.mod.kin J hs hf ?_
    have hsp : spD X.K T ps.length m [.ref a] H (fun y H2 => ∃ n : Int, y = .int n ∧ (0 ≤ n ∧ n.natAbs < 2 ^ 63) ∧ Q (.int n) H2) E0 := by
      refine ⟨by rw [hps]; rfl, g, [v], S, rv, rs, ?_⟩
      revert p
      cases m [v] S with
      | no => exact fun p => p
      | exc c fs S1 => exact fun p => p.elim
      | ok w S1 =>
        cases w with
        | ob i => exact fun p => p.elim
        | p w =>
          cases w with
          | int n =>
            intro p g2 y H2 l2 r2 s2
            simp only at p
            by_cases hn : 0 ≤ n ∧ n.natAbs < 2 ^ 63
            · rw [if_pos hn] at p
              cases r2
              exact ⟨n, rfl, hn, p g2 _ H2 l2 rfl s2⟩
            · rw [if_neg hn] at p; exact p.elim
          | _ => exact fun p => p.elim
    have hl : ([Value.ref a] ++ []).length = ps.length := by rw [hps]; rfl
    refine wpAny_call (codeAny_mono (F.run X.A.in1 X.stack s H ⟨[.ref a], []⟩ ([Value.ref a] ++ []) [V.ref a] _ E0 hr.in1 I.env0.in1 (hb s [.ref a] I.kIn hl) (show Vals [V.ref a] [Value.ref a] from .cons (show RelV (V.ref a) (Value.ref a) from rfl) .nil) hsp) fun r s' hq => ?_)
    cases r with
    | error e =>
      obtain ⟨_, _, _, _, _, _, _, _, _, _, _, _, z⟩ := hq
      exact z.elim
    | ok fl =>
      cases fl with
      | ret u =>
        obtain ⟨y, H', I', ry, n, rfl, hn, q⟩ := I.after hq
        obtain ⟨tk, rfl⟩ := ry
        exact ⟨⟨hn.1, by omega⟩, ⟨.int n, H', I'.tok _, ⟨_, rfl⟩, q⟩⟩
      | next => exact False.elim hq
      | brk => exact False.elim hq
      | cont => exact False.elim hq
  refine (pe_callB hc hg hm (by decide +kernel) (pa_cons ho pa_nil h1) (he := h1)).imp fun σ H Q ⟨g, env, S, hE, hS, h⟩ => ?_
  refine ⟨g, env, S, hE, hS, ?_⟩
  have p := PostE.bind h
  revert p
  cases mo env S with
  | no => exact fun p => p
  | exc c fs S1 => exact fun p => p
  | ok v S1 =>
    intro p g1 x H1 l1 r1 s1
    obtain ⟨g2, v2, S2, l2, rv, rs, q⟩ := p g1 x H1 l1 r1 s1
    cases e1 : insOf S2 v2 with
    | none => simp only [e1] at q; exact q.elim
    | some cf =>
      obtain ⟨c', fs⟩ := cf
      simp only [e1] at q
      by_cases hcc : c' = c
      · rw [if_pos hcc] at q
        subst hcc
        refine ⟨g2, v2, S2, fs, rfl, ⟨x, [], rfl, rv, rfl⟩, rs, e1, ?_⟩
        revert q
        cases m [v2] S2 with
        | no => exact fun p => p
        | exc c fs S1 => exact fun p => p
        | ok w S1 =>
          cases w with
          | ob i => exact fun p => p
          | p w =>
            cases w with
            | int n =>
              intro q
              simp only at q ⊢
              by_cases hn : 0 ≤ n ∧ n.natAbs < 2 ^ 63
              · rw [if_pos hn] at q ⊢; exact q
              · rw [if_neg hn] at q; exact q.elim
            | _ => exact fun p => p
      · rw [if_neg hcc] at q; exact q.elim

/-! ### zip of two lists -/
def zipP : List PV → List PV → List VV
  | x :: xs, y :: ys => .p (.tup [x, y]) :: zipP xs ys
  | _, _ => []
theorem zipP_len : ∀ (xs ys : List PV), (zipP xs ys).length = min xs.length ys.length
  | [], ys => by simp [zipP]
  | x :: xs, [] => by simp [zipP]
  | x :: xs, y :: ys => by simp only [zipP, List.length_cons, zipP_len xs ys]; omega
theorem zipP_at : ∀ (xs ys : List PV) (i : Nat) (v : VV), (zipP xs ys)[i]? = some v → ∃ x y, xs[i]? = some x ∧ ys[i]? = some y ∧ v = .p (.tup [x, y])
  | [], ys, i, v, h => by simp [zipP] at h
  | x :: xs, [], i, v, h => by simp [zipP] at h
  | x :: xs, y :: ys, 0, v, h => by simp [zipP] at h; exact ⟨x, y, rfl, rfl, h.symm⟩
  | x :: xs, y :: ys, i + 1, v, h => by
    simp only [zipP, List.getElem?_cons_succ] at h
    obtain ⟨x', y', h1, h2, h3⟩ := zipP_at xs ys i v h
    exact ⟨x', y', by simpa using h1, by simpa using h2, h3⟩
def dZip (m m' : DE) : DI := fun env S => (m env S).bindI fun v S1 => (m' env S1).bindI fun u S2 => match v, u with
  | .p (.lst xs), .p (.lst ys) => .ok (zipP xs ys) (fun _ => true) S2
  | _, _ => .no
theorem i_zip {elts : List Expr} {kk : Nat} {tpos p : Pos} (hg : Gl X "zip") (hm : X.mg "zip" = none) (ha : PE X a (tD X.K T E ma)) (hb : PE X b (tD X.K T E mb))
    (hs : starEach [a, b] X.env = (false, eval a X.env) :: starEach [b] X.env := by rfl) (hs2 : starEach [b] X.env = (false, eval b X.env) :: starEach [] X.env := by rfl)
    (hs3 : (backTo pos (starEach [b] X.env)).any (·.1) = false := by rfl) :
    PI X (.Tuple elts kk tpos) (.Call (.Name "zip" p) [a, b] [] pos) (tI X.K T E (dZip ma mb)) :=
  PI.imp (pi_zip hg hm (pa_cons ha (pa_cons hb pa_nil hs2) hs) hs hs3) fun σ H R ⟨g, env, S, hE, hS, h⟩ => by
    refine ⟨g, env, S, hE, hS, ?_⟩
    have p := PostE.bindI h
    revert p
    cases ma env S with
    | no => exact fun p => p
    | exc c fs S1 => exact fun p => p
    | ok v S1 =>
      intro p g1 x H1 l1 r1 s1
      obtain ⟨g2, v2, S2, l2, rv, rs, q⟩ := p g1 x H1 l1 r1 s1
      refine ⟨g2, env, S2, hE.mono X.K T l2.s, rs, ?_⟩
      have p2 := PostE.bindI q
      revert p2
      cases mb env S2 with
      | no => exact fun p => p
      | exc c fs S3 => exact fun p => p
      | ok u S3 =>
        intro p2 g3 y H3 l3 r3 s3
        obtain ⟨g4, u2, S4, l4, ru, rs4, q4⟩ := p2 g3 y H3 l3 r3 s3
        have rv4 := rv.mono X.K T l4.s
        split at q4
        · rename_i xs ys
          obtain ⟨ad, vs, rfl, h1, h2⟩ := rv4
          obtain ⟨bd, ws, rfl, k1, k2⟩ := ru
          refine ⟨ad, bd, vs, ws, rfl, .inl (.inl (rs4.fz _ _ h1)), .inl (.inl (rs4.fz _ _ k1)), q4 g4 H3 _ (G.le.refl _) rs4 ⟨fun g' S' H' i w l s _ hi => ?_, fun g' S' H' i l s _ hi => ?_⟩⟩
          · obtain ⟨x', y', e1, e2, rfl⟩ := zipP_at _ _ _ _ hi
            obtain ⟨zx, z1, z2⟩ := h2.get e1
            obtain ⟨zy, z3, z4⟩ := k2.get e2
            have q1 : SqL X.K H' ad vs := .inl (.inl (s.fz _ _ (l.F _ _ h1)))
            have q2 : SqL X.K H' bd ws := .inl (.inl (s.fz _ _ (l.F _ _ k1)))
            refine ⟨⟨vs, ws, zx, zy, q1, q2, z1, z3⟩, fun z H2 hz => ?_⟩
            obtain ⟨Tt, x2, y2, rfl, hT, rfl, f1, f2⟩ := hz
            have e3 := f1 vs q1
            have e4 := f2 ws q2
            rw [z1] at e3; cases e3
            rw [z3] at e4; cases e4
            obtain ⟨l5, s5⟩ := s.new hT (.tup [zx, zy])
            exact ⟨_, l5, ⟨Tt, [zx, zy], rfl, (by show upd g'.F Tt _ Tt = _; exact upd_same), ⟨zx, _, rfl, Rp.mono X.K T (l.F.trans l5.F) _ _ z2, zy, _, rfl, Rp.mono X.K T (l.F.trans l5.F) _ _ z4, rfl⟩⟩, s5⟩
          · rw [zipP_len] at hi
            refine ⟨vs, ws, .inl (.inl (s.fz _ _ (l.F _ _ h1))), .inl (.inl (s.fz _ _ (l.F _ _ k1))), ?_⟩
            rw [h2.length, k2.length]
            omega
        · exact q4.elim
end

/-! ### a def by its body -/
def RS.out (r : RS) : RE := match r with
  | .nx _ S => .ok (.p .non) S
  | .rt v S => .ok v S
  | .exc c fs S => .exc c fs S
  | _ => .no
@[simp] theorem RS.out_nx (e) (S : Sto) : (RS.nx e S).out = .ok (.p .non) S := rfl
@[simp] theorem RS.out_rt (v) (S : Sto) : (RS.rt v S).out = .ok v S := rfl
@[simp] theorem RS.out_exc (c fs) (S : Sto) : (RS.exc c fs S).out = .exc c fs S := rfl
def envOf (nn : Nat) (as : List VV) : En := as.map some ++ List.replicate (nn - as.length) none
def dFn (np nn : Nat) (m : DS) : DF := fun as S => if as.length = np then (m (envOf nn as) S).out else .no
theorem RvL.at_ {K T g} : ∀ {xs : List VV} {vs : List V} {i : Nat} {v : VV}, RvL K T g xs vs → xs[i]? = some v → ∃ x, vs[i]? = some x ∧ Rv K T g v x := RvL.get
theorem fn_ok {P : Program} {w : World} {K : PySem.W.Frag} {mg : Str → Option Value} {base : Heap} {T : Tab} {x qual : Str} {st : Stmt} {f : Addr} {fd : FuncData} {N ps : List Str} {k : Nat} {m : DS} (F : Fun K x qual st f fd) (S : FnScope N ps (defScope st))
    (h : ∀ (cdv : Value) (A : Around) (outer : List Env) (s : Shared) (H : Hp) (E : XK), Room k (A.deeper (envOfC qual (defScope st) s.heap.objs.size f cdv)) →
      PSs (cxOf (L2.CX P w) P w K mg base N qual (defScope st) f cdv A outer s H E) (defBody st) (tS K T E m)) :
    FnOk P w K mg base (L2.CX P w) (k + 1) f fd ps (spD K T ps.length (dFn ps.length N.length m)) := by
  refine F.okX S (fun vs H Q E h => h.1) fun cdv A outer s H vs Q E hr hsp => ⟨_, h cdv A outer s H E hr, ?_⟩
  obtain ⟨hl, g, as, St, rv, rs, p⟩ := hsp
  have hla : as.length = ps.length := by rw [← rv.length]; exact hl
  have hpl : ps.length ≤ N.length := by have := congrArg List.length S.pre; rw [List.length_take] at this; omega
  have q : PostE K T E g (m (envOf N.length as) St).out Q := by
    have p' : PostE K T E g (if as.length = ps.length then (m (envOf N.length as) St).out else .no) Q := p
    rw [if_pos hla] at p'; exact p'
  refine ⟨g, envOf N.length as, St, ⟨?_, fun i v e => ?_⟩, rs, ?_⟩
  · unfold envOf L2.start
    rw [List.length_append, List.length_append, List.length_map, List.length_map, List.length_replicate, List.length_replicate, hla, hl]
  · unfold envOf at e
    have hi : i < as.length := by
      by_cases hi : i < as.length
      · exact hi
      · rw [List.getElem?_append_right (by rw [List.length_map]; omega), List.getElem?_replicate] at e
        split at e <;> cases e
    rw [List.getElem?_append_left (by rw [List.length_map]; exact hi), List.getElem?_map] at e
    cases e1 : as[i]? with
    | none => rw [e1] at e; cases e
    | some v' =>
      rw [e1] at e; cases e
      obtain ⟨y, e2, ry⟩ := rv.get e1
      refine ⟨y, ?_, ry⟩
      unfold L2.start
      have hv : i < vs.length := (List.getElem?_eq_some_iff.mp e2).1
      rw [List.getElem?_append_left (by rw [List.length_map]; exact hv), List.getElem?_map, e2]
      rfl
  · revert q
    cases m (envOf N.length as) St with
    | nx e S => exact fun q g' σ' H' l _ s => q g' .non H' l rfl s
    | rt v S => exact fun q => q
    | bk e S => exact fun q => q.elim
    | ct e S => exact fun q => q.elim
    | exc c fs S => exact fun q => q
    | no => exact fun q => q
end Dn

set_option maxRecDepth 100000
theorem L2.Room.units2 {k : Nat} {A : PySem.Around} (r : L2.Room k A) : A.units + 128 < PySem.cLine := by have := r.un; omega
namespace Dn
open PySem PySem.Spec PyProof.Rows L2

/-! ### operations joined -/
def mAdd : M2
  | .p (.int i), .p (.int j), _ => some (.p (.int (i + j)))
  | .p (.str x), .p (.str y), S => mAddS (.p (.str x)) (.p (.str y)) S
  | .p (.tup xs), .p (.tup ys), _ => if xs.length + ys.length ≤ LIM then some (.p (.tup (xs ++ ys))) else none
  | v, u, S => mCatL v u S
def mMulA : M2
  | .p (.int i), .p (.int j), S => mMul (.p (.int i)) (.p (.int j)) S
  | v, .p (.int k), S => match asList S v with
    | some xs => if 0 ≤ k ∧ k.natAbs ≤ 1000000 ∧ xs.length * k.toNat ≤ LIM then some (.p (.lst (List.replicate k.toNat xs).flatten)) else none
    | none => none
  | _, _, _ => none
section
variable {X : Cx} {T : Tab} {E : XK} {e a b c o tg iter tg1 iter1 elt value : Expr} {pos apos : Pos} {ma mb mc mo mi mv : DE} {ta tb : DB}
theorem o_catT : OpM X T (binaryOp .Add) mCatT := by
  intro pins s σ H x y v u Q I rx ry ⟨g, a, b, S, ra, rb, hS, hp⟩
  unfold mCatT at hp
  cases e1 : asTup a with
  | none => simp only [e1] at hp; exact hp.elim
  | some xs =>
    cases e2 : asTup b with
    | none => simp only [e1, e2] at hp; exact hp.elim
    | some ys =>
      simp only [e1, e2] at hp
      by_cases hl : xs.length + ys.length ≤ LIM
      · rw [if_pos hl] at hp
        obtain ⟨l, vs, ex, h1, r1⟩ := hS.tup e1 ra
        obtain ⟨l2, ws, ey, h2, r2⟩ := hS.tup e2 rb
        have av : a = .p (.tup xs) := by
          cases a with
          | ob i => cases e1
          | p a => cases a <;> first | (cases e1; rfl) | cases e1
        have bv : b = .p (.tup ys) := by
          cases b with
          | ob i => cases e2
          | p b => cases b <;> first | (cases e2; rfl) | cases e2
        subst av; subst bv
        refine op_catA pins s σ H x y v u Q I rx ry ⟨l, l2, vs, ws, ex, ey, h1, h2, by rw [r1.length, r2.length]; exact lim_line hl, fun z => ?_, fun z z2 => ?_, fun z z2 => PostE.newT hp hS (r1.append r2)⟩
        · have : xs = [] := by have := r1.length; rw [z] at this; exact List.length_eq_zero_iff.mp this.symm
          subst this
          rw [← ey]; exact PostE.val (v := .p (.tup ([] ++ ys))) hp rb hS
        · have : ys = [] := by have := r2.length; rw [z2] at this; exact List.length_eq_zero_iff.mp this.symm
          subst this
          rw [List.append_nil] at hp
          rw [← ex]; exact PostE.val (v := .p (.tup xs)) hp ra hS
      · rw [if_neg hl] at hp; exact hp.elim
theorem o_add : OpM X T (binaryOp .Add) mAdd := by
  intro pins s σ H x y v u Q I rx ry ⟨g, a, b, S, ra, rb, hS, hp⟩
  unfold mAdd at hp
  split at hp
  · exact o_addI pins s σ H x y v u Q I rx ry ⟨g, _, _, S, ra, rb, hS, hp⟩
  · exact o_addS pins s σ H x y v u Q I rx ry ⟨g, _, _, S, ra, rb, hS, hp⟩
  · exact o_catT pins s σ H x y v u Q I rx ry ⟨g, _, _, S, ra, rb, hS, hp⟩
  · exact o_catL pins s σ H x y v u Q I rx ry ⟨g, _, _, S, ra, rb, hS, hp⟩
theorem RpL.rep {K F} {xs : List PV} {vs : List V} (r : RpL K T F xs vs) : ∀ k : Nat, RpL K T F (List.replicate k xs).flatten (List.replicate k vs).flatten
  | 0 => rfl
  | k + 1 => by rw [List.replicate_succ, List.replicate_succ, List.flatten_cons, List.flatten_cons]; exact r.append (RpL.rep r k)
theorem o_mulA : OpM X T (binaryOp .Mult) mMulA := by
  intro pins s σ H x y v u Q I rx ry ⟨g, a, b, S, ra, rb, hS, hp⟩
  unfold mMulA at hp
  split at hp
  · exact o_mul pins s σ H x y v u Q I rx ry ⟨g, _, _, S, ra, rb, hS, hp⟩
  · rename_i k _
    cases rb
    cases e1 : asList S a with
    | none => simp only [e1] at hp; exact hp.elim
    | some xs =>
      simp only [e1] at hp
      by_cases hl : 0 ≤ k ∧ k.natAbs ≤ 1000000 ∧ xs.length * k.toNat ≤ LIM
      · rw [if_pos hl] at hp
        obtain ⟨l, vs, rfl, h1, r1⟩ := hS.lst e1 ra
        exact op_rep pins s σ H _ _ v u Q I rx ry ⟨l, k, vs, rfl, rfl, h1, by omega, by omega, by rw [r1.length]; exact lim_line hl.2.2, PostE.newL hp hS (RpL.rep r1 _)⟩
      · rw [if_neg hl] at hp; exact hp.elim
  · exact hp.elim

/-! ### what stands around: defs, methods, classes -/
variable {P : Program} {w : World} {K : PySem.W.Frag} {mg : Str → Option Value} {base : Heap}
def FnE (P : Program) (w : World) (K : PySem.W.Frag) (mg : Str → Option Value) (base : Heap) (T : Tab) (x : Str) (k np : Nat) (ds : List PV) (m : DF) : Prop :=
  ∃ f fd ps dvs dus, ps.length = np ∧ FnOk P w K mg base (L2.CX P w) k f fd ps (spD K T np m) ∧ mg x = some (.ref f) ∧ PySem.W.keepIn K (.ref f) = true ∧ Binds K fd ps dus ∧ Vals dvs dus ∧ Dsv ds dvs
/-- a method of the class c -/
def MtE (P : Program) (w : World) (K : PySem.W.Frag) (mg : Str → Option Value) (base : Heap) (T : Tab) (c : Nat) (x : Str) (k np : Nat) (ds : List PV) (m : DF) : Prop :=
  ∃ f fd ps dvs dus, ps.length = np ∧ FnOk P w K mg base (L2.CX P w) k f fd ps (spD K T np m) ∧ Cls K (T.C c) ∧ Meth K (T.C c) x f ∧ Binds K fd ps dus ∧ Vals dvs dus ∧ Dsv ds dvs
/-- a class that is made -/
def MkE (P : Program) (w : World) (K : PySem.W.Frag) (mg : Str → Option Value) (base : Heap) (T : Tab) (c : Nat) (x : Str) (k np : Nat) (ds : List PV) (m : DF) : Prop :=
  ∃ f fd ps dvs dus, ps.length = np ∧ FnOk P w K mg base (L2.CX P w) k f fd ps (spD K T np m) ∧ Mk K (T.C c) f ∧ mg x = some (.ref (T.C c)) ∧ Binds K fd ps dus ∧ Vals dvs dus ∧ Dsv ds dvs
theorem c_fn {x : Str} {k np : Nat} {ds : List PV} {m : DF} {p : Pos} {es : List Expr} {ms : List DE} (F : FnE X.prog X.w X.K X.mg X.base T x k np ds m) (tk : Tks X E) (hr : Room k X.A) (ha : PA X (e :: es) (tA X.K T E ms)) (hg : Gl X x := by rfl) (hn : ms.length + ds.length = np := by rfl) (hdb : (x == ("__debug__" : Str)) = false := by decide)
    (he : starEach (e :: es) X.env = (false, eval e X.env) :: starEach es X.env := by rfl) (hpl : (backTo pos (starEach es X.env)).any (·.1) = false := by rfl) : PE X (.Call (.Name x p) (e :: es) [] pos) (tD X.K T E (dCall m ms ds)) := by
  obtain ⟨f, fd, ps, dvs, dus, hp, F, gm, hk, hb, hd, hds⟩ := F
  subst hp
  exact r_call tk F hr hg gm hk hb hd hds hn ha he hpl hdb
theorem c_fn0 {x : Str} {k np : Nat} {ds : List PV} {m : DF} {p : Pos} (F : FnE X.prog X.w X.K X.mg X.base T x k np ds m) (tk : Tks X E) (hr : Room k X.A) (hg : Gl X x := by rfl) (hn : ds.length = np := by rfl) (hdb : (x == ("__debug__" : Str)) = false := by decide) : PE X (.Call (.Name x p) [] [] pos) (tD X.K T E (dCall m [] ds)) := by
  obtain ⟨f, fd, ps, dvs, dus, hp, F, gm, hk, hb, hd, hds⟩ := F
  subst hp
  exact r_call0 tk F hr hg gm hk hb hd hds hn hdb
theorem c_mt {c : Nat} {mn : String} {k np : Nat} {ds : List PV} {m : DF} {es : List Expr} {ms : List DE} {pl : Sem Bool} (F : MtE X.prog X.w X.K X.mg X.base T c (Str.ofString mn) k np ds m) (tk : Tks X E) (hr : Room k X.A) (ho : PE X o (tD X.K T E mo)) (ha : PA X (e :: es) (tA X.K T E ms)) (hn : ms.length + ds.length + 1 = np := by rfl)
    (hst : starEach (e :: es) X.env = (false, eval e X.env) :: starEach es X.env := by rfl) (hpl : (backTo pos (starEach es X.env)).any (·.1) = false := by rfl)
    (ht : eval (.Call (.Attribute o (Str.ofString mn) apos) (e :: es) [] pos) X.env = (do
      let ov ← eval o X.env
      standAt apos.atName
      let (f, first) ← holding [ov] (getMethod ov (Str.ofString mn) pl)
      callWith pos f first (backTo pos (starEach (e :: es) X.env)) (backToKw pos (keywordEach [] X.env))) := by rfl) : PE X (.Call (.Attribute o (Str.ofString mn) apos) (e :: es) [] pos) (tD X.K T E (dMeth c mn m mo ms ds)) := by
  obtain ⟨f, fd, ps, dvs, dus, hp, F, hc, hm, hb, hd, hds⟩ := F
  subst hp
  exact r_meth ho hc hm tk F hr hb hd hds ha hn hst hpl ht
theorem c_mt0 {c : Nat} {mn : String} {k np : Nat} {ds : List PV} {m : DF} {pl : Sem Bool} (F : MtE X.prog X.w X.K X.mg X.base T c (Str.ofString mn) k np ds m) (tk : Tks X E) (hr : Room k X.A) (ho : PE X o (tD X.K T E mo)) (hn : ds.length + 1 = np := by rfl)
    (ht : eval (.Call (.Attribute o (Str.ofString mn) apos) [] [] pos) X.env = (do
      let ov ← eval o X.env
      standAt apos.atName
      let (f, first) ← holding [ov] (getMethod ov (Str.ofString mn) pl)
      callWith pos f first (backTo pos (starEach [] X.env)) (backToKw pos (keywordEach [] X.env))) := by rfl) : PE X (.Call (.Attribute o (Str.ofString mn) apos) [] [] pos) (tD X.K T E (dMeth c mn m mo [] ds)) := by
  obtain ⟨f, fd, ps, dvs, dus, hp, F, hc, hm, hb, hd, hds⟩ := F
  subst hp
  exact r_meth0 ho hc hm tk F hr hb hd hds hn ht
theorem c_mk {c : Nat} {x : Str} {k np : Nat} {ds : List PV} {m : DF} {p : Pos} {es : List Expr} {ms : List DE} (F : MkE X.prog X.w X.K X.mg X.base T c x k np ds m) (tk : Tks X E) (hr : Room (k + 1) X.A) (ha : PA X (e :: es) (tA X.K T E ms)) (hg : Gl X x := by rfl) (hn : ms.length + ds.length + 1 = np := by rfl) (hdb : (x == ("__debug__" : Str)) = false := by decide)
    (he : starEach (e :: es) X.env = (false, eval e X.env) :: starEach es X.env := by rfl) (hpl : (backTo pos (starEach es X.env)).any (·.1) = false := by rfl) : PE X (.Call (.Name x p) (e :: es) [] pos) (tD X.K T E (dMake c m ms ds)) := by
  obtain ⟨f, fd, ps, dvs, dus, hp, F, hM, gm, hb, hd, hds⟩ := F
  subst hp
  exact r_make hM tk F hr hg gm hb hd hds ha hn hdb he hpl
theorem c_mkS {c : Nat} {x : Str} {k np : Nat} {ds : List PV} {m : DF} {p : Pos} {es : List Expr} {ms : List DE} (F : MkE X.prog X.w X.K X.mg X.base T c x k np ds m) (tk : Tks X E) (hr : Room (k + 1) X.A) (ha : PA X (e :: es) (tA X.K T E ms)) (hg : Gl X x := by rfl) (hn : ms.length + ds.length + 1 = np := by rfl) (hdb : (x == ("__debug__" : Str)) = false := by decide)
    (he : starEach (e :: es) X.env = (false, eval e X.env) :: starEach es X.env := by rfl) (hpl : (backTo pos (starEach es X.env)).any (·.1) = false := by rfl) : PE X (.Call (.Name x p) (e :: es) [] pos) (tD X.K T E (dMakeS c m ms ds)) := by
  obtain ⟨f, fd, ps, dvs, dus, hp, F, hM, gm, hb, hd, hds⟩ := F
  subst hp
  exact r_makeS hM tk F hr hg gm hb hd hds ha hn hdb he hpl
/-- len(o), o an instance of c -/
theorem c_len {c : Nat} {k : Nat} {m : DF} {p : Pos} (F : MtE X.prog X.w X.K X.mg X.base T c "__len__" k 1 [] m) (hr : Room (k + 1) X.A) (ho : PE X o (tD X.K T E mo)) (hm : X.mg "len" = none) (hg : Gl X "len" := by rfl) (h1 : starEach [o] X.env = (false, eval o X.env) :: starEach [] X.env := by rfl) :
    PE X (.Call (.Name "len" p) [o] [] pos) (tD X.K T E (dLenO c m mo)) := by
  obtain ⟨f, fd, ps, dvs, dus, hp, F, hc, hM, hb, hd, hds⟩ := F
  have hds' : dvs = [] := hds X.K T fun _ => none
  subst hds'
  cases hd
  exact r_lenO ho hM.at_ hM.fn (by unfold FnD; rw [hp]; exact F) hr hb hp hg hm h1
/-- a def of the text (defaults allowed) -/
theorem fn_okD {x qual : Str} {params : Arguments} {body : List Stmt} {scope : Scope} {dvs : List V} {kws : List (Str × V)} {f : Addr} {fd : FuncData} {N ps : List Str} {k np nn : Nat} {m : DS} (F : FunD K x qual params body scope dvs kws f fd) (S : FnScope N ps scope) (hnp : ps.length = np) (hnn : N.length = nn)
    (h : ∀ (cdv : Value) (A : Around) (outer : List Env) (s : Shared) (H : Hp) (E : XK), Room k (cxOf (L2.CX P w) P w K mg base N qual scope f cdv A outer s H E).A → Tks (cxOf (L2.CX P w) P w K mg base N qual scope f cdv A outer s H E) E →
      PassesOwn (model P w) (cxOf (L2.CX P w) P w K mg base N qual scope f cdv A outer s H E).A (cxOf (L2.CX P w) P w K mg base N qual scope f cdv A outer s H E).env (cxOf (L2.CX P w) P w K mg base N qual scope f cdv A outer s H E).xe →
      (cxOf (L2.CX P w) P w K mg base N qual scope f cdv A outer s H E).A.units + 128 < cLine → (cxOf (L2.CX P w) P w K mg base N qual scope f cdv A outer s H E).N.Nodup →
      PSs (cxOf (L2.CX P w) P w K mg base N qual scope f cdv A outer s H E) body (tS K T E m)) :
    FnOk P w K mg base (L2.CX P w) (k + 1) f fd ps (spD K T np (dFn np nn m)) := by
  subst hnp; subst hnn
  refine F.ok S (fun vs H Q E h => h.1) fun cdv A outer s H vs Q E hr hsp => ⟨_, h cdv A outer s H E hr (takes_of rfl rfl rfl rfl) (passes_of rfl) (L2.Room.units2 hr) S.nd, ?_⟩
  obtain ⟨hl, g, as, St, rv, rs, p⟩ := hsp
  have hla : as.length = ps.length := by rw [← rv.length]; exact hl
  have q : PostE K T E g (m (envOf N.length as) St).out Q := by
    have p' : PostE K T E g (if as.length = ps.length then (m (envOf N.length as) St).out else .no) Q := p
    rw [if_pos hla] at p'; exact p'
  refine ⟨g, envOf N.length as, St, ⟨?_, fun i v e => ?_⟩, rs, ?_⟩
  · unfold envOf L2.start
    rw [List.length_append, List.length_append, List.length_map, List.length_map, List.length_replicate, List.length_replicate, hla, hl]
  · unfold envOf at e
    have hi : i < as.length := by
      by_cases hi : i < as.length
      · exact hi
      · rw [List.getElem?_append_right (by rw [List.length_map]; omega), List.getElem?_replicate] at e
        split at e <;> cases e
    rw [List.getElem?_append_left (by rw [List.length_map]; exact hi), List.getElem?_map] at e
    cases e1 : as[i]? with
    | none => rw [e1] at e; cases e
    | some v' =>
      rw [e1] at e; cases e
      obtain ⟨y, e2, ry⟩ := rv.get e1
      refine ⟨y, ?_, ry⟩
      unfold L2.start
      have hv : i < vs.length := (List.getElem?_eq_some_iff.mp e2).1
      rw [List.getElem?_append_left (by rw [List.length_map]; exact hv), List.getElem?_map, e2]
      rfl
  · revert q
    cases m (envOf N.length as) St with
    | nx e S => exact fun q g' σ' H' l _ s => q g' .non H' l rfl s
    | rt v S => exact fun q => q
    | bk e S => exact fun q => q.elim
    | ct e S => exact fun q => q.elim
    | exc c fs S => exact fun q => q
    | no => exact fun q => q
end
/-! ### short forms -/
section
variable {X : Cx} {T : Tab} {E : XK} {e a b c o tg iter tg1 iter1 elt value : Expr} {pos apos : Pos} {ma mb mc mo mi mv : DE} {ta tb : DB}
theorem v_ (i : Nat) {x : Str} {pos : Pos} (hN : X.N[i]? = some x := by rfl) (hv : Vis X.env.scope x := by first | exact Or.inl rfl | exact Or.inr (Or.inl rfl) | exact Or.inr (Or.inr rfl)) (hd : (x == ("__debug__" : Str)) = false := by decide)
    (hcd : (x == ("__classdict__" : Str)) = false := by decide) : PE X (.Name x pos) (tD X.K T E (dVar i)) := r_var hN hv hd hcd
theorem gn_ (i : Nat) {x : Str} {pos : Pos} (hN : X.N.Nodup) (hi : X.N[i]? = some x := by rfl) (hx : Loc X.env.scope x := by first | exact Or.inl rfl | exact Or.inr rfl) (hf : X.fn x = true ∨ X.env.scope.names.lookup x = some .local := by first | exact Or.inl rfl | exact Or.inr rfl) : PG X (.Name x pos) (tTg X.K T (.nm i)) := g_name hN hi hx hf
theorem gc_ (i : Nat) {x : Str} {pos : Pos} {es : List Expr} {is : List Nat} (hN : X.N.Nodup) (h : PGn X es is) (hi : X.N[i]? = some x := by rfl) (hx : Loc X.env.scope x := by first | exact Or.inl rfl | exact Or.inr rfl) (hf : X.fn x = true ∨ X.env.scope.names.lookup x = some .local := by first | exact Or.inl rfl | exact Or.inr rfl)
    (hs : (assignEach (.Name x pos :: es) X.env).map (·.2) = assign (.Name x pos) X.env :: (assignEach es X.env).map (·.2) := by rfl) : PGn X (.Name x pos :: es) (i :: is) := gn_cons hN hi hx hf h hs
theorem ki_ {op : CmpOp} {m : M2} (ho : OpM X T (compareOp op) m) (ha : PE X a (tD X.K T E ma)) (hb : PE X b (tD X.K T E mb)) (hm : behindInMarks op b = false := by first | exact nomark _ | rfl) : PE X (.Compare a [op] [b] pos) (tD X.K T E (dOp m ma mb)) := r_cmp ho ha hb hm
theorem kt_ {op : CmpOp} {m : M2} (ho : OpM X T (compareOp op) m) (ha : PE X a (tD X.K T E ma)) (hb : PE X b (tD X.K T E mb)) (hm : behindInMarks op b = false := by first | exact nomark _ | rfl) : PT X (.Compare a [op] [b] pos) (tB_ X.K T E (dT (dOp m ma mb))) := q_cmp ho ha hb hm
theorem vt_ (h : PE X e (tD X.K T E ma)) (he : ∀ whole, isTrue e X.env whole = (do let v ← whole; standAt e.pos; holding [v] (truthy v)) := by intro _; rfl) : PT X e (tB_ X.K T E (dT ma)) := q_val h he
end

/-- an own exception class without an __init__, over ValueError -/
def RaE (K : PySem.W.Frag) (mg : Str → Option Value) (T : Tab) (c : Nat) (x : Str) : Prop :=
  mg x = some (.ref (T.C c)) ∧ PySem.W.keepIn K (.ref (T.C c)) = true ∧ PySem.W.excIn K (T.C c) [.type "ValueError", .type "Exception", .type "BaseException", .type "object"] "ValueError.__new__" = true ∧
    PySem.W.subIn K (.ref (T.C c)) (.type "BaseException") = some true ∧ PySem.W.typeIn K (.ref (T.C c)) = some (.type "type")
theorem c_raise {X : Cx} {T : Tab} {E : XK} {c : Nat} {x m : Str} {j : Nat} {p p2 p3 : Pos} (hc : X.calm = true) (tk : Tks X E) (h : RaE X.K X.mg T c x) (hg : Gl X x := by rfl) (hdb : (x == ("__debug__" : Str)) = false := by decide) :
    PS X (.Raise (some (.Call (.Name x p) [.Constant (.str m) j p2] [] pos)) none p3) (tS X.K T E (dRaise c)) := by
  obtain ⟨gC, kC, q, b, t⟩ := h
  exact s_raise hc tk PySem.F.excBase_ValueError q gC kC (raises_own b t) hg hdb
theorem FnD_gc {P : Program} {w : World} {K : PySem.W.Frag} {mg : Str → Option Value} {base : Heap} {T : Tab} {k np : Nat} {f : Addr} {fd : FuncData} {ps : List Str} {m : DF} (F : FnOk P w K mg base (L2.CX P w) k f fd ps (spD K T np m)) :
    FnOk P w K mg base (L2.CX P w) k f fd ps (spD K T np (gc m)) :=
  F.imp fun vs H Q E ⟨hl, g, as, S, r, s, p⟩ => ⟨hl, g, as, S, r, s, PostE.gc s p⟩
/-- the promise of a law -/
def spLaw (K : PySem.W.Frag) : Sp := fun vs H Q _ => ∃ (a : Addr) (ns : List Int), vs = [.ref a] ∧ SqL K H a (ns.map V.int) ∧ ns.length ≤ 63 ∧ ∀ H', Q (.bl true) H'
theorem rpl_ints {K T F} : ∀ ns : List Int, RpL K T F (ns.map .int) (ns.map V.int)
  | [] => rfl
  | n :: ns => ⟨.int n, _, rfl, rfl, rpl_ints ns⟩
/-- what stands in the heap but the tables -/
def noTb (H : Hp) : Hp := fun a => match H a with
  | some (.tbl _) => none
  | u => u
theorem noTb_at {H : Hp} {a : Addr} {o : HO} (h : H a = some o) (n : ∀ ps, o ≠ .tbl ps) : noTb H a = some o := by
  unfold noTb
  rw [h]
  cases o <;> first | rfl | exact absurd rfl (n _)
theorem noTb_same (H : Hp) : Same (noTb H) H := fun a o e => by
  unfold noTb at e
  split at e
  · cases e
  · exact e
theorem noTb_no (H : Hp) (a : Addr) (ps : Array Value) : noTb H a ≠ some (.tbl ps) := fun e => by
  have q := noTb_same H _ _ e
  unfold noTb at e
  rw [q] at e; cases e
/-- the law's promise, the tables empty at first -/
def spLawT (K : PySem.W.Frag) (tb : List (Addr × Str)) : Sp := fun vs H Q _ => ∃ (a : Addr) (ns : List Int), vs = [.ref a] ∧ SqL K H a (ns.map V.int) ∧ ns.length ≤ 63 ∧ (∀ p ∈ tb, H p.1 = some (.tbl #[])) ∧ ∀ H', Q (.bl true) H'
theorem law_okT {P : Program} {w : World} {K : PySem.W.Frag} {mg : Str → Option Value} {base : Heap} {T : Tab} {k : Nat} {f : Addr} {fd : FuncData} {ps : List Str} {m : DF} (F : FnOk P w K mg base (L2.CX P w) k f fd ps (spD K T 1 m))
    (h : ∀ ns : List Int, ns.length ≤ 63 → ∃ S, m [.p (.scr (ns.map .int))] [] = .ok (.p (.bl true)) S) : FnOk P w K mg base (L2.CX P w) k f fd ps (spLawT K T.tb) :=
  F.imp fun vs H Q E ⟨a, ns, e, hs, hl, ht, q⟩ => by
    subst e
    obtain ⟨S, hm⟩ := h ns hl
    have hs2 : SqL K (noTb H) a (ns.map V.int) := by
      rcases hs with (z | ⟨o, z⟩) | z
      · exact .inl (.inl (noTb_at z fun _ y => by cases y))
      · exact .inl (.inr ⟨o, noTb_at z fun _ y => by cases y⟩)
      · exact .inr z
    refine ⟨rfl, ⟨noTb H, [], []⟩, [.p (.scr (ns.map .int))], [], ⟨.ref a, [], rfl, ⟨a, _, rfl, hs2, rpl_ints ns⟩, rfl⟩, ⟨rfl, .nil, noTb_same H, (by simp), (by simp), (by simp), .nil, fun p hp => LamX.TabS.nil (ht p hp), noTb_no H, by simp⟩, ?_⟩
    rw [hm]
    exact fun g' x H' l r s => by
      have : x = .bl true := r
      subst this; exact q H'
theorem law_ok {P : Program} {w : World} {K : PySem.W.Frag} {mg : Str → Option Value} {base : Heap} {T : Tab} {k : Nat} {f : Addr} {fd : FuncData} {ps : List Str} {m : DF} (F : FnOk P w K mg base (L2.CX P w) k f fd ps (spD K T 1 m))
    (h : ∀ ns : List Int, ns.length ≤ 63 → ∃ S, m [.p (.scr (ns.map .int))] [] = .ok (.p (.bl true)) S) (ht : T.tb = [] := by rfl) : FnOk P w K mg base (L2.CX P w) k f fd ps (spLaw K) :=
  (law_okT F h).imp fun vs H Q E ⟨a, ns, e, hs, hl, q⟩ => ⟨a, ns, e, hs, hl, by rw [ht]; simp, q⟩
theorem law_cx {P : Program} {w : World} {H : Hp} {s : Shared} {e : Value} {s' : Shared} (h : L2.CX P w [] H s (fun _ _ _ => False) e s') : False := by
  obtain ⟨_, _, _, _, _, _, _, _, _, _, _, _, z⟩ := h
  exact z
def tab (l : List Addr) : Tab := ⟨fun n => l.getD n 0, [], none⟩
def tabT (l : List Addr) (tb : List (Addr × Str)) : Tab := ⟨fun n => l.getD n 0, tb, none⟩
end Dn

set_option maxRecDepth 100000
namespace Dn
open PySem PySem.Spec PyProof.Rows L2

/-! ### enumerate of a tuple -/
theorem numbered_new (t : Addr) (its : Array Value) (n : Nat) (dc : Option Addr) (sl : Array (Option Value)) :
    Meets (Builtin.«enumerate.__new__» ⟨[.type "enumerate", .ref t], []⟩) (fun _ R sh => sh.heap.get? t = some { cls := .type "tuple", dict := dc, data := .seq its n, slots := sl } ∧
      R (.ok (.ret (.ref (sh.heap.push { cls := .type "tuple_iterator", data := .fields #[.ref t, .int 0 0] }).objs.size)))
        { sh with heap := (sh.heap.push { cls := .type "tuple_iterator", data := .fields #[.ref t, .int 0 0] }).push { cls := .type "enumerate", data := .fields #[.none, .bool false, .ref sh.heap.objs.size, rawInt 0, .none, .none] } }) :=
  .of_wp fun prog w A R sh hh => by
    obtain ⟨hp, gg, dd, tk, os⟩ := sh; obtain ⟨hl, hR⟩ := hh
    have hsb := sub_enumerate
    have hT : Heap.IsTuple (Shared.heap ⟨hp, gg, dd, tk, os⟩) t its := ⟨_, hl, rfl, n, rfl⟩
    wp_walk using AutoSeq1.wpAny_loadPart' hl
    refine wpAny_stack_any fun z => wpAny_pure ?_
    split
    · rename_i c _ _ _ _ _
      cases (c == Value.type "enumerate") <;> (wp_walk using AutoSeq1.wpAny_loadPart' hl, wpAny_pyIter_tuple hT; exact ⟨_, rfl, hR⟩)
    · (wp_walk using AutoSeq1.wpAny_loadPart' hl, wpAny_pyIter_tuple hT; exact ⟨_, rfl, hR⟩)
section
variable {P : Program} {w : World} {A : Around} {EE : Value → Shared → Prop} {sh : Shared}
theorem numbered_call {t : Addr} {its : Array Value} {Q : Value → Shared → Prop} (hT : sh.heap.IsTuple t its)
    (k : ∀ h2, IsEnum h2 (sh.heap.objs.size + 1) sh.heap.objs.size 0 .none → h2.IsTupleIter sh.heap.objs.size t 0 →
      (∀ b o, sh.heap.get? b = some o → h2.get? b = some o) → Q (.ref (sh.heap.objs.size + 1)) { sh with heap := h2 }) :
    wpAny (model P w) A (call (.type "enumerate") [.ref t]) Q EE sh := by
  obtain ⟨⟨c, dc, dt, sl⟩, hl, hc, n, hd⟩ := hT
  have hc : c = .type "tuple" := hc
  have hd : dt = .seq its n := hd
  subst hc; subst hd
  refine callType_new F.called_enumerate (by decide) (F.typeCall_enumerate_1 _) (F.newCall_enumerate_1 _) (fun ob => F.args_object_init_2 ob _) F.entry_enumerate_new (numbered_new t its n dc sl) ⟨hl, ?_⟩
  have hz : (sh.heap.push { cls := .type "tuple_iterator", data := .fields #[.ref t, .int 0 0] }).objs.size = sh.heap.objs.size + 1 := Heap.size_push ..
  show _ ∧ _
  rw [hz]
  have he : IsEnum ((sh.heap.push { cls := .type "tuple_iterator", data := .fields #[.ref t, .int 0 0] }).push { cls := .type "enumerate", data := .fields #[.none, .bool false, .ref sh.heap.objs.size, rawInt 0, .none, .none] }) (sh.heap.objs.size + 1) sh.heap.objs.size 0 .none := by
    have q := Heap.get?_push_size (sh.heap.push { cls := .type "tuple_iterator", data := .fields #[.ref t, .int 0 0] }) (o := { cls := .type "enumerate", data := .fields #[.none, .bool false, .ref sh.heap.objs.size, rawInt 0, .none, .none] }) rfl
    rw [hz] at q; exact q
  exact ⟨⟨_, he, rfl⟩, k _ he ⟨_, Heap.get?_push_of_some _ (Heap.get?_push_size _ rfl), rfl, rfl⟩ fun b o x => Heap.get?_push_of_some _ (Heap.get?_push_of_some _ x)⟩
end
/-- the tuple at a, each item in a new pair -/
def IteT (K : PySem.W.Frag) (a : Addr) (n : Nat) : It :=
  ⟨fun i H => ∃ (xs : List V) (x : V), SqT K H a xs ∧ xs.length = n ∧ xs[i]? = some x,
   fun i H v H2 => ∃ c x, v = .ref c ∧ H c = none ∧ H2 = upd H c (.tup [.int (i : Nat), x]) ∧ ∀ xs, SqT K H a xs → xs[i]? = some x,
   fun i H => ∃ xs : List V, SqT K H a xs ∧ xs.length = n ∧ n ≤ i⟩
theorem turn_enumT {P : Program} {w : World} {K : PySem.W.Frag} {elts : List Expr} {kk : Nat} {tpos : Pos} (a e it : Addr) (n : Nat) :
    Turn P w K (.Tuple elts kk tpos) (IteT K a n) [e, it] e (fun i h => (∃ z, IsEnum h e it ((i : Nat) : Int) z) ∧ h.IsTupleIter it a i ∧ e ≠ it ∧ a ≠ it ∧ a ≠ e ∧ i ≤ n) where
  mem := by simp
  obj := fun i h st b hb => by
    obtain ⟨⟨z, he⟩, ⟨o, ho, hc, hd⟩, _⟩ := st
    have q : b = e ∨ b = it := by simpa using hb
    rcases q with rfl | rfl
    · exact ⟨_, he, fun v q => nomatch q⟩
    · exact ⟨o, ho, fun v q => by rw [hd] at q; cases q⟩
  keep := fun i h h2 st k => let ⟨⟨z, he⟩, hi, m⟩ := st; ⟨⟨z, k e (by simp) _ he⟩, hi.at fun o q => k it (by simp) o q, m⟩
  item := by
    intro X hP hw hK hc i pins s σ H E I hf st hg
    subst hP; subst hw; subst hK
    obtain ⟨⟨z, he⟩, hit, n1, n2, n3, n4⟩ := st
    obtain ⟨xs, x, hq, hn, hx⟩ := hg
    obtain ⟨its, rv, p, _⟩ := I.tuple hq
    obtain ⟨u, hu, ru⟩ := rv.get hx
    have l1 : e < s.heap.objs.size := Heap.lt_size he
    have l2 : it < s.heap.objs.size := by obtain ⟨_, q, _⟩ := hit; exact Heap.lt_size q
    have hlt : i < its.toArray.size := by
      have := (List.getElem?_eq_some_iff.mp hu).1; simpa using this
    refine wpAny_pyNext_enum_itemD (Draws.tuple (A := X.A.in1) (I.ok.hd hc) it a n2 its.toArray) he ⟨hit, p⟩ hlt n1 (by simp [n1, Ne.symm n3]) fun y h2 tk hy ho hit2 hT hsz hk => ?_
    have ey : y = u := by
      have hy : its.toArray[i]? = some y := hy
      rw [List.getElem?_toArray, hu] at hy; cases hy; rfl
    subst ey
    refine ⟨_, rfl, wpAny_letOwnedTupleGo_enum (s := { s with heap := h2, toks := tk + 1 }) ho fun h3 he3 sb => ?_⟩
    have hT3 : h3.get? s.heap.objs.size = some { cls := .type "tuple", data := .seq #[.int i tk, y] } := (sb.2 _ (Nat.ne_of_gt l1)).trans hT
    have new : ObjOk X.prog X.w (upd H s.heap.objs.size (.tup [.int (i : Nat), x])) h3 s.heap.objs.size (.tup [.int (i : Nat), x]) :=
      ⟨by show 2 ≤ sizeLine; decide, [.int i tk, y], .cons ⟨_, rfl⟩ (.cons ru .nil), ⟨_, hT3, rfl, _, rfl⟩⟩
    have I1 : Inv X pins σ (upd H s.heap.objs.size (.tup [.int (i : Nat), x])) { s with heap := h3, toks := tk + 1 } :=
      I.turnedNew (ch := [e, it]) (fun b ob hb q => (sb.2 b (fun z => hb (by simp [z]))).trans (hk b ob (fun z => hb (by simp [z])) (fun z => hb (by simp [z])) q)) hf (Nat.le_refl _) new
    refine ⟨.ref s.heap.objs.size, _, I1, rfl, ⟨_, x, rfl, I.hok.fresh (Nat.le_refl _), rfl, fun ys hy => by rw [I.tuple_inj hy hq]; exact hx⟩, ⟨⟨y, ?_⟩, hit2.1.at fun o q => (sb.2 it (Ne.symm n1)).trans q, n1, n2, n3, by have := (List.getElem?_eq_some_iff.mp hx).1; omega⟩, fun b hb => ?_⟩
    · rw [show ((i + 1 : Nat) : Int) = (i : Int) + 1 by omega]; exact he3
    · have l3 : b < s.heap.objs.size := by
        have q : b = e ∨ b = it := by simpa using hb
        rcases q with rfl | rfl
        · exact l1
        · exact l2
      rw [upd_ne (Nat.ne_of_lt l3)]
      exact (hf b hb).1
  done := by
    intro X hP hw hK hc i pins s σ H E I hf st hg
    subst hP; subst hw; subst hK
    obtain ⟨⟨z, he⟩, hit, n1, n2, n3, n4⟩ := st
    obtain ⟨xs, hq, hn, hx⟩ := hg
    obtain ⟨its, rv, p, _⟩ := I.tuple hq
    obtain ⟨f0, f1, f2, f3, f4, f5⟩ := hf it (by simp)
    have e1 : i = its.toArray.size := by have := rv.length; simp only [List.size_toArray]; omega
    subst e1
    exact wpAny_pyNext_enum_endD (Draws.tuple (A := X.A.in1) (I.ok.hd hc) it a n2 its.toArray) he ⟨hit, p⟩ fun h2 eb => ⟨rfl, I.turned (t' := s.toks) (fun b o hb q => eb b o hb q) f0 f1 f3 f4 f5⟩
  self := fun A i s Q E st h => let ⟨⟨_, he⟩, _⟩ := st; wpAny_pyIter_enum he h
def iEnumT (K : PySem.W.Frag) (ta : TA) : TI := fun σ H R => ta σ H fun vs H1 => ∃ a xs, vs = [.ref a] ∧ SqT K H1 a xs ∧ R (IteT K a xs.length) H1
theorem pi_enumT {X : Cx} {e : Expr} {ta : TA} {p pos tpos : Pos} {elts : List Expr} {kk : Nat} (hg : Gl X "enumerate") (hm : X.mg "enumerate" = none) (ha : PA X [e] ta) (hs : starEach [e] X.env = [(false, eval e X.env)] := by rfl) :
    PI X (.Tuple elts kk tpos) (.Call (.Name "enumerate" p) [e] [] pos) (iEnumT X.K ta) := by
  refine ⟨fun pins s σ H R I h => ?_⟩
  refine Call_ (ld_blt I hg hm boot_enumerate (PyProof.Rows.callWith_type1 (thn (ha.run pos pins s σ H _ I h) fun us s1 ⟨vs, H1, I1, r1, q1⟩ => ?_) hs rfl))
  obtain ⟨a, xs, rfl, hq, q⟩ := q1
  rw [Vals.ref1 r1]
  obtain ⟨its, rv, p2, _⟩ := I1.tuple hq
  have la : a < s1.heap.objs.size := by obtain ⟨o, e, _⟩ := id p2; exact Heap.lt_size e
  refine numbered_call p2 fun h2 he hit hk => wpAny_pyIter_enum he ?_
  have I2 : Inv X pins σ H1 { s1 with heap := h2 } := I1.kept (t' := s1.toks) hk
  refine ⟨s1.heap.objs.size + 1, [s1.heap.objs.size + 1, s1.heap.objs.size], _, _, H1, rfl, I2, turn_enumT a (s1.heap.objs.size + 1) s1.heap.objs.size xs.length, ⟨⟨.none, he⟩, hit, Nat.succ_ne_self _, Nat.ne_of_lt la, Nat.ne_of_lt (Nat.lt_succ_of_lt la), Nat.zero_le _⟩, fun b hb => ?_, q⟩
  have z : b = s1.heap.objs.size + 1 ∨ b = s1.heap.objs.size := by simpa using hb
  have hle : s1.heap.objs.size ≤ b := by
    rcases z with z | z
    · rw [z]; exact Nat.le_succ _
    · rw [z]; exact Nat.le_refl _
  exact I1.fpOk hle (I1.hok.fresh hle)
/-! the meanings -/
def numP : Nat → List PV → List VV
  | _, [] => []
  | i, x :: xs => .p (.tup [.int i, x]) :: numP (i + 1) xs
theorem numP_len : ∀ (i : Nat) (xs : List PV), (numP i xs).length = xs.length
  | _, [] => rfl
  | i, x :: xs => by rw [numP, List.length_cons, List.length_cons, numP_len]
theorem numP_at : ∀ (k : Nat) (xs : List PV) (i : Nat) (v : VV), (numP k xs)[i]? = some v → ∃ x, xs[i]? = some x ∧ v = .p (.tup [.int ((k + i : Nat) : Int), x])
  | _, [], i, v, h => by simp [numP] at h
  | k, x :: xs, 0, v, h => by simp [numP] at h; exact ⟨x, rfl, by rw [← h]; rfl⟩
  | k, x :: xs, i + 1, v, h => by
    simp only [numP, List.getElem?_cons_succ] at h
    obtain ⟨y, h1, h2⟩ := numP_at (k + 1) xs i v h
    exact ⟨y, by simpa using h1, by rw [h2, show k + 1 + i = k + (i + 1) by omega]⟩
section
variable {X : Cx} {T : Tab} {E : XK} {e a : Expr} {pos p tpos : Pos} {elts : List Expr} {kk : Nat} {ma : DE}
def dEnT (m : DE) : DI := fun env S => (m env S).bindI fun v S1 => match v with
  | .p (.tup xs) => .ok (numP 0 xs) (fun _ => true) S1
  | _ => .no
theorem i_enT (hg : Gl X "enumerate") (hm : X.mg "enumerate" = none) (ha : PE X a (tD X.K T E ma)) (hs : starEach [a] X.env = (false, eval a X.env) :: starEach [] X.env := by rfl) :
    PI X (.Tuple elts kk tpos) (.Call (.Name "enumerate" p) [a] [] pos) (tI X.K T E (dEnT ma)) :=
  PI.imp (pi_enumT hg hm (pa_cons ha pa_nil hs) hs) fun σ H R h => by
    refine tD_I h fun g v S x H rv rs q => ?_
    cases v with
    | ob i => exact q.elim
    | p v =>
      cases v with
      | tup xs =>
        obtain ⟨ad, vs, e1, h1, h2⟩ := rv
        have up : ∀ g2 S2 H2, g.sub g2 → Rs X.K T g2 S2 H2 → SqT X.K H2 ad vs := fun g2 S2 H2 l s => SqT.up s.fz (SqT.up l.F (.inl (.inl h1)))
        refine ⟨ad, vs, by rw [e1], up g S H (G.le.refl g).s rs, q g H _ (G.le.refl _) rs ⟨fun g2 S2 H2 i w l s _ hi => ?_, fun g2 S2 H2 i l s _ hi => ?_⟩⟩
        · obtain ⟨y, e2, rfl⟩ := numP_at 0 xs i w hi
          obtain ⟨z, z1, z2⟩ := h2.get e2
          have q1 := up g2 S2 H2 l s
          refine ⟨⟨vs, z, q1, rfl, z1⟩, fun u H3 hz => ?_⟩
          obtain ⟨c, x2, rfl, hT, rfl, f1⟩ := hz
          have e3 := f1 vs q1
          rw [z1] at e3; cases e3
          obtain ⟨l5, s5⟩ := s.new hT (.tup [.int (i : Nat), z])
          exact ⟨_, l5, ⟨c, [.int (i : Nat), z], rfl, (by show upd g2.F c _ c = _; exact upd_same), ⟨.int (i : Nat), _, rfl, by rw [Nat.zero_add]; rfl, z, _, rfl, Rp.mono X.K T (l.F.trans l5.F) _ _ z2, rfl⟩⟩, s5⟩
        · rw [numP_len] at hi
          exact ⟨vs, up g2 S2 H2 l s, rfl, by rw [h2.length]; exact hi⟩
      | _ => exact q.elim
/-- a list that stands for good -/
def dEnL (m : DE) : DI := fun env S => (m env S).bindI fun v S1 => match v with
  | .p (.lst xs) => .ok (numP 0 xs) (fun _ => true) S1
  | _ => .no
theorem i_enL (hg : Gl X "enumerate") (hm : X.mg "enumerate" = none) (ha : PE X a (tD X.K T E ma)) (hs : starEach [a] X.env = (false, eval a X.env) :: starEach [] X.env := by rfl) :
    PI X (.Tuple elts kk tpos) (.Call (.Name "enumerate" p) [a] [] pos) (tI X.K T E (dEnL ma)) :=
  PI.imp (pi_enum hg hm (pa_cons ha pa_nil hs) hs) fun σ H R h => by
    refine tD_I h fun g v S x H rv rs q => ?_
    cases v with
    | ob i => exact q.elim
    | p v =>
      cases v with
      | lst xs =>
        obtain ⟨ad, vs, e1, h1, h2⟩ := rv
        have up : ∀ g2 S2 H2, g.sub g2 → Rs X.K T g2 S2 H2 → SqL X.K H2 ad vs := fun g2 S2 H2 l s => .inl (.inl (s.fz _ _ (l.F _ _ h1)))
        refine ⟨ad, vs, by rw [e1], up g S H (G.le.refl g).s rs, q g H _ (G.le.refl _) rs ⟨fun g2 S2 H2 i w l s _ hi => ?_, fun g2 S2 H2 i l s _ hi => ?_⟩⟩
        · obtain ⟨y, e2, rfl⟩ := numP_at 0 xs i w hi
          obtain ⟨z, z1, z2⟩ := h2.get e2
          have q1 := up g2 S2 H2 l s
          refine ⟨⟨vs, z, q1, z1⟩, fun u H3 hz => ?_⟩
          obtain ⟨c, x2, rfl, hT, rfl, f1⟩ := hz
          have e3 := f1 vs q1
          rw [z1] at e3; cases e3
          obtain ⟨l5, s5⟩ := s.new hT (.tup [.int (i : Nat), z])
          exact ⟨_, l5, ⟨c, [.int (i : Nat), z], rfl, (by show upd g2.F c _ c = _; exact upd_same), ⟨.int (i : Nat), _, rfl, by rw [Nat.zero_add]; rfl, z, _, rfl, Rp.mono X.K T (l.F.trans l5.F) _ _ z2, rfl⟩⟩, s5⟩
        · rw [numP_len] at hi
          exact ⟨vs, up g2 S2 H2 l s, by rw [h2.length]; exact hi⟩
      | _ => exact q.elim
end
end Dn

set_option maxRecDepth 100000
namespace Dn
open PySem L2
/-! Walking through meanings: the equations of the combinators, and what the laws' own drawing does. -/
@[simp] theorem e_var (i : Nat) (env : En) (S : Sto) : dVar i env S = RE.of S (env.getD i none) := rfl
@[simp] theorem e_c (v : PV) (env : En) (S : Sto) : dC v env S = .ok (.p v) S := rfl
@[simp] theorem e_op (m : M2) (a b : DE) (env : En) (S : Sto) : dOp m a b env S = (a env S).bind fun v S1 => (b env S1).bind fun u S2 => RE.of S2 (m v u S2) := rfl
@[simp] theorem e_t (m : DE) (env : En) (S : Sto) : dT m env S = (m env S).toB := rfl
@[simp] theorem e_seq (m m' : DS) (env : En) (S : Sto) : dSeq m m' env S = match m env S with
  | .nx env1 S1 => m' env1 S1
  | r => r := rfl
@[simp] theorem e_nil (env : En) (S : Sto) : dNil env S = .nx env S := rfl
@[simp] theorem e_ret (m : DE) (env : En) (S : Sto) : dRet m env S = (m env S).bindS fun v S1 => .rt v S1 := rfl
@[simp] theorem e_do (m : DE) (env : En) (S : Sto) : dDo m env S = (m env S).bindS fun _ S1 => .nx env S1 := rfl
@[simp] theorem e_ifs (t : DB) (m m' : DS) (env : En) (S : Sto) : dIfS t m m' env S = (t env S).bindS fun k S1 => match k with
  | true => m env S1
  | false => m' env S1 := rfl
@[simp] theorem e_set (i : Nat) (m : DE) (env : En) (S : Sto) : dSet (.nm i) m env S = (m env S).bindS fun v S1 => .nx (env.set i (some v)) S1 := rfl
@[simp] theorem e_setT (is : List Nat) (m : DE) (env : En) (S : Sto) : dSet (.tp is) m env S = (m env S).bindS fun v S1 => match (Tg.tp is).put v env with
  | some env1 => .nx env1 S1
  | none => .no := rfl
@[simp] theorem e_putT (is : List Nat) (vs : List PV) (env : En) : (Tg.tp is).put (.p (.tup vs)) env = if vs.length = is.length then some (setAll is vs env) else none := rfl
@[simp] theorem e_putN (i : Nat) (v : VV) (env : En) : (Tg.nm i).put v env = some (env.set i (some v)) := rfl
@[simp] theorem e_call (m : DF) (ms : List DE) (ds : List PV) (env : En) (S : Sto) : dCall m ms ds env S = args ms env S fun vs S1 => m (vs ++ ds.map .p) S1 := rfl
@[simp] theorem e_bi (m : MB) (ms : List DE) (env : En) (S : Sto) : dBi m ms env S = args ms env S fun vs S1 => RE.of S1 (m vs S1) := rfl
@[simp] theorem e_and (a b : DB) (env : En) (S : Sto) : dAnd a b env S = (a env S).bind fun k S1 => match k with
  | true => b env S1
  | false => .ok false S1 := rfl
@[simp] theorem e_or (a b : DB) (env : En) (S : Sto) : dOr a b env S = (a env S).bind fun k S1 => match k with
  | true => .ok true S1
  | false => b env S1 := rfl
@[simp] theorem e_not (a : DB) (env : En) (S : Sto) : dNot a env S = (a env S).bind fun k S1 => .ok (!k) S1 := rfl
@[simp] theorem e_andV (a b : DE) (env : En) (S : Sto) : dAndV a b env S = (a env S).bind fun v S1 => match v with
  | .p (.bl true) => b env S1
  | .p (.bl false) => .ok (.p (.bl false)) S1
  | _ => .no := rfl
@[simp] theorem e_orV (a b : DE) (env : En) (S : Sto) : dOrV a b env S = (a env S).bind fun v S1 => match v with
  | .p (.bl true) => .ok (.p (.bl true)) S1
  | .p (.bl false) => b env S1
  | _ => .no := rfl
@[simp] theorem e_notV (a : DE) (env : En) (S : Sto) : dNotV a env S = (a env S).bind fun v S1 => match v with
  | .p (.bl k) => .ok (.p (.bl (!k))) S1
  | _ => .no := rfl
@[simp] theorem e_if (t : DB) (a b : DE) (env : En) (S : Sto) : dIf t a b env S = (t env S).bindE fun k S1 => match k with
  | true => a env S1
  | false => b env S1 := rfl
@[simp] theorem e_chain (m m' : M2) (a b c : DE) (env : En) (S : Sto) : dChain m m' a b c env S = (a env S).bind fun v S1 => (b env S1).bind fun u S2 => match m v u S2 with
  | some (.p (.bl true)) => (c env S2).bind fun w S3 => RE.of S3 (m' u w S3)
  | some (.p (.bl false)) => .ok (.p (.bl false)) S2
  | _ => .no := rfl
@[simp] theorem e_tup (ms : List DE) (env : En) (S : Sto) : dTup ms env S = args ms env S fun vs S1 => match allP vs with
  | some xs => if xs.length ≤ LIM then .ok (.p (.tup xs)) S1 else .no
  | none => .no := rfl
@[simp] theorem e_lst (ms : List DE) (env : En) (S : Sto) : dLst ms env S = args ms env S fun vs S1 => match allP vs with
  | some xs => if xs.length ≤ LIM then .ok (.p (.lst xs)) S1 else .no
  | none => .no := rfl
@[simp] theorem e_new (ms : List DE) (env : En) (S : Sto) : dNew ms env S = args ms env S fun vs S1 => if vs.length ≤ LIM then .ok (.ob S1.length) (S1 ++ [.lst vs]) else .no := rfl
@[simp] theorem e_fld (c : Nat) (f : String) (m : DE) (env : En) (S : Sto) : dFld c f m env S = (m env S).bind fun o S1 => RE.of S1 (fldOf c f S1 o) := rfl
@[simp] theorem e_meth (c : Nat) (mn : String) (m : DF) (mo : DE) (ms : List DE) (ds : List PV) (env : En) (S : Sto) : dMeth c mn m mo ms ds env S = (mo env S).bind fun o S1 =>
  if isIns c mn S1 o then args ms env S1 fun vs S2 => m (o :: (vs ++ ds.map .p)) S2 else .no := rfl
@[simp] theorem e_sl (f : MS) (mo : DE) (lo hi : Option DE) (env : En) (S : Sto) : dSl f mo lo hi env S = (mo env S).bind fun v S1 => part lo env S1 fun l S2 => part hi env S2 fun h S3 => RE.of S3 (f v l h S3) := rfl
@[simp] theorem e_raise (c : Nat) (env : En) (S : Sto) : dRaise c env S = .exc c [] S := rfl
@[simp] theorem e_il (m : DE) (env : En) (S : Sto) : dIL m env S = (m env S).bindI fun v S1 => match lstItems S1 v with
  | some (xs, kp) => .ok xs kp S1
  | none => .no := rfl
@[simp] theorem e_it (m : DE) (env : En) (S : Sto) : dIT m env S = (m env S).bindI fun v S1 => match asTup v with
  | some xs => .ok (xs.map .p) (fun _ => true) S1
  | none => .no := rfl
@[simp] theorem e_r1 (m : DE) (env : En) (S : Sto) : dR1 m env S = (m env S).bindI fun v S1 => match v with
  | .p (.int j) => if j.natAbs < 2 ^ 62 then .ok (rng 0 j.toNat) (fun _ => true) S1 else .no
  | _ => .no := rfl
@[simp] theorem e_r2 (m m' : DE) (env : En) (S : Sto) : dR2 m m' env S = (m env S).bindI fun v S1 => (m' env S1).bindI fun u S2 => match v, u with
  | .p (.int i), .p (.int j) => if i.natAbs < 2 ^ 62 ∧ j.natAbs < 2 ^ 62 then .ok (rng i (j - i).toNat) (fun _ => true) S2 else .no
  | _, _ => .no := rfl
@[simp] theorem e_zip (m m' : DE) (env : En) (S : Sto) : dZip m m' env S = (m env S).bindI fun v S1 => (m' env S1).bindI fun u S2 => match v, u with
  | .p (.lst xs), .p (.lst ys) => .ok (zipP xs ys) (fun _ => true) S2
  | _, _ => .no := rfl
@[simp] theorem e_for (t : Tg) (it : DI) (body : DS) (env : En) (S : Sto) : dFor t it body env S = (it env S).bindS fun xs kp S1 => dForL t kp body xs env S1 := rfl
@[simp] theorem e_comp (vs : List Nat) (t : Tg) (it : DI) (tt : DB) (el : DE) (env : En) (S : Sto) : dComp vs t it tt el env S = (it env S).bindE fun xs kp S1 => (dCompL t tt el kp (wipeE env vs) xs [] S1).toE := rfl
@[simp] theorem e_par (i j : Nat) (a b : DE) (env : En) (S : Sto) : dPar i j a b env S = (a env S).bindS fun v S1 => (b env S1).bindS fun u S2 => .nx ((env.set i (some v)).set j (some u)) S2 := rfl
@[simp] theorem e_fn (np nn : Nat) (m : DS) (as : List VV) (S : Sto) : dFn np nn m as S = if as.length = np then (m (envOf nn as) S).out else .no := rfl
@[simp] theorem e_setIx (mo mi mv : DE) (env : En) (S : Sto) : dSetIx mo mi mv env S = (mv env S).bindS fun w S1 => (mo env S1).bindS fun o S2 => (mi env S2).bindS fun i S3 => match o, i with
  | .ob j, .p (.int k) => match S3[j]? with
    | some (.lst xs) => match ixN xs.length k with
      | some n => .nx env (S3.set j (.lst (xs.set n w)))
      | none => .no
    | _ => .no
  | _, _ => .no := rfl
@[simp] theorem m_int (f : Int → Int → Option PV) (i j : Int) (S : Sto) : mI f (.p (.int i)) (.p (.int j)) S = (f i j).map .p := rfl
@[simp] theorem m_add (i j : Int) (S : Sto) : mAdd (.p (.int i)) (.p (.int j)) S = some (.p (.int (i + j))) := rfl
@[simp] theorem m_sub (i j : Int) (S : Sto) : mSub (.p (.int i)) (.p (.int j)) S = some (.p (.int (i - j))) := rfl
theorem m_mul (i j : Int) (S : Sto) (h : (-18446744073709551616 < i ∧ i < 18446744073709551616) ∨ (-18446744073709551616 < j ∧ j < 18446744073709551616)) : mMulA (.p (.int i)) (.p (.int j)) S = some (.p (.int (i * j))) := by
  show (if i.natAbs < 2 ^ 64 ∨ j.natAbs < 2 ^ 64 then some (PV.int (i * j)) else none).map VV.p = _
  rw [if_pos (by omega)]; rfl
theorem m_div (i j : Int) (S : Sto) (h : 0 < j ∧ j < 1073741824) : mDiv (.p (.int i)) (.p (.int j)) S = some (.p (.int (i / j))) := by
  show (if 0 < j ∧ j.natAbs < 1073741824 then some (PV.int (i / j)) else none).map VV.p = _
  rw [if_pos (by omega)]; rfl
theorem m_mod (i j : Int) (S : Sto) (h : 0 < j) : mMod (.p (.int i)) (.p (.int j)) S = some (.p (.int (i % j))) := by
  show (if 0 < j then some (PV.int (i % j)) else none).map VV.p = _
  rw [if_pos h]; rfl
theorem d_ltT {i j : Int} (h : i < j) : decide (i < j) = true := decide_eq_true h
theorem d_ltF {i j : Int} (h : j ≤ i) : decide (i < j) = false := decide_eq_false (by omega)
theorem d_leT {i j : Int} (h : i ≤ j) : decide (i ≤ j) = true := decide_eq_true h
theorem d_leF {i j : Int} (h : j < i) : decide (i ≤ j) = false := decide_eq_false (by omega)
theorem i_ltT {α : Type} {i j : Int} {a b : α} (h : i < j) : (if i < j then a else b) = a := if_pos h
theorem i_ltF {α : Type} {i j : Int} {a b : α} (h : j ≤ i) : (if i < j then a else b) = b := if_neg (by omega)
theorem i_gtT {α : Type} {i j : Int} {a b : α} (h : i < j) : (if j > i then a else b) = a := if_pos h
theorem i_gtF {α : Type} {i j : Int} {a b : α} (h : j ≤ i) : (if j > i then a else b) = b := if_neg (by omega)
theorem i_r1 {α : Type} {a b : Nat} {x y : α} (h1 : a < b) : (if a < b then x else y) = x := if_pos h1
theorem i_r2 {α : Type} {a b c d : Nat} {x y : α} (h1 : a < b) (h2 : c < d) : (if a < b ∧ c < d then x else y) = x := if_pos ⟨h1, h2⟩
theorem i_r3 {α : Type} {n : Int} {c d : Nat} {x y : α} (h1 : 0 ≤ n) (h2 : c < d) : (if 0 ≤ n ∧ c < d then x else y) = x := if_pos ⟨h1, h2⟩
theorem b_eqT {i j : Int} (h : i = j) : (i == j) = true := beq_iff_eq.mpr h
theorem b_eqF {i j : Int} (h : i ≠ j) : (i == j) = false := beq_eq_false_iff_ne.mpr h
@[simp] theorem m_lt (i j : Int) (S : Sto) : mLt (.p (.int i)) (.p (.int j)) S = some (.p (.bl (decide (i < j)))) := rfl
@[simp] theorem m_le (i j : Int) (S : Sto) : mLe (.p (.int i)) (.p (.int j)) S = some (.p (.bl (decide (i ≤ j)))) := rfl
@[simp] theorem m_gt (i j : Int) (S : Sto) : mGt (.p (.int i)) (.p (.int j)) S = some (.p (.bl (decide (j < i)))) := rfl
@[simp] theorem m_ge (i j : Int) (S : Sto) : mGe (.p (.int i)) (.p (.int j)) S = some (.p (.bl (decide (j ≤ i)))) := rfl
@[simp] theorem m_eqI (i j : Int) (S : Sto) : mEq (.p (.int i)) (.p (.int j)) S = some (.p (.bl (i == j))) := rfl
@[simp] theorem m_neI (i j : Int) (S : Sto) : mNe (.p (.int i)) (.p (.int j)) S = some (.p (.bl (!(i == j)))) := rfl
@[simp] theorem m_is (v : VV) (S : Sto) : mIs v (.p .non) S = some (.p (.bl (isNon v))) := rfl
@[simp] theorem m_isnot (v : VV) (S : Sto) : mIsNot v (.p .non) S = some (.p (.bl (!isNon v))) := rfl
@[simp] theorem n_non : isNon (.p .non) = true := rfl
@[simp] theorem n_int (i : Int) : isNon (.p (.int i)) = false := rfl
@[simp] theorem m_ix (v : VV) (i : Int) (S : Sto) : mIx v (.p (.int i)) S = seqAt S v i := rfl
@[simp] theorem s_lst (xs : List PV) (i : Int) (S : Sto) : seqAt S (.p (.lst xs)) i = (atI xs i).map .p := rfl
@[simp] theorem s_scr (xs : List PV) (i : Int) (S : Sto) : seqAt S (.p (.scr xs)) i = (atI xs i).map .p := rfl
@[simp] theorem s_tup (xs : List PV) (i : Int) (S : Sto) : seqAt S (.p (.tup xs)) i = (atI xs i).map .p := rfl
theorem s_ob (j : Nat) (i : Int) (S : Sto) (xs : List VV) (h : S[j]? = some (.lst xs)) : seqAt S (.ob j) i = atI xs i := by
  show (match S[j]? with | some (.lst xs) => atI xs i | _ => none) = _
  rw [h]
theorem at_nat {α : Type} (xs : List α) (n : Nat) : atI xs (n : Int) = xs[n]? := by
  unfold atI ixN
  by_cases h : n < xs.length
  · simp [h]
  · simp [h]
@[simp] theorem at_zero {α : Type} (xs : List α) : atI xs 0 = xs[0]? := at_nat xs 0
@[simp] theorem at_lit {α : Type} (xs : List α) (n : Nat) : atI xs (OfNat.ofNat n : Int) = xs[n]? := at_nat xs n
@[simp] theorem l_lst (xs : List PV) (S : Sto) : mLen [.p (.lst xs)] S = some (.p (.int (xs.length : Int))) := rfl
@[simp] theorem l_scr (xs : List PV) (S : Sto) : mLen [.p (.scr xs)] S = some (.p (.int (xs.length : Int))) := rfl
@[simp] theorem l_tup (xs : List PV) (S : Sto) : mLen [.p (.tup xs)] S = some (.p (.int (xs.length : Int))) := rfl
theorem l_ob (i : Nat) (xs : List VV) (S : Sto) (h : S[i]? = some (.lst xs)) : mLen [.ob i] S = some (.p (.int (xs.length : Int))) := by
  unfold mLen mB1 lenOf; simp [h]
@[simp] theorem mb_max2 (i j : Int) (S : Sto) : mMax2 [.p (.int i), .p (.int j)] S = some (.p (.int (if j > i then j else i))) := rfl
@[simp] theorem mb_min2 (i j : Int) (S : Sto) : mMin2 [.p (.int i), .p (.int j)] S = some (.p (.int (if j < i then j else i))) := rfl
@[simp] theorem mb_intI (i : Int) (S : Sto) : mInt [.p (.int i)] S = some (.p (.int i)) := rfl
@[simp] theorem mb_intB (k : Bool) (S : Sto) : mInt [.p (.bl k)] S = some (.p (.int (if k then 1 else 0))) := rfl
@[simp] theorem mb_tupT (xs : List PV) (S : Sto) : mTup [.p (.tup xs)] S = some (.p (.tup xs)) := rfl
@[simp] theorem mb_tupL (xs : List PV) (S : Sto) : mTup [.p (.lst xs)] S = some (.p (.tup xs)) := rfl
@[simp] theorem mb_lstL (xs : List PV) (S : Sto) : mLst [.p (.lst xs)] S = some (.p (.lst xs)) := rfl
@[simp] theorem mb_lstT (xs : List PV) (S : Sto) : mLst [.p (.tup xs)] S = some (.p (.lst xs)) := rfl
@[simp] theorem as_lst (xs : List PV) (S : Sto) : asList S (.p (.lst xs)) = some xs := rfl
@[simp] theorem as_tup (xs : List PV) : asTup (.p (.tup xs)) = some xs := rfl
@[simp] theorem it_lst (xs : List PV) (S : Sto) : lstItems S (.p (.lst xs)) = some (xs.map .p, fun _ => true) := rfl
@[simp] theorem it_scr (xs : List PV) (S : Sto) : lstItems S (.p (.scr xs)) = some (xs.map .p, fun _ => true) := rfl
@[simp] theorem env_nil (nn : Nat) : envOf nn [] = List.replicate nn none := by unfold envOf; simp
@[simp] theorem allP_nil : allP [] = some [] := rfl
@[simp] theorem allP_cons (v : PV) (r : List VV) : allP (.p v :: r) = (allP r).map (v :: ·) := rfl
@[simp] theorem allP_map : ∀ xs : List PV, allP (xs.map .p) = some xs
  | [] => rfl
  | x :: xs => by simp [allP_map xs]
@[simp] theorem part_none (env : En) (S : Sto) (k) : part none env S k = k none S := rfl
@[simp] theorem part_some (m : DE) (env : En) (S : Sto) (k) : part (some m) env S k = (m env S).bind fun v S1 => match v with
  | .p (.int i) => k (some i) S1
  | _ => .no := rfl
@[simp] theorem setAll_nil (env : En) : setAll [] [] env = env := rfl
@[simp] theorem setAll_cons (i : Nat) (is : List Nat) (v : PV) (vs : List PV) (env : En) : setAll (i :: is) (v :: vs) env = setAll is vs (env.set i (some (.p v))) := rfl
theorem lim_of {n : Nat} (h : n ≤ 1000000) : n ≤ LIM := h
@[simp] theorem lim_0 : (0 : Nat) ≤ LIM := Nat.zero_le _
/-- the types told apart -/
@[simp] theorem tg_non (S) : tagOf S (.p .non) = some (.ty "NoneType") := rfl
@[simp] theorem tg_bl (S b) : tagOf S (.p (.bl b)) = some (.ty "bool") := rfl
@[simp] theorem tg_int (S i) : tagOf S (.p (.int i)) = some (.ty "int") := rfl
@[simp] theorem tg_str (S i) : tagOf S (.p (.str i)) = some (.ty "str") := rfl
@[simp] theorem tg_tup (S i) : tagOf S (.p (.tup i)) = some (.ty "tuple") := rfl
@[simp] theorem tg_lst (S i) : tagOf S (.p (.lst i)) = some (.ty "list") := rfl
@[simp] theorem tg_ins (S c i) : tagOf S (.p (.ins c i)) = some (.cls c) := rfl
@[simp] theorem mb_isi (isi) (v u : VV) (S : Sto) : mIsi isi [v, u] S = (tagOf S v).bind fun t => (clsTag u).bind fun c => (isi t c).map fun b => .p (.bl b) := rfl
@[simp] theorem ct_cls (c) : clsTag (.p (.cls c)) = some (.cls c) := rfl
@[simp] theorem ct_ty (c) : clsTag (.p (.ty c)) = some (.ty c) := rfl
theorem kb (a b : String) (r : Option Bool) (h : kitB a b = r := by decide +kernel) : kitB a b = r := h
@[simp] theorem kb1 : kitB "int" "int" = some true := kb _ _ _
@[simp] theorem kb2 : kitB "int" "bool" = some false := kb _ _ _
@[simp] theorem kb3 : kitB "bool" "int" = some true := kb _ _ _
@[simp] theorem kb4 : kitB "bool" "bool" = some true := kb _ _ _
@[simp] theorem kb5 : kitB "NoneType" "int" = some false := kb _ _ _
@[simp] theorem kb6 : kitB "str" "int" = some false := kb _ _ _
@[simp] theorem kb7 : kitB "tuple" "int" = some false := kb _ _ _
@[simp] theorem kb8 : kitB "list" "int" = some false := kb _ _ _
@[simp] theorem kb9 : kitB "tuple" "tuple" = some true := kb _ _ _
@[simp] theorem kb10 : kitB "list" "tuple" = some false := kb _ _ _
@[simp] theorem kb11 : kitB "int" "tuple" = some false := kb _ _ _
@[simp] theorem kb12 : kitB "bool" "tuple" = some false := kb _ _ _
@[simp] theorem kb13 : kitB "str" "tuple" = some false := kb _ _ _
@[simp] theorem kb14 : kitB "NoneType" "tuple" = some false := kb _ _ _
@[simp] theorem kb15 : kitB "str" "str" = some true := kb _ _ _
@[simp] theorem kb16 : kitB "int" "str" = some false := kb _ _ _
@[simp] theorem kb17 : kitB "bool" "str" = some false := kb _ _ _
@[simp] theorem kb18 : kitB "NoneType" "str" = some false := kb _ _ _
@[simp] theorem kb19 : kitB "tuple" "str" = some false := kb _ _ _
@[simp] theorem kb20 : kitB "list" "str" = some false := kb _ _ _

/-! ### a comprehension whose turns each give a value and leave the store -/
theorem compL_map {t : Tg} {tt : DB} {el : DE} {env : En} {S : Sto} (f : VV → PV) : ∀ (xs : List VV) (acc : List PV), (∀ x ∈ xs, ∃ e1, t.put x env = some e1 ∧ tt e1 S = .ok true S ∧ el e1 S = .ok (.p (f x)) S) → acc.length + xs.length ≤ LIM →
    dCompL t tt el (fun _ => true) env xs acc S = .ok (acc ++ xs.map f) S
  | [], acc, _, _ => by simp [dCompL]
  | x :: xs, acc, h, hl => by
    obtain ⟨e1, h1, h2, h3⟩ := h x List.mem_cons_self
    unfold dCompL
    have hlt : acc.length < LIM := by rw [List.length_cons] at hl; omega
    simp only [if_true, h1, h2, h3, if_pos hlt]
    rw [compL_map f xs (acc ++ [f x]) (fun y hy => h y (List.mem_cons_of_mem _ hy)) (by rw [List.length_append]; simp only [List.length_cons, List.length_nil] at hl ⊢; omega)]
    simp
/-- a comprehension, each turn of which may change the store by what P keeps -/
theorem compL_inv {t : Tg} {tt : DB} {el : DE} {env : En} (P : Sto → Prop) (R : PV → Prop) : ∀ (xs : List VV) (acc : List PV) (S : Sto), P S → (∀ x ∈ xs, ∀ S, P S → ∃ e1, t.put x env = some e1 ∧ tt e1 S = .ok true S ∧ ∃ v S2, el e1 S = .ok (.p v) S2 ∧ R v ∧ P S2) → acc.length + xs.length ≤ LIM →
    ∃ vs S2, dCompL t tt el (fun _ => true) env xs acc S = .ok (acc ++ vs) S2 ∧ vs.length = xs.length ∧ (∀ v ∈ vs, R v) ∧ P S2
  | [], acc, S, hP, _, _ => ⟨[], S, by simp [dCompL], rfl, by simp, hP⟩
  | x :: xs, acc, S, hP, h, hl => by
    obtain ⟨e1, h1, h2, v, S2, h3, hR, hP2⟩ := h x List.mem_cons_self S hP
    have hlt : acc.length < LIM := by rw [List.length_cons] at hl; omega
    obtain ⟨vs, S3, e, hl3, hR3, hP3⟩ := compL_inv P R xs (acc ++ [v]) S2 hP2 (fun y hy => h y (List.mem_cons_of_mem _ hy)) (by rw [List.length_append]; simp only [List.length_cons, List.length_nil] at hl ⊢; omega)
    refine ⟨v :: vs, S3, ?_, by simp [hl3], fun u hu => ?_, hP3⟩
    · unfold dCompL
      simp only [if_true, h1, h2, h3, if_pos hlt]
      rw [e]; simp
    · rcases List.mem_cons.mp hu with e | e
      · subst e; exact hR
      · exact hR3 u e
theorem allB_fm {α : Type} (f : α → Bool) : ∀ (xs : List α), allB (xs.map fun x => PV.bl (f x)) = some (xs.map f)
  | [] => rfl
  | x :: xs => by simp [allB, allB_fm f xs]
theorem allI_fm {α : Type} (f : α → Int) : ∀ (xs : List α), allI (xs.map fun x => PV.int (f x)) = some (xs.map f)
  | [] => rfl
  | x :: xs => by simp [allI, allI_fm f xs]
@[simp] theorem allI_ints (xs : List Int) : allI (xs.map .int) = some xs := by
  have := allI_fm (fun x : Int => x) xs; simpa using this
@[simp] theorem sum_lst (xs : List Int) (S : Sto) : mSum [.p (.lst (xs.map .int))] S = some (.p (.int xs.sum)) := by
  simp [mSum, MB.or, mSumL, mSumT, mB1, intsOf]
@[simp] theorem sum_tup (xs : List Int) (S : Sto) : mSum [.p (.tup (xs.map .int))] S = some (.p (.int xs.sum)) := by
  simp [mSum, MB.or, mSumL, mSumT, mB1, intsOf, asList]
theorem all_map {α : Type} (f : α → Bool) (xs : List α) (S : Sto) : mAll [.p (.lst (xs.map fun x => PV.bl (f x)))] S = some (.p (.bl (xs.all f))) := by
  simp [mAll, mB1, allB_fm, List.all_map, Function.comp_def]
/-- two fors, each turn of the outer one giving a row -/
theorem compL2_map {t t1 : Tg} {tt tt1 : DB} {vs1 : List Nat} {it1 : DI} {el : DE} {env : En} {S : Sto} (f : VV → List PV) : ∀ (xs : List VV) (acc : List PV), (∀ x ∈ xs, ∃ e1, t.put x env = some e1 ∧ tt e1 S = .ok true S ∧ ∃ ys kp1, it1 e1 S = .ok ys kp1 S ∧ ∀ acc, acc.length + (f x).length ≤ LIM → dCompL t1 tt1 el kp1 (wipeE e1 vs1) ys acc S = .ok (acc ++ f x) S) → acc.length + (xs.flatMap f).length ≤ LIM →
    dCompL2 t tt vs1 t1 it1 tt1 el (fun _ => true) env xs acc S = .ok (acc ++ xs.flatMap f) S
  | [], acc, _, _ => by simp [dCompL2]
  | x :: xs, acc, h, hl => by
    obtain ⟨e1, h1, h2, ys, kp1, h3, h4⟩ := h x List.mem_cons_self
    rw [List.flatMap_cons, List.length_append] at hl
    unfold dCompL2
    simp only [if_true, h1, h2, h3]
    rw [h4 acc (by omega)]
    simp only []
    rw [compL2_map f xs (acc ++ f x) (fun y hy => h y (List.mem_cons_of_mem _ hy)) (by rw [List.length_append]; omega)]
    simp
@[simp] theorem e_comp2 (vs vs1 : List Nat) (t : Tg) (it : DI) (tt : DB) (t1 : Tg) (it1 : DI) (tt1 : DB) (el : DE) (env : En) (S : Sto) : dComp2 vs vs1 t it tt t1 it1 tt1 el env S = (it env S).bindE fun xs kp S1 => (dCompL2 t tt vs1 t1 it1 tt1 el kp (wipeE env vs) xs [] S1).toE := rfl
/-- a loop, each turn of which goes on: what P says of the names and of the store is kept -/
theorem forL_inv {t : Tg} {kp : Sto → Bool} {body : DS} (P : En → Sto → Prop) (hk : ∀ env S, P env S → kp S = true) : ∀ (xs : List VV) (env : En) (S : Sto), P env S → (∀ x ∈ xs, ∀ env S, P env S → ∃ e1, t.put x env = some e1 ∧ ∃ e2 S2, body e1 S = .nx e2 S2 ∧ P e2 S2) →
    ∃ e2 S2, dForL t kp body xs env S = .nx e2 S2 ∧ P e2 S2
  | [], env, S, hP, _ => ⟨env, S, by simp [dForL, hk env S hP], hP⟩
  | x :: xs, env, S, hP, h => by
    obtain ⟨e1, h1, e2, S2, h2, hP2⟩ := h x List.mem_cons_self env S hP
    obtain ⟨e3, S3, h3, hP3⟩ := forL_inv P hk xs e2 S2 hP2 fun y hy => h y (List.mem_cons_of_mem _ hy)
    refine ⟨e3, S3, ?_, hP3⟩
    unfold dForL
    simp only [hk env S hP, if_true, h1, h2]
    exact h3
@[simp] theorem e_make (c : Nat) (m : DF) (ms : List DE) (ds : List PV) (env : En) (S : Sto) : dMake c m ms ds env S = args ms env S fun vs S1 => (backTo_ S1 (m (.ob S1.length :: (vs ++ ds.map .p)) (S1 ++ [.ins c []]))).bind fun w S2 => match w with
  | .p .non => frzIns S1 S2
  | _ => .no := rfl
@[simp] theorem e_makeS (c : Nat) (m : DF) (ms : List DE) (ds : List PV) (env : En) (S : Sto) : dMakeS c m ms ds env S = args ms env S fun vs S1 => (m (.ob S1.length :: (vs ++ ds.map .p)) (S1 ++ [.ins c []])).bind fun w S2 => match w with
  | .p .non => .ok (.ob S1.length) S2
  | _ => .no := rfl
@[simp] theorem e_setA (c0 : Nat) (f : String) (mo mv : DE) (env : En) (S : Sto) : dSetA c0 f mo mv env S = (mv env S).bindS fun w S1 => (mo env S1).bindS fun o S2 => match o with
  | .ob j => match S2[j]? with
    | some (.ins c fs) => if c = c0 ∧ fs.length < 1000 then .nx env (S2.set j (.ins c (putA f w fs))) else .no
    | _ => .no
  | _ => .no := rfl
@[simp] theorem e_lenO (c : Nat) (m : DF) (mo : DE) (env : En) (S : Sto) : dLenO c m mo env S = (mo env S).bind fun o S1 => match insOf S1 o with
  | some (c', _) => if c' = c then match m [o] S1 with
    | .ok (.p (.int n)) S2 => if 0 ≤ n ∧ n.natAbs < 2 ^ 63 then .ok (.p (.int n)) S2 else .no
    | _ => .no
    else .no
  | none => .no := rfl
@[simp] theorem io_ins (c : Nat) (fs : List (String × PV)) (S : Sto) : insOf S (.p (.ins c fs)) = some (c, fs.map fun q => (q.1, VV.p q.2)) := rfl
@[simp] theorem sl_tup (xs : List PV) (lo hi : Option Int) (S : Sto) : mSlT (.p (.tup xs)) lo hi S = some (.p (.tup (cutP xs lo hi))) := rfl
@[simp] theorem sl_scr (xs : List PV) (lo hi : Option Int) (S : Sto) : mSlL (.p (.scr xs)) lo hi S = some (.p (.lst (cutP xs lo hi))) := rfl
@[simp] theorem sl_lst (xs : List PV) (lo hi : Option Int) (S : Sto) : mSlL (.p (.lst xs)) lo hi S = some (.p (.lst (cutP xs lo hi))) := rfl
theorem cut_map {α β : Type} (f : α → β) (xs : List α) (lo hi : Option Int) : cutP (xs.map f) lo hi = (cutP xs lo hi).map f := by
  unfold cutP; rw [List.length_map, List.map_take, List.map_drop]
/-- the same, counted -/
theorem forL_ix {t : Tg} {kp : Sto → Bool} {body : DS} (P : Nat → En → Sto → Prop) (hk : ∀ i env S, P i env S → kp S = true) : ∀ (xs : List VV) (k : Nat) (env : En) (S : Sto), P k env S → (∀ i x, xs[i]? = some x → ∀ env S, P (k + i) env S → ∃ e1, t.put x env = some e1 ∧ ∃ e2 S2, body e1 S = .nx e2 S2 ∧ P (k + i + 1) e2 S2) →
    ∃ e2 S2, dForL t kp body xs env S = .nx e2 S2 ∧ P (k + xs.length) e2 S2
  | [], k, env, S, hP, _ => ⟨env, S, by simp [dForL, hk k env S hP], hP⟩
  | x :: xs, k, env, S, hP, h => by
    obtain ⟨e1, h1, e2, S2, h2, hP2⟩ := h 0 x rfl env S hP
    obtain ⟨e3, S3, h3, hP3⟩ := forL_ix P hk xs (k + 1) e2 S2 hP2 fun i y hy env S hp => by
      have := h (i + 1) y (by simpa using hy) env S (by rw [show k + (i + 1) = k + 1 + i by omega]; exact hp)
      rw [show k + (i + 1) + 1 = k + 1 + i + 1 by omega] at this
      exact this
    refine ⟨e3, S3, ?_, by rw [List.length_cons, show k + (xs.length + 1) = k + 1 + xs.length by omega]; exact hP3⟩
    unfold dForL
    simp only [hk k env S hP, if_true, h1, h2]
    exact h3
@[simp] theorem e_enT (m : DE) (env : En) (S : Sto) : dEnT m env S = (m env S).bindI fun v S1 => match v with
  | .p (.tup xs) => .ok (numP 0 xs) (fun _ => true) S1
  | _ => .no := rfl
@[simp] theorem e_enL (m : DE) (env : En) (S : Sto) : dEnL m env S = (m env S).bindI fun v S1 => match v with
  | .p (.lst xs) => .ok (numP 0 xs) (fun _ => true) S1
  | _ => .no := rfl
theorem add_lst (xs ys : List PV) (S : Sto) (h : xs.length + ys.length ≤ 1000000) : mAdd (.p (.lst xs)) (.p (.lst ys)) S = some (.p (.lst (xs ++ ys))) := by
  have h : xs.length + ys.length ≤ LIM := h
  simp [mAdd, mCatL, h]
theorem rep2 (x : PV) (S : Sto) : mMulA (.p (.lst [x])) (.p (.int 2)) S = some (.p (.lst [x, x])) := rfl
end Dn

set_option maxRecDepth 100000
namespace Dn
open PySem PySem.Spec PyProof.Rows L2

/-! ### a lambda handed to a def that tries it -/
section
variable {K : PySem.W.Frag} {T : Tab} {g : G} {S : Sto} {H H1 : Hp}
theorem Rs.lam (r : Rs K T g S H) (e : LamX.ExtN H H1) (t : LamX.Tabs T.tb H1) : Rs K T g S H1 :=
  ⟨r.len, r.nd, fun a o h => e a o (r.fz a o h) (fun ps z => r.ntb a ps (by rw [h, z])), r.apart, fun i so a h1 h2 => by
    have q := r.at_ i so a h1 h2
    cases so with
    | lst xs => obtain ⟨vs, k1, k2⟩ := q; exact ⟨vs, e _ _ k1 (fun _ z => by cases z), k2⟩
    | ins c fs => obtain ⟨dx, vs, k1, k2⟩ := q; exact ⟨dx, vs, e _ _ k1 (fun _ z => by cases z), k2⟩
    | tup xs => obtain ⟨vs, k1, k2⟩ := q; exact ⟨vs, e _ _ k1 (fun _ z => by cases z), k2⟩
    | dic t kvs => cases t <;> (obtain ⟨vs, k1, k2⟩ := q; exact ⟨vs, e _ _ k1 (fun _ z => by cases z), k2⟩),
   fun q hq => let ⟨h1, h2, h3⟩ := r.hid q hq; ⟨e _ _ h1 fun ps z => (r.hpl q hq).t ps z, h2, h3⟩, r.hnd, t, r.ntb, r.hpl⟩
end
section
variable {X : Cx} {T : Tab} {E : XK} {e : Expr}
/-- what is never reached -/
def dNo : DE := fun _ _ => .no
theorem r_no : PE X e (tD X.K T E dNo) := ⟨fun pins s σ H Q I ⟨_, _, _, _, _, h⟩ => h.elim⟩
end
/-- what comes of a lambda that is tried: told what it gives, or by FL what its error is -/
def dWord (told : Bool) (FL : Nat → List (String × PV) → Option PV) (m : DE) : DE := fun env S => match m env S with
  | .ok (.p v) S1 => .ok (.p (if told then .tup [.str "told", v] else v)) S1
  | .exc c fs S1 => match FL c fs with
    | some w => .ok (.p w) S1
    | none => .no
  | _ => .no
/-- what the def that reads an error promises -/
def FW (K : PySem.W.Frag) (T : Tab) (CS : Addr) (FL : Nat → List (String × PV) → Option PV) (cls : Value) (d : Option Addr) (H : Hp) (Q : VK) : Prop :=
  PySem.W.exmOne K cls (.ref CS) = some true ∧ ∃ c fs g S w, cls = .ref (T.C c) ∧ Rs K T g S H ∧ Rx K T g fs d ∧ FL c fs = some w ∧ PostE K T E0 g (.ok (.p w) S) Q
/-- the def that reads an error, called where that is handled -/
def FnF (P : Program) (w : World) (K : PySem.W.Frag) (mg : Str → Option Value) (base : Heap) (T : Tab) (CS : Addr) (FL : Nat → List (String × PV) → Option PV) (k : Nat) (f : Addr) : Prop :=
  ∀ (A : Around) (outer : List Env) (s : Shared) (H : Hp) (p : Addr × Obj) (cls : Value) (d : Option Addr) (Q : VK), L2H.RoomH k A → L2H.PinOk outer H s p → Env0 P w K mg base A outer s H → L2.Zc cls d p.2 → (∃ vs, p.2.data = .fields vs) → FW K T CS FL cls d H Q →
    codeAny (model P w) A (.call (.ref f) ⟨[.ref p.1], []⟩) (CR C8.CX0 outer P w H s Q C8.E0) s
section
variable {X : Cx} {T : Tab}
/-- f(e) in the suite of an except clause -/
theorem pe_flag {CS f : Addr} {FL : Nat → List (String × PV) → Option PV} {k i : Nat} {x n : Str} {a : Addr} {oe : Obj} {cls : Value} {d : Option Addr} {pn : List (Addr × Obj)} {p p2 pos : Pos} (F : FnF X.prog X.w X.K X.mg X.base T CS FL k f) (hr : L2H.RoomH k X.A) (hz : L2.Zc cls d oe) (hv : ∃ vs, oe.data = .fields vs)
    (hg : Gl X x) (hm : X.mg x = some (.ref f)) (hk : PySem.W.keepIn X.K (.ref f) = true) (hN : X.N[i]? = some n) (hvis : Vis X.env.scope n) (hdb : (x == ("__debug__" : Str)) = false) (hd : (n == ("__debug__" : Str)) = false) (hcd : (n == ("__classdict__" : Str)) = false)
    (hs1 : starEach [.Name n p2] X.env = (false, eval (.Name n p2) X.env) :: starEach [] X.env) (hpl : (backTo pos (starEach [] X.env)).any (·.1) = false) :
    PE (X.suite a ((a, oe) :: pn)) (.Call (.Name x p) [.Name n p2] [] pos) (fun σ H Q => σ[i]? = some (some (.ref a)) ∧ FW X.K T CS FL cls d H Q) := by
  refine ⟨fun pins s σ H Q I h => ?_⟩
  obtain ⟨h1, h2⟩ := h
  have ha : PA (X.suite a ((a, oe) :: pn)) [.Name n p2] (fun σ H Q => σ[i]? = some (some (.ref a)) ∧ Q [.ref a] H) :=
    (pa_cons (pe_var (X := X.suite a ((a, oe) :: pn)) (pos := p2) (i := i) hN hvis hd hcd) pa_nil hs1).imp fun σ H Q ⟨z1, z2⟩ => ⟨_, z1, z2⟩
  refine wpAny_Call_Name_kw (ld_glob I hg hm ?_ hdb)
  refine PySem.W.callWith_K (h₀ := X.base) I.ok.mod.kin hk (thn (ha.run pos pins s σ H (fun vs H' => vs = [.ref a] ∧ H' = H) I ⟨h1, rfl, rfl⟩) fun us s1 ⟨vs, H2, I1, r, q1, q2⟩ => ⟨I1.kIn, ?_⟩) hs1 hpl
  subst q1; subst q2
  have eu : us = [.ref a] := Vals.ref1 r
  subst eu
  have P1 := I1.pin (a, oe) (List.mem_append_left _ List.mem_cons_self)
  have hpin : L2H.PinOk X.stack H2 s1 (a, oe) := ⟨P1.1, P1.2.1, fun hm => (List.mem_cons.mp (I1.stkSub a hm)).elim P1.2.2.1 P1.2.2.2.1, P1.2.2.2.2⟩
  refine wpAny_call (codeAny_mono (F (X.A.mark (some (.ref a))) X.stack s1 H2 (a, oe) cls d Q ⟨hr.dp, hr.un⟩ hpin I1.env0 hz hv h2) fun r s' hq => ?_)
  cases r with
  | error e => exact (show False from hq).elim
  | ok fl =>
    cases fl with
    | ret u => exact I1.after hq
    | next => exact False.elim hq
    | brk => exact False.elim hq
    | cont => exact False.elim hq
end
/-- what the def that tries makes of the lambda's reading -/
def TTw (K : PySem.W.Frag) (T : Tab) (CS : Addr) (FL : Nat → List (String × PV) → Option PV) (told : Bool) : (XK → Hp → VK → Prop) → Hp → VK → Prop := fun tl H Q =>
  tl (fun cls d H' => FW K T CS FL cls d H' Q) H (fun v H' => if told = true then [V.str (Str.ofString "told"), v].length ≤ sizeLine ∧ ∀ p, H' p = none → Q (.ref p) (upd H' p (.tup [.str (Str.ofString "told"), v])) else Q v H')
theorem takes_len {X : Cx} {W : WX} (t : Takes X W) : Takes X (fun cls d σ H => σ.length = X.N.length → W cls d σ H) := fun u s2 ⟨a, B, sI, pins, σ, H, cls, d, e, I, nb, up, sky, na, os, ag, v⟩ =>
  t u s2 ⟨a, B, sI, pins, σ, H, cls, d, e, I, nb, up, sky, na, os, ag, v I.len⟩
section
variable {X : Cx} {T : Tab}
theorem word_gives {told : Bool} {CS fl g : Addr} {FL : Nat → List (String × PV) → Option PV} {k : Nat} {x a n e y q : Str} {sg : Scope} {cdg : Value} {bt : Expr} {p3 p4 p5 p6 p7 p8 p9 p10 : Pos} {p1 p2 : Pos}
    (F : FnF X.prog X.w X.K X.mg X.base T CS FL k fl) (hr : ∀ s : Shared, L2H.RoomH k (X.A.deeper (envOfC x sg s.heap.objs.size g cdg)))
    (hna : ([a, n] : List Str).Nodup) (hge : sg.names.lookup e = some .globalImplicit) (hme : X.mg e = some (.ref CS)) (hde : (e == ("__debug__" : Str)) = false)
    (hgy : sg.names.lookup y = some .globalImplicit) (hmy : X.mg y = some (.ref fl)) (hky : PySem.W.keepIn X.K (.ref fl) = true) (hdy : (y == ("__debug__" : Str)) = false)
    (hln : sg.names.lookup n = some .local) (hd : (n == ("__debug__" : Str)) = false) (hcd : (n == ("__classdict__" : Str)) = false)
    (hbt : if told = true then ∃ j x1 p11 p12, bt = .Tuple [.Constant (.str "told") j p11, .Call (.Name a p1) [] [] p2] x1 p12 else bt = .Call (.Name a p1) [] [] p2)
    (hs1 : ∀ env : Env, starEach [.Name n p8] env = (false, eval (.Name n p8) env) :: starEach [] env) :
    LamX.GivesTo X [a, n] x sg g cdg [.Try [.Return (some bt) p3] [.ExceptHandler (some (.Name e p4)) (some n) [.Return (some (.Call (.Name y p5) [.Name n p8] [] p6)) p7] p9] [] [] p10] a q (TTw X.K T CS FL told) := by
  intro f c' s H Q tl act hc h
  have hgl : Gl (cxOf C8.CX0 X.prog X.w X.K X.mg X.base [a, n] x sg g cdg X.A X.stack s H C8.E0).nox e := hge
  refine ⟨_, pss_one (ps_try_as (X := (cxOf C8.CX0 X.prog X.w X.K X.mg X.base [a, n] x sg g cdg X.A X.stack s H C8.E0).nox) (c := .ref CS) (i := 1) (n := n)
      (tb := fun W D σ H => ∃ Ech : XK, (∀ cls d σ' H', σ'.length = 2 → Ech cls d H' → W cls d σ' H') ∧ σ[0]? = some (some (.ref f)) ∧ H c' = some (LamX.CodeO c' q) ∧ tl Ech H (fun v H' => if told = true then [V.str (Str.ofString "told"), v].length ≤ sizeLine ∧ ∀ p, H' p = none → D.rt (.ref p) (upd H' p (.tup [.str (Str.ofString "told"), v])) else D.rt v H'))
      (ts := fun a cls d D σ H => σ[1]? = some (some (.ref a)) ∧ FW X.K T CS FL cls d H D.rt)
      rfl rfl hna rfl hln ⟨hgl, hde, .inl hme⟩ LamX.takes0 (fun W pn xe tk _ => ?_) (fun ae oe cls d pn hz hv => ?_)), ?_⟩
  · refine ⟨fun pins s' σ H' D I h' => ?_⟩
    obtain ⟨Ech, hW, h1, h2, h3⟩ := h'
    have hp := act _ pn xe Ech p1 p2 (takes_len tk) fun cls d σ2 H2 z hl => hW cls d σ2 H2 hl z
    cases told with
    | true =>
      have hbt2 : ∃ j x1 p11 p12, bt = .Tuple [.Constant (.str "told") j p11, .Call (.Name a p1) [] [] p2] x1 p12 := by simpa using hbt
      obtain ⟨j, x1, p11, p12, rfl⟩ := hbt2
      refine (pss_one (ps_ret (pos := p3) (pe_tup (pa_cons (pe_str (pos := p11)) (pa_cons hp pa_nil rfl) rfl)))).run pins s' σ H' D I ?_
      simp only [if_true, eq_self] at h3
      exact ⟨h1, h2, h3⟩
    | false =>
      have hbt2 : bt = .Call (.Name a p1) [] [] p2 := by simpa using hbt
      subst hbt2
      exact (pss_one (ps_ret (pos := p3) hp)).run pins s' σ H' D I ⟨h1, h2, by simpa using h3⟩
  · have := pe_flag (X := (cxOf C8.CX0 X.prog X.w X.K X.mg X.base [a, n] x sg g cdg X.A X.stack s H C8.E0).nox) (T := T) (i := 1) (n := n) (a := ae) (pn := pn) (p := p5) (p2 := p8) (pos := p6) F (hr s) hz hv hgy hmy hky rfl (.inl hln) hdy hd hcd (hs1 _) (by rfl)
    exact pss_one (ps_ret this)
  · refine ⟨_, fun cls d σ' H' hl hfw => ⟨true, hfw.1, fun _ b hb => ⟨List.getElem?_set_self (by omega), hfw⟩, fun z => Bool.noConfusion z⟩, rfl, hc, h⟩
end
/-- what stands around a def that tries -/
structure WordE (P : Program) (w : World) (K : PySem.W.Frag) (mg : Str → Option Value) (base : Heap) (T : Tab) (x : Str) (told : Bool) (FL : Nat → List (String × PV) → Option PV) (k : Nat) : Prop where
  ex : ∃ (CS fl g : Addr) (a n e y : Str) (pg : Arguments) (sg : Scope) (bt : Expr) (dV kV doc pm cdv ct oc : Value) (an od : Option Addr) (osl : Array (Option Value)) (p1 p2 p3 p4 p5 p6 p7 p8 p9 p10 : Pos),
    (∀ c fs v, FL c fs = some v → PySem.W.exmOne K (.ref (T.C c)) (.ref CS) = some true) ∧ FnF P w K mg base T CS FL k fl ∧
    mg x = some (.ref g) ∧ PySem.W.keepIn K (.ref g) = true ∧
    K.lookup g = some ⟨oc, od, .func (PySem.W.fnOf x x pg [.Try [.Return (some bt) p3] [.ExceptHandler (some (.Name e p4)) (some n) [.Return (some (.Call (.Name y p5) [.Name n p8] [] p6)) p7] p9] [] [] p10] sg dV kV doc pm an cdv ct), osl⟩ ∧ PySem.W.codeIn K cdv x = true ∧
    L2.Binds K (PySem.W.fnOf x x pg [.Try [.Return (some bt) p3] [.ExceptHandler (some (.Name e p4)) (some n) [.Return (some (.Call (.Name y p5) [.Name n p8] [] p6)) p7] p9] [] [] p10] sg dV kV doc pm an cdv ct) [a] [] ∧ FnScope [a, n] [a] sg ∧ Vis sg a ∧
    sg.names.lookup e = some .globalImplicit ∧ mg e = some (.ref CS) ∧ (e == ("__debug__" : Str)) = false ∧
    sg.names.lookup y = some .globalImplicit ∧ mg y = some (.ref fl) ∧ PySem.W.keepIn K (.ref fl) = true ∧ (y == ("__debug__" : Str)) = false ∧
    sg.names.lookup n = some .local ∧ (n == ("__debug__" : Str)) = false ∧ (n == ("__classdict__" : Str)) = false ∧ (a == ("__debug__" : Str)) = false ∧ (a == ("__classdict__" : Str)) = false ∧
    (if told = true then ∃ j x1 p11 p12, bt = .Tuple [.Constant (.str "told") j p11, .Call (.Name a p1) [] [] p2] x1 p12 else bt = .Call (.Name a p1) [] [] p2) ∧
    (∀ env : Env, starEach [.Name n p8] env = (false, eval (.Name n p8) env) :: starEach [] env)
/-- what a def that makes lambdas must know of its own code object -/
structure LamE (base : Heap) (mg : Str → Option Value) (T : Tab) (code : Value) (q : Str) : Prop where
  ex : ∃ c P, code = .ref c ∧ LamX.TabB base mg c P ∧ (P, q) ∈ T.tb ∧ ∀ p ∈ T.tb, p.1 = P → p.2 = q
section
variable {X : Cx} {T : Tab} {E : XK}
theorem r_word {told : Bool} {x : Str} {FL : Nat → List (String × PV) → Option PV} {k : Nat} {m : DE} {params : Arguments} {body : Expr} {scope : Scope} {p lpos pos : Pos} (W : WordE X.prog X.w X.K X.mg X.base T x told FL k) (LE : LamE X.base X.mg T X.env.code (X.env.qual ++ "<lambda>")) (hr : Room (k + 3) X.A)
    (hbody : ∀ (A : Around) (outer : List Env) (s : Shared) (H : Hp) (E : XK) (f c' : Addr), Room k (A.deeper (LamX.lamEnv X scope s.heap.objs.size f c')) → PE (LamX.lamCx X A outer s H E scope f c') body (tD X.K T E m))
    (hg : Gl X x := by rfl) (L : LamX.LamS X.env.scope scope := by exact LamX.lamS_by (by decide +kernel)) (hdef : defaultsOf params X.env = ([], []) := by rfl)
    (hbind : ∀ (q : Str) (cl : List (Str × Addr)) (pm cv ctv : Value), bindArgs (PySem.W.kla_fn "<lambda>" q params body scope cl pm cv ctv) ⟨[], []⟩ = pure [] := by intros; rfl) (hdb : (x == ("__debug__" : Str)) = false := by decide) :
    PE X (.Call (.Name x p) [.Lambda params body scope lpos] [] pos) (tD X.K T E (dWord told FL m)) := by
  obtain ⟨CS, fl, g, a, n, e, y, pg, sg, bt, dV, kV, doc, pm, cdv, ct, oc, an, od, osl, p1, p2, p3, p4, p5, p6, p7, p8, p9, p10, hEx, F, hm, hk, lk, hcg, hb, Sg, hva, hge, hme, hde, hgy, hmy, hky, hdy, hln, hnd, hncd, had, hacd, hbt, hs1⟩ := W.ex
  obtain ⟨c, P, hcode, TB, hmT, hu⟩ := LE.ex
  have hrf : ∀ s : Shared, L2H.RoomH k (X.A.deeper (envOfC x sg s.heap.objs.size g cdv)) := fun s => (L2H.roomH_of (hr.mono (by omega : k + 1 ≤ k + 3))).deeper _
  refine (LamX.pe_lamcall (T := T.tb) (t := fun E => tD X.K T E m) (k := k) hg hm hk lk hcg hb Sg rfl hva (word_gives F hrf Sg.nd hge hme hde hgy hmy hky hdy hln hnd hncd hbt hs1) TB hcode hmT hu (hr.mono (by omega)) L hdef hbind hbody hdb had hacd).imp fun σ H Q h => ?_
  obtain ⟨gg, env, S, hE, hS, q⟩ := h
  refine ⟨hS.tab, fun H1 eN T1 => ?_⟩
  refine ⟨gg, env, S, hE, hS.lam eN T1, ?_⟩
  unfold dWord at q
  cases hm2 : m env S with
  | no => rw [hm2] at q; exact q
  | exc c2 fs S1 =>
    rw [hm2] at q
    cases hfl : FL c2 fs with
    | none => simp only [hfl] at q; exact q.elim
    | some v =>
      simp only [hfl] at q
      intro g2 d H2 l2 r2 s2
      exact ⟨hEx c2 fs v hfl, c2, fs, g2, S1, v, rfl, s2, r2, hfl, fun g3 z H3 l3 r3 s3 => q g3 z H3 (l2.trans l3) r3 s3⟩
  | ok v S1 =>
    rw [hm2] at q
    cases v with
    | ob i => exact q.elim
    | p v =>
      intro g2 z H2 l2 r2 s2
      cases told with
      | false => exact q g2 z H2 l2 r2 s2
      | true =>
        refine ⟨by show 2 ≤ sizeLine; decide, fun pa hpa => ?_⟩
        obtain ⟨l3, s3⟩ := s2.new hpa (.tup [.str (Str.ofString "told"), z])
        exact q _ (.ref pa) _ (l2.trans l3) ⟨pa, [.str (Str.ofString "told"), z], rfl, (by show upd g2.F pa _ pa = _; exact upd_same), ⟨.str _, _, rfl, rfl, z, _, rfl, Rp.mono X.K T l3.s.F _ _ r2, rfl⟩⟩ s3
end
section
variable {P : Program} {w : World} {K : PySem.W.Frag} {mg : Str → Option Value} {base : Heap} {T : Tab}
/-- a def's body, as it is entered -/
theorem enter_fn {N ps : List Str} {m : DS} {vs : List V} {H : Hp} {Q : VK} {E : XK} (hsp : spD K T ps.length (dFn ps.length N.length m) vs H Q E) : tS K T E m { nx := fun _ H' => Q .non H', rt := Q } (L2.start N vs) H := by
  obtain ⟨hl, g, as, St, rv, rs, p⟩ := hsp
  have hla : as.length = ps.length := by rw [← rv.length]; exact hl
  have q : PostE K T E g (m (envOf N.length as) St).out Q := by
    have z : PostE K T E g (if as.length = ps.length then (m (envOf N.length as) St).out else .no) Q := p
    rw [if_pos hla] at z; exact z
  refine ⟨g, envOf N.length as, St, ⟨?_, fun i v e => ?_⟩, rs, ?_⟩
  · unfold envOf L2.start
    rw [List.length_append, List.length_append, List.length_map, List.length_map, List.length_replicate, List.length_replicate, hla, hl]
  · unfold envOf at e
    have hi : i < as.length := by
      by_cases hi : i < as.length
      · exact hi
      · rw [List.getElem?_append_right (by rw [List.length_map]; omega), List.getElem?_replicate] at e
        split at e <;> cases e
    rw [List.getElem?_append_left (by rw [List.length_map]; exact hi), List.getElem?_map] at e
    cases e1 : as[i]? with
    | none => rw [e1] at e; cases e
    | some u =>
      rw [e1] at e; cases e
      obtain ⟨y, e2, ry⟩ := rv.get e1
      refine ⟨y, ?_, ry⟩
      unfold L2.start
      have hv : i < vs.length := (List.getElem?_eq_some_iff.mp e2).1
      rw [List.getElem?_append_left (by rw [List.length_map]; exact hv), List.getElem?_map, e2]
      rfl
  · revert q
    cases m (envOf N.length as) St with
    | nx e S => exact fun q g' σ' H' l _ s => q g' .non H' l rfl s
    | rt v S => exact fun q => q
    | bk e S => exact fun q => q.elim
    | ct e S => exact fun q => q.elim
    | exc c fs S => exact fun q => q
    | no => exact fun q => q
/-- a def of the text that makes lambdas: its code object is known -/
theorem fn_okC {x qual : Str} {params : Arguments} {body : List Stmt} {scope : Scope} {dvs : List V} {kws : List (Str × V)} {f : Addr} {fd : FuncData} {N ps : List Str} {k np nn : Nat} {m : DS} {cd : Value} (F : FunD K x qual params body scope dvs kws f fd) (hcd : fd.code = cd) (S : FnScope N ps scope) (hnp : ps.length = np) (hnn : N.length = nn)
    (h : ∀ (A : Around) (outer : List Env) (s : Shared) (H : Hp) (E : XK), Room k (cxOf (L2.CX P w) P w K mg base N qual scope f cd A outer s H E).A → Tks (cxOf (L2.CX P w) P w K mg base N qual scope f cd A outer s H E) E →
      PassesOwn (model P w) (cxOf (L2.CX P w) P w K mg base N qual scope f cd A outer s H E).A (cxOf (L2.CX P w) P w K mg base N qual scope f cd A outer s H E).env (cxOf (L2.CX P w) P w K mg base N qual scope f cd A outer s H E).xe →
      (cxOf (L2.CX P w) P w K mg base N qual scope f cd A outer s H E).A.units + 128 < cLine → (cxOf (L2.CX P w) P w K mg base N qual scope f cd A outer s H E).N.Nodup →
      PSs (cxOf (L2.CX P w) P w K mg base N qual scope f cd A outer s H E) body (tS K T E m)) :
    FnOk P w K mg base (L2.CX P w) (k + 1) f fd ps (spD K T np (dFn np nn m)) := by
  subst hnp; subst hnn; subst hcd
  obtain ⟨oc, od, dV, kV, doc, pm, an, cdv, ct, osl, rfl, lk, hc, _, _⟩ := F.ex
  exact fn_of lk hc S (fun vs H Q E h => h.1) fun A outer s H vs Q E hr hsp => ⟨_, h A outer s H E hr (takes_of rfl rfl rfl rfl) (passes_of rfl) (L2.Room.units2 hr) S.nd, enter_fn hsp⟩
end
end Dn

set_option maxRecDepth 100000
namespace Dn
open PySem PySem.Spec PyProof.Rows L2

/-! ### the def that reads an error -/
def Tab.at_ (T : Tab) (a : Addr) : Tab := { T with ex := some a }
mutual
/-- without the exception within -/
def nx : PV → Bool
  | .tup xs => nxL xs
  | .lst xs => nxL xs
  | .scr xs => nxL xs
  | .ins _ fs => nxF fs
  | .exn => false
  | .non => true
  | .bl _ => true
  | .int _ => true
  | .str _ => true
  | .cls _ => true
  | .ty _ => true
  | .dic _ kvs => nxK kvs
def nxK : List (PV × PV) → Bool
  | [] => true
  | (_, x) :: xs => nx x && nxK xs
def nxL : List PV → Bool
  | [] => true
  | x :: xs => nx x && nxL xs
def nxF : List (String × PV) → Bool
  | [] => true
  | (_, x) :: xs => nx x && nxF xs
end
section
variable {K : PySem.W.Frag} {T : Tab} {F : Hp} {o : Addr}
mutual
theorem Rp.ex_ (h : T.ex = none) : ∀ (v : PV) (x : V), Rp K T F v x → Rp K (T.at_ o) F v x ∧ nx v = true
  | .non, _, r => ⟨r, rfl⟩
  | .bl _, _, r => ⟨r, rfl⟩
  | .int _, _, r => ⟨r, rfl⟩
  | .str _, _, r => ⟨r, rfl⟩
  | .tup xs, _, ⟨a, vs, e, q, r⟩ => ⟨⟨a, vs, e, q, (RpL.ex_ h xs vs r).1⟩, (RpL.ex_ h xs vs r).2⟩
  | .lst xs, _, ⟨a, vs, e, q, r⟩ => ⟨⟨a, vs, e, q, (RpL.ex_ h xs vs r).1⟩, (RpL.ex_ h xs vs r).2⟩
  | .scr xs, _, ⟨a, vs, e, q, r⟩ => ⟨⟨a, vs, e, q, (RpL.ex_ h xs vs r).1⟩, (RpL.ex_ h xs vs r).2⟩
  | .ins c fs, _, ⟨a, dx, vs, e, q, r⟩ => ⟨⟨a, dx, vs, e, q, (RpF.ex_ h fs vs r).1⟩, (RpF.ex_ h fs vs r).2⟩
  | .cls _, _, r => ⟨r, rfl⟩
  | .ty _, _, r => ⟨r, rfl⟩
  | .exn, _, ⟨a, e, _⟩ => by rw [h] at e; cases e
  | .dic false kvs, _, ⟨a, vs, e, q, r⟩ => ⟨⟨a, vs, e, q, (RpK.ex_ h kvs vs r).1⟩, (RpK.ex_ h kvs vs r).2⟩
  | .dic true kvs, _, ⟨a, vs, e, q, r⟩ => ⟨⟨a, vs, e, q, (RpT.ex_ h kvs vs r).1⟩, (RpT.ex_ h kvs vs r).2⟩
theorem RpK.ex_ (h : T.ex = none) : ∀ (xs : List (PV × PV)) (vs : List (L2.Key × V)), RpK K T F xs vs → RpK K (T.at_ o) F xs vs ∧ nxK xs = true
  | [], _, r => ⟨r, rfl⟩
  | (n, x) :: xs, _, ⟨q, v, r, e, hk, h1, h2⟩ => ⟨⟨q, v, r, e, hk, (Rp.ex_ h x v h1).1, (RpK.ex_ h xs r h2).1⟩, by rw [nxK, (Rp.ex_ h x v h1).2, (RpK.ex_ h xs r h2).2]; rfl⟩
theorem RpT.ex_ (h : T.ex = none) : ∀ (xs : List (PV × PV)) (vs : List (List L2.Key × V)), RpT K T F xs vs → RpT K (T.at_ o) F xs vs ∧ nxK xs = true
  | [], _, r => ⟨r, rfl⟩
  | (n, x) :: xs, _, ⟨q, v, r, e, hk, h1, h2⟩ => ⟨⟨q, v, r, e, hk, (Rp.ex_ h x v h1).1, (RpT.ex_ h xs r h2).1⟩, by rw [nxK, (Rp.ex_ h x v h1).2, (RpT.ex_ h xs r h2).2]; rfl⟩
theorem RpL.ex_ (h : T.ex = none) : ∀ (xs : List PV) (vs : List V), RpL K T F xs vs → RpL K (T.at_ o) F xs vs ∧ nxL xs = true
  | [], _, r => ⟨r, rfl⟩
  | x :: xs, _, ⟨v, r, e, h1, h2⟩ => ⟨⟨v, r, e, (Rp.ex_ h x v h1).1, (RpL.ex_ h xs r h2).1⟩, by rw [nxL, (Rp.ex_ h x v h1).2, (RpL.ex_ h xs r h2).2]; rfl⟩
theorem RpF.ex_ (h : T.ex = none) : ∀ (xs : List (String × PV)) (vs : List (Str × V)), RpF K T F xs vs → RpF K (T.at_ o) F xs vs ∧ nxF xs = true
  | [], _, r => ⟨r, rfl⟩
  | (n, x) :: xs, _, ⟨v, r, e, h1, h2⟩ => ⟨⟨v, r, e, (Rp.ex_ h x v h1).1, (RpF.ex_ h xs r h2).1⟩, by rw [nxF, (Rp.ex_ h x v h1).2, (RpF.ex_ h xs r h2).2]; rfl⟩
end
mutual
theorem Rp.un : ∀ (v : PV) (x : V), nx v = true → Rp K (T.at_ o) F v x → Rp K T F v x
  | .non, _, _, r => r
  | .bl _, _, _, r => r
  | .int _, _, _, r => r
  | .str _, _, _, r => r
  | .tup xs, _, n, ⟨a, vs, e, q, r⟩ => ⟨a, vs, e, q, RpL.un xs vs n r⟩
  | .lst xs, _, n, ⟨a, vs, e, q, r⟩ => ⟨a, vs, e, q, RpL.un xs vs n r⟩
  | .scr xs, _, n, ⟨a, vs, e, q, r⟩ => ⟨a, vs, e, q, RpL.un xs vs n r⟩
  | .ins c fs, _, n, ⟨a, dx, vs, e, q, r⟩ => ⟨a, dx, vs, e, q, RpF.un fs vs n r⟩
  | .cls _, _, _, r => r
  | .ty _, _, _, r => r
  | .exn, _, n, _ => by cases n
  | .dic false kvs, _, n, ⟨a, vs, e, q, r⟩ => ⟨a, vs, e, q, RpK.un kvs vs n r⟩
  | .dic true kvs, _, n, ⟨a, vs, e, q, r⟩ => ⟨a, vs, e, q, RpT.un kvs vs n r⟩
theorem RpK.un : ∀ (xs : List (PV × PV)) (vs : List (L2.Key × V)), nxK xs = true → RpK K (T.at_ o) F xs vs → RpK K T F xs vs
  | [], _, _, r => r
  | (m, x) :: xs, _, n, ⟨q, v, r, e, hk, h1, h2⟩ => by
    rw [nxK, Bool.and_eq_true] at n
    exact ⟨q, v, r, e, hk, Rp.un x v n.1 h1, RpK.un xs r n.2 h2⟩
theorem RpT.un : ∀ (xs : List (PV × PV)) (vs : List (List L2.Key × V)), nxK xs = true → RpT K (T.at_ o) F xs vs → RpT K T F xs vs
  | [], _, _, r => r
  | (m, x) :: xs, _, n, ⟨q, v, r, e, hk, h1, h2⟩ => by
    rw [nxK, Bool.and_eq_true] at n
    exact ⟨q, v, r, e, hk, Rp.un x v n.1 h1, RpT.un xs r n.2 h2⟩
theorem RpL.un : ∀ (xs : List PV) (vs : List V), nxL xs = true → RpL K (T.at_ o) F xs vs → RpL K T F xs vs
  | [], _, _, r => r
  | x :: xs, _, n, ⟨v, r, e, h1, h2⟩ => by
    rw [nxL, Bool.and_eq_true] at n
    exact ⟨v, r, e, Rp.un x v n.1 h1, RpL.un xs r n.2 h2⟩
theorem RpF.un : ∀ (xs : List (String × PV)) (vs : List (Str × V)), nxF xs = true → RpF K (T.at_ o) F xs vs → RpF K T F xs vs
  | [], _, _, r => r
  | (m, x) :: xs, _, n, ⟨v, r, e, h1, h2⟩ => by
    rw [nxF, Bool.and_eq_true] at n
    exact ⟨v, r, e, Rp.un x v n.1 h1, RpF.un xs r n.2 h2⟩
end
end
def nxV : VV → Bool
  | .p v => nx v
  | .ob _ => true
section
variable {K : PySem.W.Frag} {T : Tab} {g : G} {o : Addr} {S : Sto} {H : Hp}
theorem Rv.ex_ (h : T.ex = none) : ∀ (v : VV) (x : V), Rv K T g v x → Rv K (T.at_ o) g v x ∧ nxV v = true
  | .p v, x, r => Rp.ex_ h v x r
  | .ob i, _, r => ⟨r, rfl⟩
theorem Rv.un : ∀ (v : VV) (x : V), nxV v = true → Rv K (T.at_ o) g v x → Rv K T g v x
  | .p v, x, n, r => Rp.un v x n r
  | .ob i, _, _, r => r
theorem RvL.ex_ (h : T.ex = none) : ∀ (xs : List VV) (vs : List V), RvL K T g xs vs → RvL K (T.at_ o) g xs vs ∧ ∀ v ∈ xs, nxV v = true
  | [], _, r => ⟨r, by simp⟩
  | x :: xs, _, ⟨v, r, e, h1, h2⟩ => ⟨⟨v, r, e, (Rv.ex_ h x v h1).1, (RvL.ex_ h xs r h2).1⟩, fun u hu => by
      rcases List.mem_cons.mp hu with z | z
      · rw [z]; exact (Rv.ex_ (o := o) h x v h1).2
      · exact (RvL.ex_ h xs r h2).2 u z⟩
theorem RvF.ex_ (h : T.ex = none) : ∀ (xs : List (String × VV)) (vs : List (Str × V)), RvF K T g xs vs → RvF K (T.at_ o) g xs vs ∧ ∀ v ∈ xs, nxV v.2 = true
  | [], _, r => ⟨r, by simp⟩
  | (n, x) :: xs, _, ⟨v, r, e, h1, h2⟩ => ⟨⟨v, r, e, (Rv.ex_ h x v h1).1, (RvF.ex_ h xs r h2).1⟩, fun u hu => by
      rcases List.mem_cons.mp hu with z | z
      · rw [z]; exact (Rv.ex_ (o := o) h x v h1).2
      · exact (RvF.ex_ h xs r h2).2 u z⟩
theorem RvL.un : ∀ (xs : List VV) (vs : List V), (∀ v ∈ xs, nxV v = true) → RvL K (T.at_ o) g xs vs → RvL K T g xs vs
  | [], _, _, r => r
  | x :: xs, _, n, ⟨v, r, e, h1, h2⟩ => ⟨v, r, e, Rv.un x v (n x List.mem_cons_self) h1, RvL.un xs r (fun u hu => n u (List.mem_cons_of_mem _ hu)) h2⟩
theorem RvF.un : ∀ (xs : List (String × VV)) (vs : List (Str × V)), (∀ v ∈ xs, nxV v.2 = true) → RvF K (T.at_ o) g xs vs → RvF K T g xs vs
  | [], _, _, r => r
  | (m, x) :: xs, _, n, ⟨v, r, e, h1, h2⟩ => ⟨v, r, e, Rv.un x v (n (m, x) List.mem_cons_self) h1, RvF.un xs r (fun u hu => n u (List.mem_cons_of_mem _ hu)) h2⟩
theorem RvK.ex_ (h : T.ex = none) : ∀ (xs : List (PV × VV)) (vs : List (L2.Key × V)), RvK K T g xs vs → RvK K (T.at_ o) g xs vs ∧ ∀ v ∈ xs, nxV v.2 = true
  | [], _, r => ⟨r, by simp⟩
  | (n, x) :: xs, _, ⟨q, v, r, e, hk, h1, h2⟩ => ⟨⟨q, v, r, e, hk, (Rv.ex_ h x v h1).1, (RvK.ex_ h xs r h2).1⟩, fun u hu => by
      rcases List.mem_cons.mp hu with z | z
      · rw [z]; exact (Rv.ex_ (o := o) h x v h1).2
      · exact (RvK.ex_ h xs r h2).2 u z⟩
theorem RvT.ex_ (h : T.ex = none) : ∀ (xs : List (PV × VV)) (vs : List (List L2.Key × V)), RvT K T g xs vs → RvT K (T.at_ o) g xs vs ∧ ∀ v ∈ xs, nxV v.2 = true
  | [], _, r => ⟨r, by simp⟩
  | (n, x) :: xs, _, ⟨q, v, r, e, hk, h1, h2⟩ => ⟨⟨q, v, r, e, hk, (Rv.ex_ h x v h1).1, (RvT.ex_ h xs r h2).1⟩, fun u hu => by
      rcases List.mem_cons.mp hu with z | z
      · rw [z]; exact (Rv.ex_ (o := o) h x v h1).2
      · exact (RvT.ex_ h xs r h2).2 u z⟩
theorem RvK.un : ∀ (xs : List (PV × VV)) (vs : List (L2.Key × V)), (∀ v ∈ xs, nxV v.2 = true) → RvK K (T.at_ o) g xs vs → RvK K T g xs vs
  | [], _, _, r => r
  | (m, x) :: xs, _, n, ⟨q, v, r, e, hk, h1, h2⟩ => ⟨q, v, r, e, hk, Rv.un x v (n (m, x) List.mem_cons_self) h1, RvK.un xs r (fun u hu => n u (List.mem_cons_of_mem _ hu)) h2⟩
theorem RvT.un : ∀ (xs : List (PV × VV)) (vs : List (List L2.Key × V)), (∀ v ∈ xs, nxV v.2 = true) → RvT K (T.at_ o) g xs vs → RvT K T g xs vs
  | [], _, _, r => r
  | (m, x) :: xs, _, n, ⟨q, v, r, e, hk, h1, h2⟩ => ⟨q, v, r, e, hk, Rv.un x v (n (m, x) List.mem_cons_self) h1, RvT.un xs r (fun u hu => n u (List.mem_cons_of_mem _ hu)) h2⟩
def nxS : SO → Prop
  | .lst xs => ∀ v ∈ xs, nxV v = true
  | .ins _ fs => ∀ v ∈ fs, nxV v.2 = true
  | .tup xs => ∀ v ∈ xs, nxV v = true
  | .dic _ kvs => ∀ v ∈ kvs, nxV v.2 = true
theorem Ro.ex_ (h : T.ex = none) {a : Addr} : ∀ (so : SO), Ro K T g H a so → Ro K (T.at_ o) g H a so ∧ nxS so
  | .lst xs, ⟨vs, e, r⟩ => ⟨⟨vs, e, (RvL.ex_ h xs vs r).1⟩, (RvL.ex_ (o := o) h xs vs r).2⟩
  | .ins c fs, ⟨dx, vs, e, r⟩ => ⟨⟨dx, vs, e, (RvF.ex_ h fs vs r).1⟩, (RvF.ex_ (o := o) h fs vs r).2⟩
  | .tup xs, ⟨vs, e, r⟩ => ⟨⟨vs, e, (RvL.ex_ h xs vs r).1⟩, (RvL.ex_ (o := o) h xs vs r).2⟩
  | .dic false kvs, ⟨vs, e, r⟩ => ⟨⟨vs, e, (RvK.ex_ h kvs vs r).1⟩, (RvK.ex_ (o := o) h kvs vs r).2⟩
  | .dic true kvs, ⟨vs, e, r⟩ => ⟨⟨vs, e, (RvT.ex_ h kvs vs r).1⟩, (RvT.ex_ (o := o) h kvs vs r).2⟩
theorem Ro.un {a : Addr} : ∀ (so : SO), nxS so → Ro K (T.at_ o) g H a so → Ro K T g H a so
  | .lst xs, n, ⟨vs, e, r⟩ => ⟨vs, e, RvL.un xs vs n r⟩
  | .ins c fs, n, ⟨dx, vs, e, r⟩ => ⟨dx, vs, e, RvF.un fs vs n r⟩
  | .tup xs, n, ⟨vs, e, r⟩ => ⟨vs, e, RvL.un xs vs n r⟩
  | .dic false kvs, n, ⟨vs, e, r⟩ => ⟨vs, e, RvK.un kvs vs n r⟩
  | .dic true kvs, n, ⟨vs, e, r⟩ => ⟨vs, e, RvT.un kvs vs n r⟩
theorem Rs.ex_ (h : T.ex = none) (r : Rs K T g S H) : Rs K (T.at_ o) g S H ∧ ∀ so ∈ S, nxS so := by
  refine ⟨⟨r.len, r.nd, r.fz, r.apart, fun i so a h1 h2 => (Ro.ex_ h so (r.at_ i so a h1 h2)).1, r.hid, r.hnd, r.tab, r.ntb, r.hpl⟩, fun so hso => ?_⟩
  obtain ⟨i, hi, e⟩ := List.getElem_of_mem hso
  have hg : i < g.f.length := by rw [← r.len]; exact hi
  exact (Ro.ex_ (o := o) h so (r.at_ i so g.f[i] (by rw [List.getElem?_eq_getElem hi, e]) (List.getElem?_eq_getElem hg))).2
theorem Rs.un (n : ∀ so ∈ S, nxS so) (r : Rs K (T.at_ o) g S H) : Rs K T g S H :=
  ⟨r.len, r.nd, r.fz, r.apart, fun i so a h1 h2 => Ro.un so (n so (List.mem_of_getElem? h1)) (r.at_ i so a h1 h2), r.hid, r.hnd, r.tab, r.ntb, r.hpl⟩
end
section
variable {P : Program} {w : World} {K : PySem.W.Frag} {mg : Str → Option Value} {base : Heap} {T : Tab}
/-- the def that reads an error, by its body -/
theorem flag_fn {CS f : Addr} {FL : Nat → List (String × PV) → Option PV} {k : Nat} {y e : Str} {pf : Arguments} {bf : List Stmt} {sf : Scope} {dV kV doc pm cdv ct oc : Value} {an od : Option Addr} {osl : Array (Option Value)} {N : List Str} {m : Nat → List (String × PV) → DS}
    (lk : K.lookup f = some ⟨oc, od, .func (PySem.W.fnOf y y pf bf sf dV kV doc pm an cdv ct), osl⟩) (hcd : PySem.W.codeIn K cdv y = true) (Sf : FnScope N [e] sf) (hex : T.ex = none)
    (hb : ∀ (s : Shared) (u : Value), BindsTo s (PySem.W.fnOf y y pf bf sf dV kV doc pm an cdv ct) ⟨[u], []⟩ ([e].zip [u]))
    (hFL : ∀ c fs v, FL c fs = some v → nx v = true ∧ ∀ S, (m c fs (envOf N.length [.p .exn]) S).out = .ok (.p v) S)
    (hbody : ∀ (c : Nat) (fs : List (String × PV)) (A : Around) (outer : List Env) (s : Shared) (H : Hp) (p : Addr × Obj) (d : Option Addr), L2H.RoomH k (A.deeper (envOfC y sf s.heap.objs.size f cdv)) → L2.Zc (.ref (T.C c)) d p.2 → (∃ vs, p.2.data = .fields vs) → (fs = [] → d = none) → FL c fs ≠ none →
      PSs (L2H.cxH C8.CX0 P w K mg base N y sf f cdv A outer s H C8.E0 p) bf (tS K (T.at_ p.1) E0 (m c fs))) : FnF P w K mg base T CS FL (k + 1) f := by
  intro A outer s H p cls d Q hr hpin e0 hz hv ⟨_, c, fs, g, S, v, ecls, rs, rx, hfl, post⟩
  subst ecls
  obtain ⟨hnx, hm⟩ := hFL c fs v hfl
  have KX : K.In s.heap := e0.mod.kin.keeps fun b u z => (e0.bs b u z).1
  have noLim : s.heap.NoLimit := e0.mod.nolimit.keeps fun b u z => (e0.bs b u z).1
  have kinds : ∀ z ∈ [e].zip [Value.ref p.1], sf.names.lookup z.1 = some .local ∨ (sf.names.lookup z.1 = some .cell ∧ ((cellsFrom (s.heap.objs.size + 1) sf.names []).lookup z.1).isSome = true) := fun ⟨n, u⟩ hz => by
    rcases Sf.par n (List.of_mem_zip hz).1 with z | z
    · exact .inl z
    · exact .inr ⟨z, PySem.W.cellsFrom_some _ _ _ (.inl z)⟩
  refine codeAny_call_function hr.depth (KX _ _ lk) rfl Sf.co Sf.gen rfl (PySem.W.codeRec_of KX hcd) (hb s (.ref p.1) _ _ _ _ ?_)
  refine wpAny_newFunctionEnv_cells Sf.kind kinds fun env he s2 x => ?_
  subst he
  refine ⟨noLim.keeps x.toInCall.keep, codeAny_func ?_⟩
  have I : Inv (L2H.cxH C8.CX0 P w K mg base N y sf f cdv A outer s H C8.E0 p) [] (L2.start N [.ref p.1]) H s2 := L2H.inv_startH (us := [.ref p.1]) (vs := [.ref p.1]) (ps := [e]) Sf hpin e0 rfl (.cons rfl .nil) x
  obtain ⟨rs2, hn⟩ := rs.ex_ (o := p.1) hex
  have hl : 1 ≤ N.length := by have := congrArg List.length Sf.pre; rw [List.length_take] at this; simp at this; omega
  have start : tS K (T.at_ p.1) E0 (m c fs) { nx := fun _ H' => Q .non H', rt := Q } (L2.start N [.ref p.1]) H := by
    refine ⟨g, envOf N.length [.p .exn], S, ⟨?_, fun i u z => ?_⟩, rs2, ?_⟩
    · unfold envOf L2.start
      simp
    · unfold envOf at z
      cases i with
      | zero =>
        simp at z
        subst z
        exact ⟨.ref p.1, by unfold L2.start; simp, p.1, rfl, rfl⟩
      | succ i =>
        simp only [List.map_cons, List.map_nil, List.singleton_append, List.getElem?_cons_succ, List.getElem?_replicate] at z
        split at z <;> cases z
    · have q := hm S
      revert q
      cases m c fs (envOf N.length [.p .exn]) S with
      | rt u S2 =>
        intro q
        have q : RE.ok u S2 = .ok (.p v) S := q
        cases q
        exact fun g2 x H2 l r s3 => post g2 x H2 l (Rp.un v x hnx r) (s3.un hn)
      | nx e S2 =>
        intro q
        have q : RE.ok (.p .non) S2 = .ok (.p v) S := q
        cases q
        exact fun g2 σ2 H2 l _ s3 => post g2 .non H2 l rfl (s3.un hn)
      | bk e S2 => intro q; cases q
      | ct e S2 => intro q; cases q
      | exc c2 fs2 S2 => intro q; cases q
      | no => intro q; cases q
  refine wpAny_mono ((hbody c fs A outer s H p d (hr.deeper _) hz hv (fun z => by
      rcases rx with rx | ⟨n, _⟩
      · exact rx.2
      · exact absurd z n) (by rw [hfl]; simp)).run [] s2 _ H _ I start) (fun fl s3 hs => ?_) fun e s3 hs => hs
  have fin : ∀ {σ2 : L2.St} {H2 : Hp} {x : V} {u : Value}, Inv (L2H.cxH C8.CX0 P w K mg base N y sf f cdv A outer s H C8.E0 p) [] σ2 H2 s3 → L2.RelV x u → Q x H2 → CE outer P w H s Q u s3 :=
    fun {σ2 H2 x u} J rv q => ⟨x, H2, J.os, J.bare, J.base, J.hok, rv, q⟩
  cases fl with
  | ret u =>
    obtain ⟨x, σ2, H2, J, rv, q⟩ := hs
    exact fin J rv q
  | next =>
    obtain ⟨σ2, H2, J, q⟩ := hs
    exact fin (x := V.non) (u := Value.none) J rfl q
  | brk =>
    obtain ⟨_, _, _, q⟩ := hs
    exact False.elim q
  | cont =>
    obtain ⟨_, _, _, q⟩ := hs
    exact False.elim q
end
/-! ### isinstance of the error -/
structure IsEOk (K : PySem.W.Frag) (T : Tab) (isE : Nat → Tt → Option Bool) : Prop where
  kit : ∀ c t b, isE c t = some b → PySem.W.kitOne K (.ref (T.C c)) (t.v T) = some b
  exc : ∀ c t b, isE c t = some b → ExcC K (T.C c)
/-- of one class, of a tuple of classes -/
def anyE (isE : Nat → Tt → Option Bool) (c : Nat) : List PV → Option Bool
  | [] => some false
  | u :: us => (clsTag (.p u)).bind fun t => (isE c t).bind fun b => (anyE isE c us).map fun r => b || r
def mIsE (isE : Nat → Tt → Option Bool) (c : Nat) : MB := mB2 fun v u _ => match v with
  | .p .exn => match u with
    | .p (.tup us) => if us = [] then none else (anyE isE c us).map fun b => .p (.bl b)
    | u => (clsTag u).bind fun t => (isE c t).map fun b => .p (.bl b)
  | _ => none
section
variable {X : Cx} {T : Tab}
theorem anyE_kit {K : PySem.W.Frag} {T : Tab} {isE : Nat → Tt → Option Bool} {c : Nat} {F : Hp} (hi : IsEOk K T isE) : ∀ (us : List PV) (cs : List V) (b : Bool), anyE isE c us = some b → RpL K T F us cs → ∃ vs : List Value, Paired ClsV cs vs ∧ PySem.W.kitAny K (.ref (T.C c)) vs = some b
  | [], _, b, e, r => by
    cases r
    cases e
    exact ⟨[], .nil, kitAny_nil⟩
  | u :: us, _, b, e, ⟨y, cs, ec, h1, h2⟩ => by
    subst ec
    unfold anyE at e
    cases e1 : clsTag (.p u) with
    | none => rw [e1] at e; cases e
    | some t =>
      cases e2 : isE c t with
      | none => simp only [e1, e2, Option.bind_some, Option.bind_none] at e; cases e
      | some b1 =>
        cases e3 : anyE isE c us with
        | none => simp only [e1, e2, e3, Option.bind_some, Option.map_none] at e; cases e
        | some b2 =>
          simp only [e1, e2, e3, Option.bind_some, Option.map_some, Option.some.injEq] at e
          obtain ⟨vs, k1, k2⟩ := anyE_kit hi us cs b2 e3 h2
          have q : ClsV y (t.v T) := cls_v (g := ⟨F, [], []⟩) e1 h1
          refine ⟨t.v T :: vs, .cons q k1, kitAny_cons (hi.kit c t b1 e2) (fun z => ?_) fun z => ?_⟩
          · subst z; rw [← e]; simpa using k2
          · subst z; rw [← e]; rfl
theorem b_isE {isE : Nat → Tt → Option Bool} {c : Nat} {a : Addr} {oe : Obj} (hpn : (a, oe) ∈ X.pn) (hz : L2.Zc (.ref (T.C c)) none oe) (hv : ∃ vs, oe.data = .fields vs) (hi : IsEOk X.K T isE) : BiM X (T.at_ a) (.builtin "isinstance") (mIsE isE c) := by
  intro pins s σ H xs us Q I r ⟨g, vs, S, rv, rs, p⟩
  unfold mIsE mB2 at p
  split at p
  · rename_i v u
    obtain ⟨x, y, rfl, r1, r2⟩ := rv.two
    obtain ⟨u1, u2, rfl, w1, w2⟩ := vals2 r
    dsimp only at p
    split at p
    · obtain ⟨b0, eb, rfl⟩ := r1
      have eb : some a = some b0 := eb
      cases eb
      have e1 : u1 = .ref a := w1
      subst e1
      obtain ⟨hget, _⟩ := I.pin (a, oe) (List.mem_append.mpr (.inl hpn))
      obtain ⟨ws, hw⟩ := hv
      have J : PySem.W.InstAt s.heap a oe (T.C c) none := by
        obtain ⟨oc, od, oda, osl⟩ := oe
        obtain ⟨h1, h2⟩ := hz
        have h1 : oc = .ref (T.C c) := h1
        have h2 : od = none := h2
        have hw : oda = .fields ws := hw
        subst h1; subst h2; subst hw
        exact ⟨hget, rfl, rfl, trivial⟩
      have kx := fun (C : ExcC X.K (T.C c)) => PySem.W.handS_kitx_exc (x := a) (ox := oe) C.hg C.hk C.hs C.hd C.ha C.hn C.ht C.hm
      split at p
      · rename_i ts
        split at p
        · exact p.elim
        · rename_i hne
          cases e : anyE isE c ts with
          | none => rw [e] at p; exact p.elim
          | some b =>
            rw [e] at p
            obtain ⟨ad, cs, rfl, h1, h2⟩ := r2
            have e5 : u2 = .ref ad := w2
            subst e5
            obtain ⟨ks, k1, k2⟩ := anyE_kit (T := T.at_ a) (c := c) (F := g.F) ⟨hi.kit, hi.exc⟩ ts cs b e h2
            obtain ⟨its, rv2, ⟨o, o1, o2, n, o3⟩, _⟩ := I.tuple (SqT.up rs.fz (.inl (.inl h1)))
            have e6 := ClsV.all k1 rv2
            subst e6
            obtain ⟨oc, od, dt, sl⟩ := o
            have o2 : oc = .type "tuple" := o2
            have o3 : dt = .seq its.toArray n := o3
            subst o2; subst o3
            have C : ExcC X.K (T.C c) := by
              cases ts with
              | nil => exact absurd rfl hne
              | cons t0 ts =>
                unfold anyE at e
                cases f1 : clsTag (.p t0) with
                | none => rw [f1] at e; cases e
                | some tt =>
                  cases f2 : isE c tt with
                  | none => simp only [f1, f2, Option.bind_some, Option.bind_none] at e; cases e
                  | some bb => exact hi.exc c tt bb f2
            exact PySem.W.kia_tup (kx C) I.kIn J o1 k2 (fun z => nomatch z) fun tk => ⟨.bl b, H, I.kept (t' := tk) fun _ _ z => z, rfl, p.val rfl rs⟩
      · cases e2 : clsTag u with
        | none => rw [e2] at p; exact p.elim
        | some t =>
          cases e3 : isE c t with
          | none => simp only [e2, e3, Option.bind_some, Option.map_none] at p; exact p.elim
          | some b =>
            simp only [e2, e3, Option.bind_some, Option.map_some] at p
            have q : ClsV y (t.v (T.at_ a)) := cls_v e2 r2
            have e4 := q.eq w2
            subst e4
            exact PySem.W.kia_one (kx (hi.exc c t b e3)) I.kIn J (hi.kit c t b e3) (fun z => nomatch z) fun tk => ⟨.bl b, H, I.kept (t' := tk) fun _ _ z => z, rfl, p.val rfl rs⟩
    · exact p.elim
  · exact p.elim
end
end Dn

set_option maxRecDepth 100000
namespace Dn
open PySem PySem.Spec PyProof.Rows L2

/-! ### methods of lists that only read -/
def rCntF (K : PySem.W.Frag) : V → List V → Hp → VK → Prop := fun x xs H Q => ∃ (p : Addr) (ys : List V) (y : V), x = .ref p ∧ xs = [y] ∧ SqL K H p ys ∧ flatV y = true ∧ ys.all flatV = true ∧ Q (.int ((ys.countP fun z => eqV z y : Nat) : Int)) H
theorem cnt_flat {y : V} {uy : Value} : ∀ {ys : List V} {us : List Value}, Vals ys us → ys.all flatV = true → us.countP (eqU y) = ys.countP fun z => eqV z y
  | _, _, .nil, _ => rfl
  | z :: ys, u :: us, .cons r t, f => by
    rw [List.all_cons, Bool.and_eq_true] at f
    rw [List.countP_cons, List.countP_cons, cnt_flat (uy := uy) t f.2, eqU_of r f.1]
section
variable {X : Cx} {T : Tab} {E : XK}
theorem mt_countF : MtR X "list.count" (rCntF X.K) := by
  intro pins s σ H x xs v us Q I rx rxs h
  obtain ⟨p, ys, y, rfl, rfl, hs, fy, fys, q⟩ := h
  cases rx
  obtain ⟨u, rfl, ru⟩ := rxs.one
  obtain ⟨its, rv, ⟨⟨cl, dd, dat, sl⟩, n, ho, hc, _, hd⟩, _⟩ := I.list hs
  have hc : cl = .type "list" := hc
  have hd : dat = .seq its.toArray n := hd
  subst hc; subst hd
  refine call_meets PySem.F.slot_list_count ⟨_, ho, rfl⟩ PySem.F.entry_list_count (PySem.F.args_list_count_2 _ _) (SeqAt.list_countAt p its.toArray n dd sl u (eqU y)) ⟨ho, fun z hz => mem_eqAt ru fy rv fys z (by simpa using hz), ?_⟩
  refine ⟨.int ((ys.countP fun z => eqV z y : Nat) : Int), H, I.tok _, ⟨s.toks, ?_⟩, q⟩
  rw [← cnt_flat (uy := u) rv fys]
def flatP : PV → Bool
  | .non => true
  | .bl _ => true
  | .int _ => true
  | .str _ => true
  | _ => false
def eqP : PV → PV → Bool
  | .non, .non => true
  | .bl a, .bl b => a == b
  | .bl a, .int b => (if a then 1 else 0) == b
  | .int a, .bl b => a == (if b then 1 else 0)
  | .int a, .int b => a == b
  | .str a, .str b => a == b
  | _, _ => false
theorem flat_V {K : PySem.W.Frag} {T : Tab} {F : Hp} : ∀ {v : PV} {x : V}, flatP v = true → Rp K T F v x → flatV x = true ∧ ∀ {u : PV} {y : V}, flatP u = true → Rp K T F u y → eqV x y = eqP v u := by
  intro v x hv r
  cases v <;> first | cases hv | skip
  all_goals
    cases r
    refine ⟨rfl, fun {u y} hu q => ?_⟩
    cases u <;> first | (cases hu; done) | (cases q; rfl)
theorem flat_L {K : PySem.W.Frag} {T : Tab} {F : Hp} : ∀ {xs : List PV} {vs : List V}, xs.all flatP = true → RpL K T F xs vs → vs.all flatV = true ∧ ∀ {u : PV} {y : V}, flatP u = true → Rp K T F u y → (vs.countP fun z => eqV z y) = xs.countP fun z => eqP z u
  | [], _, _, r => by cases r; exact ⟨rfl, fun _ _ => rfl⟩
  | x :: xs, _, h, ⟨v, vs, e, h1, h2⟩ => by
    subst e
    rw [List.all_cons, Bool.and_eq_true] at h
    obtain ⟨a1, a2⟩ := flat_V h.1 h1
    obtain ⟨b1, b2⟩ := flat_L h.2 h2
    refine ⟨by rw [List.all_cons, a1, b1]; rfl, fun hu q => ?_⟩
    rw [List.countP_cons, List.countP_cons, b2 hu q, a2 hu q]
end
section
variable {X : Cx} {T : Tab} {E : XK} {e o : Expr} {mo me : DE}
/-- a list's method of one argument that only reads -/
def dLm (k : VV → VV → Sto → Option VV) (mo me : DE) : DE := fun env S => (mo env S).bind fun l S1 => if (asList S1 l).isSome then (me env S1).bind fun v S2 => RE.of S2 (k l v S2) else .no
theorem r_lm {k : VV → VV → Sto → Option VV} {id : String} {name : Str} {r : V → List V → Hp → VK → Prop} {apos cpos : Pos} (slot : Slot "list" name id) (hty : typeOf (.builtin id) = pure (.type "method_descriptor")) (hm : MtR X id r)
    (hk : ∀ g l v S x y H w Q, k l v S = some w → Rv X.K T g l x → Rv X.K T g v y → Rs X.K T g S H → PostE X.K T E g (.ok w S) Q → r x [y] H Q) (ho : PE X o (tD X.K T E mo)) (he : PE X e (tD X.K T E me))
    (hbase : attributeBase o name X.env (eval o X.env) = eval o X.env := by rfl)
    (hfew : ((backTo cpos (starEach [e] X.env)).all (fun x => !x.1) && (backToKw cpos (keywordEach [] X.env)).all (fun x => x.1.isSome) && decide ([e].length + ([] : List Keyword).length + (if ([] : List Keyword).isEmpty then 0 else 1) < 30)) = true := by rfl)
    (hline : (apos.endLine == cpos.line) = true := by rfl) (hs : starEach [e] X.env = (false, eval e X.env) :: starEach [] X.env := by rfl) :
    PE X (.Call (.Attribute o name apos) [e] [] cpos) (tD X.K T E (dLm k mo me)) :=
  (pe_bm PySem.F.plainAttrs_list slot hty hm ho (pa_cons he pa_nil hs) hbase hfew hline hs (by rfl)).imp fun σ H Q ⟨g, env, S, hE, hS, h⟩ => by
    refine ⟨g, env, S, hE, hS, ?_⟩
    have p := PostE.bind h
    revert p
    cases mo env S with
    | no => exact fun p => p
    | exc c fs S1 => exact fun p => p
    | ok v S1 =>
      intro p g1 x H1 l1 r1 s1
      obtain ⟨g2, v2, S2, l2, rv, rs, q⟩ := p g1 x H1 l1 r1 s1
      cases e1 : asList S2 v2 with
      | none => rw [e1] at q; exact q.elim
      | some xs =>
        rw [e1] at q
        have q : PostE X.K T E g2 ((me env S2).bind fun v S3 => RE.of S3 (k v2 v S3)) Q := q
        obtain ⟨a, vs, ex, ha, _⟩ := rs.lst e1 rv
        refine ⟨by rw [ex]; exact .inl ⟨rfl, vs, .inl (.inl ha)⟩, g2, env, S2, hE.mono X.K T l2.s, rs, ?_⟩
        have p2 := PostE.bind q
        revert p2
        cases me env S2 with
        | no => exact fun p => p
        | exc c fs S3 => exact fun p => p
        | ok u S3 =>
          intro p2 g3 y H3 l3 r3 s3
          obtain ⟨g4, u2, S4, l4, ru, rs4, q4⟩ := p2 g3 y H3 l3 r3 s3
          cases e2 : k v2 u2 S4 with
          | none => rw [e2] at q4; exact q4.elim
          | some w => rw [e2] at q4; exact hk g4 v2 u2 S4 x y H3 w Q e2 (rv.mono X.K T l4.s) ru rs4 q4
def mCountF : VV → VV → Sto → Option VV := fun l v S => match asList S l, v with
  | some xs, .p u => if xs.all flatP && flatP u then some (.p (.int ((xs.countP fun z => eqP z u : Nat) : Int))) else none
  | _, _ => none
theorem r_count {name : Str} {apos cpos : Pos} (slot : Slot "list" name "list.count") (ho : PE X o (tD X.K T E mo)) (he : PE X e (tD X.K T E me))
    (hbase : attributeBase o name X.env (eval o X.env) = eval o X.env := by rfl)
    (hfew : ((backTo cpos (starEach [e] X.env)).all (fun x => !x.1) && (backToKw cpos (keywordEach [] X.env)).all (fun x => x.1.isSome) && decide ([e].length + ([] : List Keyword).length + (if ([] : List Keyword).isEmpty then 0 else 1) < 30)) = true := by rfl)
    (hline : (apos.endLine == cpos.line) = true := by rfl) (hs : starEach [e] X.env = (false, eval e X.env) :: starEach [] X.env := by rfl) :
    PE X (.Call (.Attribute o name apos) [e] [] cpos) (tD X.K T E (dLm mCountF mo me)) :=
  r_lm slot PySem.F.type_list_count mt_countF (fun g l v S x y H w Q ek rl rv rs p => by
    unfold mCountF at ek
    split at ek
    · rename_i xs u e1
      split at ek
      · rename_i hf
        rw [Bool.and_eq_true] at hf
        cases ek
        obtain ⟨a, vs, ex, ha, hr⟩ := rs.lst e1 rl
        obtain ⟨b1, b2⟩ := flat_L hf.1 hr
        exact ⟨a, vs, y, ex, rfl, .inl (.inl ha), (flat_V hf.2 rv).1, b1, by rw [b2 hf.2 rv]; exact p.val rfl rs⟩
      · cases ek
    · cases ek) ho he hbase hfew hline hs
end
theorem flat_at_L {K : PySem.W.Frag} {T : Tab} {F : Hp} : ∀ {xs : List PV} {vs : List V} {j : Nat} {z : V}, xs.all flatP = true → RpL K T F xs vs → vs[j]? = some z → ∃ v, xs[j]? = some v ∧ flatP v = true ∧ Rp K T F v z
  | [], _, _, _, _, r, e => by cases r; simp at e
  | x :: xs, _, 0, z, h, ⟨v, vs, e1, h1, h2⟩, e => by
    subst e1
    rw [List.all_cons, Bool.and_eq_true] at h
    simp at e; subst e
    exact ⟨x, rfl, h.1, h1⟩
  | x :: xs, _, j + 1, z, h, ⟨v, vs, e1, h1, h2⟩, e => by
    subst e1
    rw [List.all_cons, Bool.and_eq_true] at h
    obtain ⟨u, k1, k2, k3⟩ := flat_at_L (j := j) h.2 h2 (by simpa using e)
    exact ⟨u, by simpa using k1, k2, k3⟩
/-- the first place of what is ==; none if there is none -/
def firstP (u : PV) : List PV → Option Nat
  | [] => none
  | x :: xs => if eqP x u then some 0 else (firstP u xs).map (· + 1)
theorem firstP_some {u : PV} : ∀ {xs : List PV} {j : Nat}, firstP u xs = some j → (∃ x, xs[j]? = some x ∧ eqP x u = true) ∧ ∀ m x, m < j → xs[m]? = some x → eqP x u = false
  | [], _, h => by cases h
  | x :: xs, j, h => by
    unfold firstP at h
    by_cases hx : eqP x u = true
    · rw [if_pos hx] at h; cases h
      exact ⟨⟨x, rfl, hx⟩, fun m y hm => absurd hm (Nat.not_lt_zero _)⟩
    · rw [if_neg hx] at h
      cases q : firstP u xs with
      | none => rw [q] at h; cases h
      | some i =>
        rw [q] at h; cases h
        obtain ⟨⟨y, a1, a2⟩, b⟩ := firstP_some q
        refine ⟨⟨y, by simpa using a1, a2⟩, fun m z hm hz => ?_⟩
        cases m with
        | zero => simp at hz; subst hz; exact Bool.eq_false_iff.mpr hx
        | succ m => exact b m z (Nat.lt_of_succ_lt_succ hm) (by simpa using hz)
section
variable {X : Cx} {T : Tab} {E : XK} {e o : Expr} {mo me : DE}
def mIndexF : VV → VV → Sto → Option VV := fun l v S => match asList S l, v with
  | some xs, .p u => if xs.all flatP && flatP u then (firstP u xs).map fun j => .p (.int ((j : Nat) : Int)) else none
  | _, _ => none
theorem r_index {name : Str} {apos cpos : Pos} (slot : Slot "list" name "list.index") (ho : PE X o (tD X.K T E mo)) (he : PE X e (tD X.K T E me))
    (hbase : attributeBase o name X.env (eval o X.env) = eval o X.env := by rfl)
    (hfew : ((backTo cpos (starEach [e] X.env)).all (fun x => !x.1) && (backToKw cpos (keywordEach [] X.env)).all (fun x => x.1.isSome) && decide ([e].length + ([] : List Keyword).length + (if ([] : List Keyword).isEmpty then 0 else 1) < 30)) = true := by rfl)
    (hline : (apos.endLine == cpos.line) = true := by rfl) (hs : starEach [e] X.env = (false, eval e X.env) :: starEach [] X.env := by rfl) :
    PE X (.Call (.Attribute o name apos) [e] [] cpos) (tD X.K T E (dLm mIndexF mo me)) :=
  r_lm slot PySem.F.type_list_index mt_index (fun g l v S x y H w Q ek rl rv rs p => by
    unfold mIndexF at ek
    split at ek
    · rename_i xs u e1
      split at ek
      · rename_i hf
        rw [Bool.and_eq_true] at hf
        cases q : firstP u xs with
        | none => rw [q] at ek; cases ek
        | some j =>
          rw [q] at ek; cases ek
          obtain ⟨a, vs, ex, ha, hr⟩ := rs.lst e1 rl
          obtain ⟨b1, _⟩ := flat_L hf.1 hr
          obtain ⟨⟨xj, c1, c2⟩, c3⟩ := firstP_some q
          obtain ⟨z, z1, z2⟩ := hr.get c1
          have fj : flatP xj = true := List.all_eq_true.mp hf.1 xj (List.mem_of_getElem? c1)
          refine ⟨a, vs, y, j, z, ex, rfl, .inl (.inl ha), (flat_V hf.2 rv).1, b1, z1, by rw [(flat_V fj z2).2 hf.2 rv]; exact c2, fun m z' hm hz => ?_, p.val rfl rs⟩
          obtain ⟨xm, d1, d2, d3⟩ := flat_at_L hf.1 hr hz
          rw [(flat_V d2 d3).2 hf.2 rv]
          exact c3 m xm hm d1
      · cases ek
    · cases ek) ho he hbase hfew hline hs
end
end Dn

set_option maxRecDepth 100000
namespace Dn
open PySem PySem.Spec PyProof.Rows L2
section
variable {X : Cx} {A : Around} {outer : List Env} {s : Shared} {H : Hp} {E : XK} {scope : Scope} {f c' : Addr}
theorem tks_lam : Tks (LamX.lamCx X A outer s H E scope f c') E := takes_of rfl rfl rfl rfl
theorem pas_lam : PassesOwn (model X.prog X.w) (LamX.lamCx X A outer s H E scope f c').A (LamX.lamCx X A outer s H E scope f c').env (LamX.lamCx X A outer s H E scope f c').xe := passes_of rfl
end
end Dn

set_option maxRecDepth 100000
namespace Dn
open PySem PySem.Spec PyProof.Rows L2
section
variable {X : Cx} {T : Tab} {E : XK} {e o : Expr} {mo me : DE}
/-- l.append(v), l a list of the store -/
def dApp (mo me : DE) : DE := fun env S => (mo env S).bind fun l S1 => match l with
  | .ob i => match S1[i]? with
    | some (.lst _) => (me env S1).bind fun v S2 => match S2[i]? with
      | some (.lst xs) => if xs.length < LIM then .ok (.p .non) (S2.set i (.lst (xs ++ [v]))) else .no
      | _ => .no
    | _ => .no
  | _ => .no
theorem RvL.snoc {K : PySem.W.Frag} {g : G} {v : VV} {x : V} (h : Rv K T g v x) : ∀ {xs : List VV} {vs : List V}, RvL K T g xs vs → RvL K T g (xs ++ [v]) (vs ++ [x])
  | [], _, r => by cases r; exact ⟨x, [], rfl, h, rfl⟩
  | u :: us, _, ⟨y, ys, e, h1, h2⟩ => by subst e; exact ⟨y, _, rfl, h1, RvL.snoc h h2⟩
theorem r_app {apos cpos : Pos} (ho : PE X o (tD X.K T E mo)) (he : PE X e (tD X.K T E me))
    (hbase : attributeBase o "append" X.env (eval o X.env) = eval o X.env := by rfl)
    (hfew : ((backTo cpos (starEach [e] X.env)).all (fun x => !x.1) && (backToKw cpos (keywordEach [] X.env)).all (fun x => x.1.isSome) && decide ([e].length + ([] : List Keyword).length + (if ([] : List Keyword).isEmpty then 0 else 1) < 30)) = true := by rfl)
    (hline : (apos.endLine == cpos.line) = true := by rfl) (hs : starEach [e] X.env = (false, eval e X.env) :: starEach [] X.env := by rfl) :
    PE X (.Call (.Attribute o "append" apos) [e] [] cpos) (tD X.K T E (dApp mo me)) :=
  (pe_bm PySem.F.plainAttrs_list PySem.F.slot_list_append PySem.F.type_list_append mt_append ho (pa_cons he pa_nil hs) hbase hfew hline hs (by rfl)).imp fun σ H Q ⟨g, env, S, hE, hS, h⟩ => by
    refine ⟨g, env, S, hE, hS, ?_⟩
    have p := PostE.bind h
    revert p
    cases mo env S with
    | no => exact fun p => p
    | exc c fs S1 => exact fun p => p
    | ok v S1 =>
      intro p g1 x H1 l1 r1 s1
      obtain ⟨g2, v2, S2, l2, rv, rs, q⟩ := p g1 x H1 l1 r1 s1
      cases v2 with
      | p v2 => exact q.elim
      | ob i =>
        obtain ⟨ad, ea, ex⟩ := id rv
        cases e1 : S2[i]? with
        | none => simp only [e1] at q; exact q.elim
        | some so =>
          cases so with
          | ins c fs => simp only [e1] at q; exact q.elim
          | tup _ => simp only [e1] at q; exact q.elim
          | dic _ _ => simp only [e1] at q; exact q.elim
          | lst ys =>
            simp only [e1] at q
            obtain ⟨vs, k1, _⟩ := rs.at_ i _ ad e1 ea
            refine ⟨by rw [ex]; exact .inl ⟨rfl, vs, .inl (.inl k1)⟩, g2, env, S2, hE.mono X.K T l2.s, rs, ?_⟩
            have p2 := PostE.bind q
            revert p2
            cases me env S2 with
            | no => exact fun p => p
            | exc c fs S3 => exact fun p => p
            | ok u S3 =>
              intro p2 g3 y H3 l3 r3 s3
              obtain ⟨g4, u2, S4, l4, ru, rs4, q4⟩ := p2 g3 y H3 l3 r3 s3
              have rv4 := rv.mono X.K T l4.s
              obtain ⟨bd, eb, ex2⟩ := id rv4
              cases e2 : S4[i]? with
              | none => simp only [e2] at q4; exact q4.elim
              | some so =>
                cases so with
                | ins c fs => simp only [e2] at q4; exact q4.elim
                | tup _ => simp only [e2] at q4; exact q4.elim
                | dic _ _ => simp only [e2] at q4; exact q4.elim
                | lst zs =>
                  simp only [e2] at q4
                  by_cases hl : zs.length < LIM
                  · rw [if_pos hl] at q4
                    obtain ⟨ws, w1, w2⟩ := rs4.at_ i _ bd e2 eb
                    exact ⟨bd, ws, y, ex2, rfl, w1, by rw [w2.length]; exact lim_lt (Nat.le_of_lt hl), q4 g4 .non _ (G.le.refl _) rfl (rs4.write (so := .lst (zs ++ [u2])) eb ⟨ws ++ [y], upd_same, RvL.snoc ru w2⟩)⟩
                  · rw [if_neg hl] at q4; exact q4.elim
/-- minus -/
def dNeg (ma : DE) : DE := fun env S => (ma env S).bind fun v S1 => match v with
  | .p (.int i) => .ok (.p (.int (-i))) S1
  | _ => .no
theorem r_neg {a : Expr} {pos : Pos} {ma : DE} (ha : PE X a (tD X.K T E ma)) : PE X (.UnaryOp .USub a pos) (tD X.K T E (dNeg ma)) :=
  (pe_un un_neg ha).imp fun σ H Q ⟨g, env, S, hE, hS, h⟩ => by
    refine ⟨g, env, S, hE, hS, ?_⟩
    have p := PostE.bind h
    revert p
    cases ma env S with
    | no => exact fun p => p
    | exc c fs S1 => exact fun p => p
    | ok v S1 =>
      intro p g1 x H1 l1 r1 s1
      obtain ⟨g2, v2, S2, l2, rv, s2, q⟩ := p g1 x H1 l1 r1 s1
      cases v2 with
      | ob i => exact q.elim
      | p v2 =>
        cases v2 with
        | int i => cases rv; exact ⟨i, rfl, q.val rfl s2⟩
        | _ => exact q.elim
end
end Dn

set_option maxRecDepth 100000
namespace Dn
open PySem PySem.Spec PyProof.Rows L2
/-! ### dicts -/
def getK {α : Type} (k : PV) : List (PV × α) → Option α
  | [] => none
  | (l, v) :: r => if PV.beq l k = true then some v else getK k r
def putD {α : Type} (kvs : List (PV × α)) (k : PV) (v : α) : List (PV × α) :=
  if (getK k kvs).isSome = true then kvs.map (fun e => if PV.beq e.1 k = true then (e.1, v) else e) else kvs ++ [(k, v)]
def keyOk (t : Bool) (k : PV) : Bool := if t then (tkeyP k).isSome else (keyP k).isSome
def dicOf (S : Sto) : VV → Option (Bool × List (PV × VV))
  | .p (.dic t kvs) => some (t, kvs.map fun e => (e.1, VV.p e.2))
  | .ob j => match S[j]? with
    | some (.dic t kvs) => some (t, kvs)
    | _ => none
  | _ => none
theorem keyP_beq : ∀ {a b : PV} {q r : L2.Key}, keyP a = some q → keyP b = some r → (PV.beq a b = true ↔ q = r)
  | .int i, .int j, _, _, e, f => by cases e; cases f; simp [PV.beq]
  | .str i, .str j, _, _, e, f => by cases e; cases f; simp [PV.beq]
  | .int i, .str j, _, _, e, f => by cases e; cases f; simp [PV.beq]
  | .str i, .int j, _, _, e, f => by cases e; cases f; simp [PV.beq]
  | .non, _, _, _, e, _ => nomatch e
  | .bl _, _, _, _, e, _ => nomatch e
  | .tup _, _, _, _, e, _ => nomatch e
  | .lst _, _, _, _, e, _ => nomatch e
  | .ins _ _, _, _, _, e, _ => nomatch e
  | .cls _, _, _, _, e, _ => nomatch e
  | .ty _, _, _, _, e, _ => nomatch e
  | .exn, _, _, _, e, _ => nomatch e
  | .scr _, _, _, _, e, _ => nomatch e
  | .dic _ _, _, _, _, e, _ => nomatch e
  | .int _, .non, _, _, _, e => nomatch e
  | .int _, .bl _, _, _, _, e => nomatch e
  | .int _, .tup _, _, _, _, e => nomatch e
  | .int _, .lst _, _, _, _, e => nomatch e
  | .int _, .ins _ _, _, _, _, e => nomatch e
  | .int _, .cls _, _, _, _, e => nomatch e
  | .int _, .ty _, _, _, _, e => nomatch e
  | .int _, .exn, _, _, _, e => nomatch e
  | .int _, .scr _, _, _, _, e => nomatch e
  | .int _, .dic _ _, _, _, _, e => nomatch e
  | .str _, .non, _, _, _, e => nomatch e
  | .str _, .bl _, _, _, _, e => nomatch e
  | .str _, .tup _, _, _, _, e => nomatch e
  | .str _, .lst _, _, _, _, e => nomatch e
  | .str _, .ins _ _, _, _, _, e => nomatch e
  | .str _, .cls _, _, _, _, e => nomatch e
  | .str _, .ty _, _, _, _, e => nomatch e
  | .str _, .exn, _, _, _, e => nomatch e
  | .str _, .scr _, _, _, _, e => nomatch e
  | .str _, .dic _ _, _, _, _, e => nomatch e
theorem keysP_beq : ∀ {a b : List PV} {q r : List L2.Key}, keysP a = some q → keysP b = some r → (PV.beqL a b = true ↔ q = r)
  | [], [], _, _, e, f => by cases e; cases f; simp [PV.beqL]
  | [], y :: ys, _, r, e, f => by
    cases e
    unfold keysP at f
    cases h : keyP y with
    | none => simp [h] at f
    | some k =>
      cases h2 : keysP ys with
      | none => simp [h, h2] at f
      | some ks => simp [h, h2] at f; subst f; simp [PV.beqL]
  | x :: xs, [], q, _, e, f => by
    cases f
    unfold keysP at e
    cases h : keyP x with
    | none => simp [h] at e
    | some k =>
      cases h2 : keysP xs with
      | none => simp [h, h2] at e
      | some ks => simp [h, h2] at e; subst e; simp [PV.beqL]
  | x :: xs, y :: ys, q, r, e, f => by
    unfold keysP at e f
    cases h : keyP x with
    | none => simp [h] at e
    | some k =>
      cases h2 : keysP xs with
      | none => simp [h, h2] at e
      | some ks =>
        cases h3 : keyP y with
        | none => simp [h3] at f
        | some k' =>
          cases h4 : keysP ys with
          | none => simp [h3, h4] at f
          | some ks' =>
            simp [h, h2] at e; simp [h3, h4] at f
            subst e; subst f
            rw [PV.beqL, Bool.and_eq_true, keyP_beq h h3, keysP_beq h2 h4, List.cons.injEq]
theorem tkeyP_beq {a b : PV} {q r : List L2.Key} (e : tkeyP a = some q) (f : tkeyP b = some r) : PV.beq a b = true ↔ q = r := by
  cases a <;> first | (simp [tkeyP] at e; done) | skip
  cases b <;> first | (simp [tkeyP] at f; done) | skip
  exact keysP_beq e f
section
variable {K : PySem.W.Frag} {T : Tab} {g : G} {S : Sto} {H : Hp}
theorem RvK.get {k : PV} {q : L2.Key} (hk : keyP k = some q) : ∀ {kvs : List (PV × VV)} {vs : List (L2.Key × V)}, RvK K T g kvs vs → (getK k kvs = none ∧ valV vs q = none) ∨ ∃ v x, getK k kvs = some v ∧ valV vs q = some x ∧ Rv K T g v x
  | [], _, r => by cases r; exact .inl ⟨rfl, rfl⟩
  | (l, u) :: kvs, _, ⟨p, x, r, e, hl, h1, h2⟩ => by
    subst e
    by_cases hb : PV.beq l k = true
    · have e1 := (keyP_beq hl hk).mp hb
      exact .inr ⟨u, x, by rw [getK, if_pos hb], valV_pos e1, h1⟩
    · have e1 : ¬ p = q := fun z => hb ((keyP_beq hl hk).mpr z)
      have e2 : valV ((p, x) :: r) q = valV r q := valV_neg e1
      rw [getK, if_neg hb, e2]
      exact RvK.get hk h2
theorem RvT.get {k : PV} {q : List L2.Key} (hk : tkeyP k = some q) : ∀ {kvs : List (PV × VV)} {vs : List (List L2.Key × V)}, RvT K T g kvs vs → (getK k kvs = none ∧ valV vs q = none) ∨ ∃ v x, getK k kvs = some v ∧ valV vs q = some x ∧ Rv K T g v x
  | [], _, r => by cases r; exact .inl ⟨rfl, rfl⟩
  | (l, u) :: kvs, _, ⟨p, x, r, e, hl, h1, h2⟩ => by
    subst e
    by_cases hb : PV.beq l k = true
    · have e1 := (tkeyP_beq hl hk).mp hb
      exact .inr ⟨u, x, by rw [getK, if_pos hb], valV_pos e1, h1⟩
    · have e1 : ¬ p = q := fun z => hb ((tkeyP_beq hl hk).mpr z)
      have e2 : valV ((p, x) :: r) q = valV r q := valV_neg e1
      rw [getK, if_neg hb, e2]
      exact RvT.get hk h2
theorem RvK.snoc {k : PV} {q : L2.Key} {v : VV} {x : V} (hk : keyP k = some q) (h : Rv K T g v x) : ∀ {kvs : List (PV × VV)} {vs : List (L2.Key × V)}, RvK K T g kvs vs → RvK K T g (kvs ++ [(k, v)]) (vs ++ [(q, x)])
  | [], _, r => by cases r; exact ⟨q, x, [], rfl, hk, h, rfl⟩
  | (_, _) :: _, _, ⟨p, y, r, e, hl, h1, h2⟩ => by subst e; exact ⟨p, y, _, rfl, hl, h1, RvK.snoc hk h h2⟩
theorem RvT.snoc {k : PV} {q : List L2.Key} {v : VV} {x : V} (hk : tkeyP k = some q) (h : Rv K T g v x) : ∀ {kvs : List (PV × VV)} {vs : List (List L2.Key × V)}, RvT K T g kvs vs → RvT K T g (kvs ++ [(k, v)]) (vs ++ [(q, x)])
  | [], _, r => by cases r; exact ⟨q, x, [], rfl, hk, h, rfl⟩
  | (_, _) :: _, _, ⟨p, y, r, e, hl, h1, h2⟩ => by subst e; exact ⟨p, y, _, rfl, hl, h1, RvT.snoc hk h h2⟩
theorem RvK.upd {k : PV} {q : L2.Key} {v : VV} {x : V} (hk : keyP k = some q) (h : Rv K T g v x) : ∀ {kvs : List (PV × VV)} {vs : List (L2.Key × V)}, RvK K T g kvs vs →
    RvK K T g (kvs.map fun e => if PV.beq e.1 k = true then (e.1, v) else e) (vs.map fun kv => if kv.1 = q then (kv.1, x) else kv)
  | [], _, r => by cases r; rfl
  | (l, _) :: _, _, ⟨p, y, r, e, hl, h1, h2⟩ => by
    subst e
    by_cases hb : PV.beq l k = true
    · have e1 := (keyP_beq hl hk).mp hb
      simp only [List.map_cons, if_pos hb, if_pos e1]
      exact ⟨p, x, _, rfl, hl, h, RvK.upd hk h h2⟩
    · have e1 : ¬ p = q := fun z => hb ((keyP_beq hl hk).mpr z)
      simp only [List.map_cons, if_neg hb, if_neg e1]
      exact ⟨p, y, _, rfl, hl, h1, RvK.upd hk h h2⟩
theorem RvT.upd {k : PV} {q : List L2.Key} {v : VV} {x : V} (hk : tkeyP k = some q) (h : Rv K T g v x) : ∀ {kvs : List (PV × VV)} {vs : List (List L2.Key × V)}, RvT K T g kvs vs →
    RvT K T g (kvs.map fun e => if PV.beq e.1 k = true then (e.1, v) else e) (vs.map fun kv => if kv.1 = q then (kv.1, x) else kv)
  | [], _, r => by cases r; rfl
  | (l, _) :: _, _, ⟨p, y, r, e, hl, h1, h2⟩ => by
    subst e
    by_cases hb : PV.beq l k = true
    · have e1 := (tkeyP_beq hl hk).mp hb
      simp only [List.map_cons, if_pos hb, if_pos e1]
      exact ⟨p, x, _, rfl, hl, h, RvT.upd hk h h2⟩
    · have e1 : ¬ p = q := fun z => hb ((tkeyP_beq hl hk).mpr z)
      simp only [List.map_cons, if_neg hb, if_neg e1]
      exact ⟨p, y, _, rfl, hl, h1, RvT.upd hk h h2⟩
theorem putK_eq {κ : Type} [DecidableEq κ] {kvs : List (κ × V)} {k : κ} {v : V} : putK kvs k v = if (valV kvs k).isSome = true then kvs.map (fun kv => if kv.1 = k then (kv.1, v) else kv) else kvs ++ [(k, v)] := by
  unfold putK
  rw [valV_any]
theorem RvK.put {k : PV} {q : L2.Key} {v : VV} {x : V} (hk : keyP k = some q) (h : Rv K T g v x) {kvs : List (PV × VV)} {vs : List (L2.Key × V)} (r : RvK K T g kvs vs) : RvK K T g (putD kvs k v) (putK vs q x) := by
  rw [putK_eq, putD]
  rcases RvK.get hk r with ⟨e1, e2⟩ | ⟨u, y, e1, e2, _⟩
  · rw [e1, e2]; exact RvK.snoc hk h r
  · rw [e1, e2]; exact RvK.upd hk h r
theorem RvT.put {k : PV} {q : List L2.Key} {v : VV} {x : V} (hk : tkeyP k = some q) (h : Rv K T g v x) {kvs : List (PV × VV)} {vs : List (List L2.Key × V)} (r : RvT K T g kvs vs) : RvT K T g (putD kvs k v) (putK vs q x) := by
  rw [putK_eq, putD]
  rcases RvT.get hk r with ⟨e1, e2⟩ | ⟨u, y, e1, e2, _⟩
  · rw [e1, e2]; exact RvT.snoc hk h r
  · rw [e1, e2]; exact RvT.upd hk h r
theorem RvK.length : ∀ {kvs : List (PV × VV)} {vs : List (L2.Key × V)}, RvK K T g kvs vs → vs.length = kvs.length
  | [], _, r => by cases r; rfl
  | (_, _) :: _, _, ⟨_, _, _, e, _, _, h⟩ => by subst e; rw [List.length_cons, List.length_cons, RvK.length h]
theorem RvT.length : ∀ {kvs : List (PV × VV)} {vs : List (List L2.Key × V)}, RvT K T g kvs vs → vs.length = kvs.length
  | [], _, r => by cases r; rfl
  | (_, _) :: _, _, ⟨_, _, _, e, _, _, h⟩ => by subst e; rw [List.length_cons, List.length_cons, RvT.length h]
theorem RpK.toRv : ∀ {kvs : List (PV × PV)} {vs : List (L2.Key × V)}, RpK K T g.F kvs vs → RvK K T g (kvs.map fun e => (e.1, VV.p e.2)) vs
  | [], _, r => r
  | (_, _) :: _, _, ⟨q, v, r, e, hk, h1, h2⟩ => ⟨q, v, r, e, hk, h1, RpK.toRv h2⟩
theorem RpT.toRv : ∀ {kvs : List (PV × PV)} {vs : List (List L2.Key × V)}, RpT K T g.F kvs vs → RvT K T g (kvs.map fun e => (e.1, VV.p e.2)) vs
  | [], _, r => r
  | (_, _) :: _, _, ⟨q, v, r, e, hk, h1, h2⟩ => ⟨q, v, r, e, hk, h1, RpT.toRv h2⟩
theorem Rs.dic (hS : Rs K T g S H) {v : VV} {x : V} {t : Bool} {kvs : List (PV × VV)} (e : dicOf S v = some (t, kvs)) (r : Rv K T g v x) : ∃ a, x = .ref a ∧ ((t = false ∧ ∃ vs, H a = some (.dK vs) ∧ RvK K T g kvs vs) ∨ (t = true ∧ ∃ vs, H a = some (.dT vs) ∧ RvT K T g kvs vs)) := by
  cases v with
  | p v =>
    cases v <;> first | (simp [dicOf] at e; done) | skip
    rename_i t' kvs'
    cases e
    cases t
    · obtain ⟨a, vs, e1, h1, h2⟩ := r
      exact ⟨a, e1, .inl ⟨rfl, vs, hS.fz _ _ h1, h2.toRv⟩⟩
    · obtain ⟨a, vs, e1, h1, h2⟩ := r
      exact ⟨a, e1, .inr ⟨rfl, vs, hS.fz _ _ h1, h2.toRv⟩⟩
  | ob i =>
    obtain ⟨a, ea, e1⟩ := r
    unfold dicOf at e
    cases q : S[i]? with
    | none => simp [q] at e
    | some o =>
      cases o with
      | dic t' kvs' =>
        simp only [q] at e
        cases e
        have h := hS.at_ i _ a q ea
        cases t
        · obtain ⟨vs, h1, h2⟩ := h
          exact ⟨a, e1, .inl ⟨rfl, vs, h1, h2⟩⟩
        · obtain ⟨vs, h1, h2⟩ := h
          exact ⟨a, e1, .inr ⟨rfl, vs, h1, h2⟩⟩
      | _ => simp [q] at e
theorem key_V {F : Hp} {k : PV} {y : V} {q : L2.Key} (hk : keyP k = some q) (r : Rp K T F k y) : y = kV q := by
  cases k <;> first | (simp [keyP] at hk; done) | (cases hk; exact r)
theorem keys_V {F : Hp} : ∀ {ks : List PV} {ys : List V} {qs : List L2.Key}, keysP ks = some qs → RpL K T F ks ys → ys = qs.map kV
  | [], _, _, e, r => by cases e; cases r; rfl
  | k :: ks, _, qs, e, ⟨y, ys, ey, h1, h2⟩ => by
    subst ey
    unfold keysP at e
    cases h : keyP k with
    | none => simp [h] at e
    | some q =>
      cases h3 : keysP ks with
      | none => simp [h, h3] at e
      | some rs => simp [h, h3] at e; subst e; rw [key_V h h1, keys_V h3 h2]; rfl
theorem tkey_V {F : Hp} {k : PV} {y : V} {q : List L2.Key} (hk : tkeyP k = some q) (r : Rp K T F k y) : ∃ b, y = .ref b ∧ F b = some (.tup (q.map kV)) := by
  cases k <;> first | (simp [tkeyP] at hk; done) | skip
  obtain ⟨a, vs, e, h1, h2⟩ := r
  exact ⟨a, e, by rw [h1, keys_V hk h2]⟩
/-- what the dict holds, as the layer below has it -/
theorem Rs.dget (hS : Rs K T g S H) {v : VV} {x y : V} {k : PV} {t : Bool} {kvs : List (PV × VV)} (e : dicOf S v = some (t, kvs)) (r : Rv K T g v x) (hk : keyOk t k = true) (rk : Rp K T g.F k y) :
    ∃ a o, x = .ref a ∧ DGet H a y o ∧ ((getK k kvs = none ∧ o = none) ∨ ∃ u z, getK k kvs = some u ∧ o = some z ∧ Rv K T g u z) := by
  obtain ⟨a, e1, ⟨rfl, vs, h1, h2⟩ | ⟨rfl, vs, h1, h2⟩⟩ := hS.dic e r
  · obtain ⟨q, hq⟩ := Option.isSome_iff_exists.mp (show (keyP k).isSome = true from hk)
    have ey := key_V hq rk
    subst ey
    refine ⟨a, valV vs q, e1, DGet.k h1, RvK.get hq h2⟩
  · obtain ⟨q, hq⟩ := Option.isSome_iff_exists.mp (show (tkeyP k).isSome = true from hk)
    obtain ⟨b, ey, hb⟩ := tkey_V hq rk
    subst ey
    exact ⟨a, valV vs q, e1, DGet.t h1 (hS.fz _ _ hb), RvT.get hq h2⟩
end
def mDGet : M2 := fun v u S => (dicOf S v).bind fun d => match u with
  | .p k => if keyOk d.1 k = true then getK k d.2 else none
  | _ => none
def mDIn (neg : Bool) : M2 := fun u v S => (dicOf S v).bind fun d => match u with
  | .p k => if keyOk d.1 k = true then some (.p (.bl (neg ^^ (getK k d.2).isSome))) else none
  | _ => none
/-- {} -/
def dNewD (t : Bool) : DE := fun _ S => .ok (.ob S.length) (S ++ [.dic t []])
/-- d[k] = v -/
def dSetD (mo mi mv : DE) : DS := fun env S => (mv env S).bindS fun w S1 => (mo env S1).bindS fun o S2 => (mi env S2).bindS fun i S3 => match o, i with
  | .ob j, .p k => match S3[j]? with
    | some (.dic t kvs) => if keyOk t k = true ∧ kvs.length < LIM then .nx env (S3.set j (.dic t (putD kvs k w))) else .no
    | _ => .no
  | _, _ => .no
section
variable {X : Cx} {T : Tab} {E : XK} {o i value : Expr} {mo mi mv : DE} {pos : Pos}
theorem r_dget (hu : X.A.units + 128 < cLine) (ho : PE X o (tD X.K T E mo)) (hi : PE X i (tD X.K T E mi)) (hs : NoSl i := by exact fun _ _ _ _ => rfl) : PE X (.Subscript o i pos) (tD X.K T E (dOp mDGet mo mi)) :=
  (pe_dget (by omega) ho hi hs).imp fun σ H Q h => tOp_of (r := fun x y H Q => ∃ a v, x = .ref a ∧ DGet H a y (some v) ∧ Q v H) (fun x y H Q ⟨g, v, u, S, r1, r2, hS, p⟩ => by
    unfold mDGet at p
    cases e : dicOf S v with
    | none => simp only [e, Option.bind_none] at p; exact p.elim
    | some d =>
      obtain ⟨t, kvs⟩ := d
      simp only [e, Option.bind_some] at p
      cases u with
      | ob j => exact p.elim
      | p k =>
        by_cases hk : keyOk t k = true
        · simp only [if_pos hk] at p
          obtain ⟨a, o, e1, dg, ⟨z1, _⟩ | ⟨w, z, z1, rfl, z3⟩⟩ := hS.dget e r1 hk r2
          · rw [z1] at p; exact p.elim
          · rw [z1] at p
            exact ⟨a, z, e1, dg, p g z H (G.le.refl g) z3 hS⟩
        · simp only [if_neg hk] at p; exact p.elim) h
theorem din_of {neg : Bool} {x y : V} {H : Hp} {Q : VK} (h : ∃ g u v S, Rv X.K T g u y ∧ Rv X.K T g v x ∧ Rs X.K T g S H ∧ PostE X.K T E0 g (RE.of S (mDIn neg u v S)) Q) : ∃ a o, x = .ref a ∧ DGet H a y o ∧ Q (.bl (neg ^^ o.isSome)) H := by
  obtain ⟨g, u, v, S, r2, r1, hS, p⟩ := h
  unfold mDIn at p
  cases e : dicOf S v with
  | none => simp only [e, Option.bind_none] at p; exact p.elim
  | some d =>
    obtain ⟨t, kvs⟩ := d
    simp only [e, Option.bind_some] at p
    cases u with
    | ob j => exact p.elim
    | p k =>
      by_cases hk : keyOk t k = true
      · simp only [if_pos hk] at p
        obtain ⟨a, o, e1, dg, ⟨z1, rfl⟩ | ⟨w, z, z1, rfl, z3⟩⟩ := hS.dget e r1 hk r2
        · rw [z1] at p
          exact ⟨a, none, e1, dg, p.val rfl hS⟩
        · rw [z1] at p
          exact ⟨a, some z, e1, dg, p.val rfl hS⟩
      · simp only [if_neg hk] at p; exact p.elim
theorem r_newD {t : Bool} : PE X (.Dict [] [] pos) (tD X.K T E (dNewD t)) := by
  cases t
  · refine (pe_dnewK (X := X) (pos := pos)).imp fun σ H Q ⟨g, env, S, hE, hS, h⟩ q hq => ?_
    have l := G.le_alloc g q
    have s' := hS.alloc (so := .dic false []) (o := .dK []) hq ⟨[], upd_same, rfl⟩
    refine h _ _ _ l ⟨q, ?_, rfl⟩ s'
    show (g.f ++ [q])[S.length]? = some q
    rw [hS.len, List.getElem?_append_right (Nat.le_refl _), Nat.sub_self]; rfl
  · refine (pe_dnewT (X := X) (pos := pos)).imp fun σ H Q ⟨g, env, S, hE, hS, h⟩ q hq => ?_
    have l := G.le_alloc g q
    have s' := hS.alloc (so := .dic true []) (o := .dT []) hq ⟨[], upd_same, rfl⟩
    refine h _ _ _ l ⟨q, ?_, rfl⟩ s'
    show (g.f ++ [q])[S.length]? = some q
    rw [hS.len, List.getElem?_append_right (Nat.le_refl _), Nat.sub_self]; rfl
theorem s_setD (hu : X.A.units + 128 < cLine) (hv : PE X value (tD X.K T E mv)) (ho : PE X o (tD X.K T E mo)) (hi : PE X i (tD X.K T E mi)) {p2 : Pos} (hs : swapsWith value (some (.Subscript o i p2)) pos.line X.env = pure false := by rfl) :
    PS X (.Assign [.Subscript o i p2] value pos) (tS X.K T E (dSetD mo mi mv)) :=
  (ps_dput (by omega) ho hi hv hs).imp fun D σ H h => by
    refine tD_S (k := fun w S1 env => (mo env S1).bindS fun o S2 => (mi env S2).bindS fun i S3 => match o, i with
      | .ob j, .p k => match S3[j]? with
        | some (.dic t kvs) => if keyOk t k = true ∧ kvs.length < LIM then .nx env (S3.set j (.dic t (putD kvs k w))) else .no
        | _ => .no
      | _, _ => .no) h fun g env w S x H hE rw_ rs p => ?_
    refine ⟨g, env, S, hE, rs, ?_⟩
    have p2 := PostE.bindS p
    revert p2
    cases mo env S with
    | no => exact fun p => p
    | exc c fs S1 => exact fun p => p
    | ok ov S1 =>
      intro p2 g1 y H1 l1 r1 s1
      obtain ⟨g2, ov2, S2, l2, ro, s2, q2⟩ := p2 g1 y H1 l1 r1 s1
      refine ⟨g2, env, S2, hE.mono X.K T l2.s, s2, ?_⟩
      have p3 := PostE.bindS q2
      revert p3
      cases mi env S2 with
      | no => exact fun p => p
      | exc c fs S3 => exact fun p => p
      | ok iv S3 =>
        intro p3 g3 z H3 l3 r3 s3
        obtain ⟨g4, iv4, S4, l4, ri, s4, q4⟩ := p3 g3 z H3 l3 r3 s3
        have rw4 := rw_.mono X.K T (l2.trans l4).s
        split at q4
        · rename_i j k
          obtain ⟨ad, ea, rfl⟩ := ro.mono X.K T l4.s
          cases e1 : S4[j]? with
          | none => simp only [e1] at q4; exact q4.elim
          | some so =>
            cases so with
            | dic t kvs =>
              simp only [e1] at q4
              by_cases hk : keyOk t k = true ∧ kvs.length < LIM
              · rw [if_pos hk] at q4
                have hob := s4.at_ j _ ad e1 ea
                cases t
                · obtain ⟨qk, hq⟩ := Option.isSome_iff_exists.mp (show (keyP k).isSome = true from hk.1)
                  have ey := key_V hq ri
                  subst ey
                  obtain ⟨vs, k1, k2⟩ := hob
                  refine ⟨ad, _, rfl, DPut.k (v := x) k1 (by rw [k2.length]; exact lim_lt (Nat.le_of_lt hk.2)), ?_⟩
                  exact q4 g4 σ _ (G.le.refl _) (hE.mono X.K T (l2.trans l4).s) (s4.write (so := .dic false (putD kvs k w)) ea ⟨_, upd_same, k2.put hq rw4⟩)
                · obtain ⟨qk, hq⟩ := Option.isSome_iff_exists.mp (show (tkeyP k).isSome = true from hk.1)
                  obtain ⟨b, ey, hb⟩ := tkey_V hq ri
                  subst ey
                  obtain ⟨vs, k1, k2⟩ := hob
                  refine ⟨ad, _, rfl, DPut.t (v := x) k1 (s4.fz _ _ hb) (by rw [k2.length]; exact lim_lt (Nat.le_of_lt hk.2)), ?_⟩
                  exact q4 g4 σ _ (G.le.refl _) (hE.mono X.K T (l2.trans l4).s) (s4.write (so := .dic true (putD kvs k w)) ea ⟨_, upd_same, k2.put hq rw4⟩)
              · rw [if_neg hk] at q4; exact q4.elim
            | _ => simp only [e1] at q4; exact q4.elim
        · exact q4.elim
end
end Dn

set_option maxRecDepth 100000
/-! Defs that are run where nothing is being shown (no list is within its own repr). -/
namespace Dn
open PySem PySem.Spec PyProof.Rows L2
structure FnG (P : Program) (w : World) (K : PySem.W.Frag) (mg : Str → Option Value) (base : Heap) (Z : CXT) (k : Nat) (f : Addr) (fd : FuncData) (ps : List Str) (sp : Sp) : Prop where
  len : ∀ vs H Q E, sp vs H Q E → vs.length = ps.length
  go : ∀ A : Around, A.guards = some [] → Room k A → ∀ (outer : List Env) (s : Shared) (H : Hp) (as : Args) (us : List Value) (vs : List V) (Q : VK) (E : XK),
    Env0 P w K mg base A outer s H → BindsTo s fd as (ps.zip us) → Vals vs us → sp vs H Q E → codeAny (model P w) A (.call (.ref f) as) (CR Z outer P w H s Q E) s
section
variable {P : Program} {w : World} {K : PySem.W.Frag} {mg : Str → Option Value} {base : Heap} {Z : CXT} {k : Nat} {f : Addr} {fd : FuncData} {ps : List Str} {sp : Sp}
theorem FnG.of (F : FnOk P w K mg base Z k f fd ps sp) : FnG P w K mg base Z k f fd ps sp := ⟨F.len, fun A _ hr outer s H as us vs Q E => F.run A outer s H as us vs Q E hr⟩
theorem FnG.imp {sp' : Sp} (F : FnG P w K mg base Z k f fd ps sp) (h : ∀ vs H Q E, sp' vs H Q E → sp vs H Q E) : FnG P w K mg base Z k f fd ps sp' :=
  ⟨fun vs H Q E q => F.len vs H Q E (h _ _ _ _ q), fun A ha hr outer s H as us vs Q E e b v q => F.go A ha hr outer s H as us vs Q E e b v (h _ _ _ _ q)⟩
end
section
variable {X : Cx} {Z : CXT} {T : Tab} {k : Nat} {f : Addr} {fd : FuncData} {ps : List Str} {sp : Sp} {dvs : List V} {ds : List Value} {E : XK} {x : Str} {p pos : Pos} {e : Expr} {es : List Expr} {t : TA}
theorem go_fn {pins : List (Addr × Obj)} {σ : L2.St} {H : Hp} {s : Shared} {Q : VK} {us : List Value} {vs : List V} (F : FnG X.prog X.w X.K X.mg X.base Z k f fd ps sp) (ga : X.A.guards = some []) (hr : Room k X.A) (hb : Binds X.K fd ps ds) (hd : Vals dvs ds)
    (hx : Passes Z X E) (I : Inv X pins σ H s) (r : Vals vs us) (h : sp (vs ++ dvs) H Q E) : wpAny (model X.prog X.w) X.A (call (.ref f) us) (EP X pins σ Q) X.xe s := by
  have both := r.append hd
  refine wpAny_call (codeAny_mono (F.go _ ga hr X.stack s H ⟨us, []⟩ _ _ Q E I.env0 (hb s us I.kIn (both.length.symm.trans (F.len _ _ _ _ h))) both h) fun out s2 q => ?_)
  match out, q with
  | .error er, q => exact hx pins σ H s er s2 I q
  | .ok (.ret u), q => exact I.after q
  | .ok .next, q => exact q.elim
  | .ok .brk, q => exact q.elim
  | .ok .cont, q => exact q.elim
theorem pe_go (F : FnG X.prog X.w X.K X.mg X.base Z k f fd ps sp) (ga : X.A.guards = some []) (hr : Room k X.A) (hg : Gl X x) (hm : X.mg x = some (.ref f)) (hk : PySem.W.keepIn X.K (.ref f) = true) (hb : Binds X.K fd ps ds) (hd : Vals dvs ds) (hx : Passes Z X E)
    (ha : PA X (e :: es) t) (hdb : (x == ("__debug__" : Str)) = false) (he : starEach (e :: es) X.env = (false, eval e X.env) :: starEach es X.env) (hpl : (backTo pos (starEach es X.env)).any (·.1) = false) :
    PE X (.Call (.Name x p) (e :: es) [] pos) (tCall sp dvs E t) := ⟨fun pins s σ H Q I h => wpAny_Call_Name_kw (ld_glob I hg hm
  (PySem.W.callWith_K (h₀ := X.base) I.ok.mod.kin hk (thn (ha.run pos pins s σ H _ I h) fun us s1 ⟨vs, H1, I1, r, q⟩ => ⟨I1.kIn, go_fn F ga hr hb hd hx I1 r q⟩) he hpl) hdb)⟩
end
section
variable {P : Program} {w : World} {K : PySem.W.Frag} {mg : Str → Option Value} {base : Heap} {X : Cx} {T : Tab} {E : XK} {e : Expr}
def FnEG (P : Program) (w : World) (K : PySem.W.Frag) (mg : Str → Option Value) (base : Heap) (T : Tab) (x : Str) (k np : Nat) (ds : List PV) (m : DF) : Prop :=
  ∃ f fd ps dvs dus, ps.length = np ∧ FnG P w K mg base (L2.CX P w) k f fd ps (spD K T np m) ∧ mg x = some (.ref f) ∧ PySem.W.keepIn K (.ref f) = true ∧ Binds K fd ps dus ∧ Vals dvs dus ∧ Dsv ds dvs
theorem c_fnG {x : Str} {k np : Nat} {ds : List PV} {m : DF} {p pos : Pos} {es : List Expr} {ms : List DE} (F : FnEG X.prog X.w X.K X.mg X.base T x k np ds m) (ga : X.A.guards = some []) (tk : Tks X E) (hr : Room k X.A) (ha : PA X (e :: es) (tA X.K T E ms)) (hg : Gl X x := by rfl) (hn : ms.length + ds.length = np := by rfl) (hdb : (x == ("__debug__" : Str)) = false := by decide)
    (he : starEach (e :: es) X.env = (false, eval e X.env) :: starEach es X.env := by rfl) (hpl : (backTo pos (starEach es X.env)).any (·.1) = false := by rfl) : PE X (.Call (.Name x p) (e :: es) [] pos) (tD X.K T E (dCall m ms ds)) := by
  obtain ⟨f, fd, ps, dvs, dus, hp, F, gm, hk, hb, hd, hds⟩ := F
  subst hp
  exact (pe_go F ga hr hg gm hk hb hd tk.pass ha hdb he hpl).imp fun σ H Q h => tA_of h fun g vs S xs H hl0 r s q => by
    have r2 : RvL X.K T g (vs ++ ds.map .p) (xs ++ dvs) := r.append (RvL.ofP (hds _ _ _))
    exact ⟨by rw [r2.length, List.length_append, List.length_map, hl0, hn], g, _, S, r2, s, q⟩
/-- a def by its body, run where nothing is being shown -/
theorem fn_okG {x qual : Str} {params : Arguments} {body : List Stmt} {scope : Scope} {dvs : List V} {kws : List (Str × V)} {f : Addr} {fd : FuncData} {N ps : List Str} {k np nn : Nat} {m : DS} {cd : Value} (F : FunD K x qual params body scope dvs kws f fd) (hcd : fd.code = cd) (S : FnScope N ps scope) (hnp : ps.length = np) (hnn : N.length = nn)
    (h : ∀ (A : Around) (outer : List Env) (s : Shared) (H : Hp) (E : XK), (cxOf (L2.CX P w) P w K mg base N qual scope f cd A outer s H E).A.guards = some [] → Room k (cxOf (L2.CX P w) P w K mg base N qual scope f cd A outer s H E).A → Tks (cxOf (L2.CX P w) P w K mg base N qual scope f cd A outer s H E) E →
      PassesOwn (model P w) (cxOf (L2.CX P w) P w K mg base N qual scope f cd A outer s H E).A (cxOf (L2.CX P w) P w K mg base N qual scope f cd A outer s H E).env (cxOf (L2.CX P w) P w K mg base N qual scope f cd A outer s H E).xe →
      (cxOf (L2.CX P w) P w K mg base N qual scope f cd A outer s H E).A.units + 128 < cLine → (cxOf (L2.CX P w) P w K mg base N qual scope f cd A outer s H E).N.Nodup →
      PSs (cxOf (L2.CX P w) P w K mg base N qual scope f cd A outer s H E) body (tS K T E m)) :
    FnG P w K mg base (L2.CX P w) (k + 1) f fd ps (spD K T np (dFn np nn m)) := by
  subst hnp; subst hnn; subst hcd
  obtain ⟨oc, od, dV, kV, doc, pm, an, cdv, ct, osl, rfl, lk, hc, _, _⟩ := F.ex
  refine ⟨fun vs H Q E h => h.1, fun A ga hr outer s H as us vs Q E e0 hb r hsp => ?_⟩
  have now : ∀ b o, base.get? b = some o → s.heap.get? b = some o := fun b o z => (e0.bs b o z).1
  refine codeAny_call_function hr.depth (e0.mod.kin.keeps now _ _ lk) rfl S.co S.gen rfl (PySem.W.codeRec_of (e0.mod.kin.keeps now) hc) (hb _ _ _ _ (wpAny_newFunctionEnv_cells S.kind (fun ⟨n, u⟩ hy => ?_) fun env he s1 fresh => ?_))
  · have := S.par n (List.of_mem_zip hy).1
    rcases this with z | z
    · exact Or.inl z
    · exact Or.inr ⟨z, PySem.W.cellsFrom_some _ _ _ (Or.inl z)⟩
  · subst he
    refine ⟨(e0.mod.nolimit.keeps now).keeps fresh.toInCall.keep, codeAny_func ?_⟩
    have body := h A outer s H E ga (hr.deeper _) (takes_of rfl rfl rfl rfl) (passes_of rfl) (L2.Room.units2 (hr.deeper _)) S.nd
    refine wpAny_mono (body.run [] s1 (start N vs) H _ (inv_start S hr.hd e0 hsp.1 r fresh) (enter_fn hsp)) (fun out s2 q => ?_) fun _ _ q => q
    match out, q with
    | .ret u, ⟨v, σ2, H2, J, rv, z⟩ => exact ⟨v, H2, J.os, J.bare, J.base, J.hok, rv, z⟩
    | .next, ⟨σ2, H2, J, z⟩ => exact ⟨V.non, H2, J.os, J.bare, J.base, J.hok, rfl, z⟩
    | .brk, ⟨_, _, _, z⟩ => exact False.elim z
    | .cont, ⟨_, _, _, z⟩ => exact False.elim z
end
end Dn

set_option maxRecDepth 100000
set_option maxHeartbeats 1000000
namespace Dn
open PySem PySem.Spec PyProof.Rows L2
/-- the object that the script is -/
abbrev scriptO (vs : List Value) : Obj := { cls := .type "list", data := .seq vs.toArray }
/-- a table of code objects, as yet empty -/
abbrev emptyT : Obj := { cls := .none, data := .fields #[] }
/-- what is told of the heap at first: the script, where it is no object of the module, and the tables -/
def firstH (K : PySem.W.Frag) (a : Addr) (tt : List Addr) (vs : List Value) (ns : List Int) : Hp := fun b =>
  if b ∈ tt then some (.tbl #[]) else if b = a ∧ K.lookup a = none then some (.frz (scriptO vs) (.lst (ns.map V.int))) else none
section
variable {P : Program} {w : World} {K : PySem.W.Frag} {mg mb : Str → Option Value} {Z : CXT} {k : Nat} {fa a : Addr} {cs : List (Addr × Addr)} {fd : FuncData} {x : Str} {sp : Sp} {st : Shared} {vs : List Value} {ns : List Int} {tt : List Addr}
theorem firstH_some {b : Addr} {u : HO} (h : firstH K a tt vs ns b = some u) : (b ∈ tt ∧ u = .tbl #[]) ∨ (b ∉ tt ∧ b = a ∧ K.lookup a = none ∧ u = .frz (scriptO vs) (.lst (ns.map V.int))) := by
  unfold firstH at h
  by_cases h1 : b ∈ tt
  · rw [if_pos h1] at h; exact .inl ⟨h1, (Option.some.inj h).symm⟩
  · rw [if_neg h1] at h
    by_cases h2 : b = a ∧ K.lookup a = none
    · rw [if_pos h2] at h; exact .inr ⟨h1, h2.1, h2.2, (Option.some.inj h).symm⟩
    · rw [if_neg h2] at h; exact nomatch h
/-- where an object is neither the script nor a table, nothing is told of it -/
theorem firstH_off (ha : st.heap.get? a = some (scriptO vs)) (hT : ∀ b ∈ tt, st.heap.get? b = some emptyT) {b : Addr} {o : Obj} (e : st.heap.get? b = some o) (n1 : o.data ≠ (scriptO vs).data) (n2 : o.data ≠ emptyT.data) : firstH K a tt vs ns b = none := by
  cases h : firstH K a tt vs ns b with
  | none => rfl
  | some u =>
    rcases firstH_some h with ⟨hb, _⟩ | ⟨_, rfl, _⟩
    · rw [hT b hb] at e; exact absurd (congrArg Obj.data (Option.some.inj e)).symm n2
    · rw [ha] at e; exact absurd (congrArg Obj.data (Option.some.inj e)).symm n1
theorem law_callG (KX : K.In st.heap) (nm : st.heap.Ns mainGlobals mg) (nb : st.heap.Ns builtinsNs mb) (hbb : ∀ x : Str, x ≠ "__name__" → mb x = bootBuiltins x) (lim : st.heap.NoLimit) (gens : st.gens = #[])
    (hT : ∀ p ∈ cs, st.heap.get? p.2 = some emptyT) (nT : ∀ p ∈ cs, K.lookup p.2 = none) (C : ∀ p ∈ cs, PySem.W.codeHdIn K p.1 p.2 = true) (Ct : ∀ p ∈ cs, PySem.W.CodeHd st.heap p.1 p.2)
    (hbm : ∃ (bm : Addr) (ob : Obj), mg "__builtins__" = some (.ref bm) ∧ bm ≠ builtinsNs ∧ st.heap.get? bm = some ob ∧ ob.cls = .type "module" ∧ ob.dict = some builtinsNs ∧ ob.data = .plain)
    (ha : st.heap.get? a = some (scriptO vs)) (hi : IntsAre vs ns) (hl : ns.length ≤ sizeLine) (hr : Room k callerA)
    (F : ∀ base : Heap, K.In base → base.Ns mainGlobals mg → (∀ p ∈ cs, LamX.TabB base mg p.1 p.2) → FnG P w K mg base Z k fa fd [x] sp) (bind : ∀ (s : Shared) (u : Value), BindsTo s fd ⟨[u], []⟩ [(x, u)])
    (hsp : ∀ H : Hp, (∀ p ∈ cs, H p.2 = some (.tbl #[])) → SqL K H a (ns.map V.int) → sp [.ref a] H (fun v _ => v = .bl true) fun _ _ _ => False) (hZ : ∀ H e s', Z [] H st (fun _ _ _ => False) e s' → False) :
    codeAny (model P w) callerA (.call (.ref fa) ⟨[.ref a], []⟩) (fun r s' => r = .ok (.ret (.bool true)) ∧ OldK st.heap s'.heap ∧ s'.os = st.os ∧ AllBare s'.gens) st := by
  have hT2 : ∀ b ∈ cs.map (·.2), st.heap.get? b = some emptyT := fun b hb => by
    obtain ⟨p, hp, rfl⟩ := List.mem_map.mp hb
    exact hT p hp
  have aT : a ∉ cs.map (·.2) := fun z => by
    have := hT2 a z
    rw [ha] at this
    exact nomatch congrArg Obj.data (Option.some.inj this)
  obtain ⟨H, eH⟩ : ∃ H, H = firstH K a (cs.map (·.2)) vs ns := ⟨_, rfl⟩
  have some_ : ∀ {b u}, H b = some u → (b ∈ cs.map (·.2) ∧ u = .tbl #[]) ∨ (b ∉ cs.map (·.2) ∧ b = a ∧ K.lookup a = none ∧ u = .frz (scriptO vs) (.lst (ns.map V.int))) := fun {b u} h => firstH_some (by rw [← eH]; exact h)
  have off : ∀ {b : Addr} {o : Obj}, st.heap.get? b = some o → o.data ≠ (scriptO vs).data → o.data ≠ emptyT.data → H b = none := fun {b o} e n1 n2 => by rw [eH]; exact firstH_off ha hT2 e n1 n2
  have tab_ : ∀ p ∈ cs, H p.2 = some (.tbl #[]) := fun p hp => by rw [eH]; exact if_pos (List.mem_map.mpr ⟨p, hp, rfl⟩)
  have rv := vals_ints hi
  have held : HOk P w H st.heap := fun b u h => by
    rcases some_ h with ⟨hb, rfl⟩ | ⟨_, rfl, _, rfl⟩
    · exact hT2 b hb
    · exact ⟨ha, by rw [List.length_map]; exact hl, vs, _, rv, ha⟩
  have scr : SqL K H a (ns.map V.int) := by
    cases hk : K.lookup a with
    | none => exact .inl (.inr ⟨scriptO vs, by rw [eH]; exact (if_neg aT).trans (if_pos ⟨rfl, hk⟩)⟩)
    | some o =>
      have := KX a o hk
      rw [ha] at this
      cases this
      exact .inr ⟨_, vs.toArray, _, hk, rfl, rfl, rfl, by rw [List.size_toArray, hi.length]; exact hl, by simpa using rv⟩
  -- the heap with what is told taken out
  have keepD : ∀ {b : Addr} {o : Obj}, st.heap.get? b = some o → o.data ≠ (scriptO vs).data → o.data ≠ emptyT.data → (hidT st.heap H).get? b = some o := fun e n1 n2 => hidT_get e (off e n1 n2)
  have ns_ : ∀ {b : Addr} {m : Str → Option Value}, st.heap.Ns b m → (hidT st.heap H).Ns b m := fun {b m} ⟨o, es, ep, e, d, r⟩ =>
    ⟨o, es, ep, keepD e (by rw [d]; exact fun z => nomatch z) (by rw [d]; exact fun z => nomatch z), d, r⟩
  have Kb : K.In (hidT st.heap H) := fun b o e => by
    refine hidT_get (KX b o e) ?_
    cases h : H b with
    | none => rfl
    | some u =>
      exfalso
      rcases some_ h with ⟨hb, _⟩ | ⟨_, rfl, hk, _⟩
      · obtain ⟨p, hp, rfl⟩ := List.mem_map.mp hb
        rw [nT p hp] at e; exact nomatch e
      · rw [hk] at e; exact nomatch e
  have M : L2.Mod K mg (hidT st.heap H) := ⟨Kb, ns_ nm, ⟨mb, ns_ nb, hbb⟩, by obtain ⟨mc, l1, l2⟩ := lim; exact ⟨mc, ns_ l1, l2⟩⟩
  have TB : ∀ p ∈ cs, LamX.TabB (hidT st.heap H) mg p.1 p.2 := fun p hp => by
    have hmain : mainGlobals ≠ p.2 := fun z => by
      obtain ⟨o, es, ep, e, d, _⟩ := nm
      rw [z, hT p hp] at e
      cases e
      exact nomatch d
    refine ⟨PySem.W.codeHd_of_K Kb (C p hp), ?_, hmain⟩
    obtain ⟨bm, ob, b1, b2, b3, b4, b5, b6⟩ := hbm
    refine ⟨bm, ob, b1, b2, fun z => ?_, fun z => ?_, keepD b3 (by rw [b6]; exact fun z => nomatch z) (by rw [b6]; exact fun z => nomatch z), b4, b5, b6⟩
    · obtain ⟨o, es, ep, e, d, _⟩ := nm
      rw [z, e] at b3
      cases b3
      rw [d] at b6; exact nomatch b6
    · rw [z, hT p hp] at b3
      cases b3
      exact nomatch b6
  have E0_ : Env0 P w K mg (hidT st.heap H) callerA [] st H :=
    { frames := rfl, mod := M, bs := fun b o e => of_hidT e, bsz := Nat.le_of_eq (hidT_size _ _), funs := True.intro, frf := fun b hb => (nomatch hb), hok := held, bare := .of_eq gens }
  refine codeAny_mono ((F _ Kb (ns_ nm) TB).go callerA rfl hr [] st H ⟨[.ref a], []⟩ [.ref a] [.ref a] (fun v _ => v = .bl true) (fun _ _ _ => False) E0_ (bind st (.ref a)) (.cons rfl .nil) (hsp H tab_ scr)) fun r s' q => ?_
  match r, q with
  | .error e, q => exact (hZ H e s' q).elim
  | .ok .next, q => exact q.elim
  | .ok .brk, q => exact q.elim
  | .ok .cont, q => exact q.elim
  | .ok (.ret u), ⟨v, H2, os, bare, un, held2, rel, ev⟩ =>
    have ev : v = .bl true := ev
    subst ev
    have rel : u = Value.bool true := rel
    subst rel
    have still : ∀ b o, b ∉ cs.map (·.2) → st.heap.get? b = some o → s'.heap.get? b = some o := fun b o nb e => by
      cases h : H b with
      | none => exact un.keep b o e h (fun z => nomatch z) (fun z => nomatch z)
      | some u =>
        rcases some_ h with ⟨hb, _⟩ | ⟨_, rfl, _, rfl⟩
        · exact absurd hb nb
        · rw [ha] at e
          cases e
          exact (held2 _ _ (un.frzs _ _ _ h)).1
    have more_ : ∀ p ∈ cs, ∃ m : Array Value, s'.heap.get? p.2 = some { cls := .none, data := .fields m } := fun p hp => by
      obtain ⟨m, z⟩ := un.tbls p.2 #[] (tab_ p hp)
      exact ⟨_, held2 _ _ z⟩
    refine ⟨rfl, ⟨fun b o e => ?_, fun b o e => ?_⟩, os, bare⟩
    · by_cases hb : b ∈ cs.map (·.2)
      · obtain ⟨p, hp, rfl⟩ := List.mem_map.mp hb
        obtain ⟨m, hm⟩ := more_ p hp
        rw [hT p hp] at e
        cases e
        exact Or.inr (Or.inl ⟨((Ct p hp).tab (hT p hp)).isCodeTable, rfl, #[], m, rfl, by rw [Array.empty_append]; exact hm⟩)
      · exact Or.inl (still b o hb e)
    · by_cases hb : b ∈ cs.map (·.2)
      · obtain ⟨p, hp, rfl⟩ := List.mem_map.mp hb
        obtain ⟨m, hm⟩ := more_ p hp
        exact ⟨_, hm⟩
      · exact ⟨o, still b o hb e⟩
end
/-- what is known of the law at the head's heap -/
def LawAtG (l : PySem.W.OpenLaw) (w : World) (K : PySem.W.Frag) (Z : CXT) (k n : Nat) (x : Str) (mg : Str → Option Value) (fa : Addr) (h : Heap) : Prop :=
  ∃ (fd : FuncData) (cs : List (Addr × Addr)) (sp : Sp), (∀ p ∈ cs, h.get? p.2 = some emptyT) ∧ (∀ p ∈ cs, K.lookup p.2 = none) ∧ (∀ p ∈ cs, PySem.W.codeHdIn K p.1 p.2 = true) ∧ (∀ (s : Shared) (u : Value), BindsTo s fd ⟨[u], []⟩ [(x, u)]) ∧
    (∀ (H : Hp) (a : Addr) (ns : List Int), ns.length ≤ n → (∀ p ∈ cs, H p.2 = some (.tbl #[])) → SqL K H a (ns.map V.int) → sp [.ref a] H (fun v _ => v = .bl true) fun _ _ _ => False) ∧
    ∀ base : Heap, K.In base → base.Ns mainGlobals mg → (∀ p ∈ cs, LamX.TabB base mg p.1 p.2) → FnG l.prog w K mg base Z k fa fd [x] sp
theorem walkG {l : PySem.W.OpenLaw} {n k : Nat} {q : Program} {loose : List Str} {XP : (Str → Option Value) → Heap → Prop} {YP : World → Heap → Prop} {d : DefRec} {K : Params → PySem.W.Frag} {x : Str}
    (hn : l.most = some n) (hn2 : n ≤ sizeLine) (hdf : d.params.defaults = []) (hr : Room k callerA) (hY : ∀ (w : World) (h : Heap), YP w h → (K w.params).In h)
    (F : ∀ (w : World) (mg : Str → Option Value) (fa : Addr) (h : Heap), YP w h → (K w.params).In h → h.Ns mainGlobals mg → mg d.name = some (.ref fa) → LawAtG l w (K w.params) (L2.CX l.prog w) k n x mg fa h) :
    PySem.W.WalkO q loose XP YP l.row.toRowW d [] (fun f vs => PySem.call f vs) :=
  Att.attach_callB hn hdf fun w s₀ s₁ mg mb fa o pm cd doc a vs ns G Y ho hd hcd hmg hobj hints hlen hbits hg => by
    have KX := hY w _ Y
    obtain ⟨fd, cs, sp, h1, h2, h3, h4, h5, h6⟩ := F w mg fa _ Y KX G.T.g hmg
    exact law_callG KX G.T.g G.T.b G.T.builtins G.T.nolimit hg h1 h2 h3 (fun p hp => PySem.W.codeHd_of_K KX (h3 p hp)) G.T.bmain hobj hints (Nat.le_trans hlen hn2) hr h6 h4 (fun H hH hS => h5 H a ns hlen hH hS) fun H e s' z => law_cx z
end Dn

set_option maxRecDepth 100000
set_option maxHeartbeats 1000000
namespace Dn
open PySem PySem.Spec PyProof.Rows L2
/-! ### x in l -/
def mInS (neg : Bool) : M2 := fun u v S => (dataOf S u).bind fun d => (dataOf S v).bind fun e => match e with
  | .list ds => some (.p (.bl (neg ^^ ds.any fun z => PyData.eqv z d)))
  | .tuple ds => some (.p (.bl (neg ^^ ds.any fun z => PyData.eqv z d)))
  | _ => none
section
variable {X : Cx} {T : Tab}
theorem shaped_tuple {ds : List PyData} (h : SeqAt.shaped (.tuple ds) = true) : PyData.canLayAll0 ds = true := SeqAt.canLay_of_shaped h
theorem o_inS (hu : X.A.units + 128 < cLine) : OpM X T (compareOp .In) (mInS false) := by
  intro pins s σ H x y v u Q I rx ry ⟨g, a, b, S, ra, rb, hS, hp⟩
  unfold mInS at hp
  cases e1 : dataOf S a with
  | none => simp only [e1, Option.bind_none] at hp; exact hp.elim
  | some d =>
    cases e2 : dataOf S b with
    | none => simp only [e1, e2, Option.bind_none, Option.bind_some] at hp; exact hp.elim
    | some e =>
      simp only [e1, e2, Option.bind_some] at hp
      obtain ⟨h1, s1⟩ := hS.data e1 ra
      obtain ⟨h2, s2⟩ := hS.data e2 rb
      cases e with
      | list ds =>
        simp only [Bool.false_xor] at hp
        exact op_inD (by omega) pins s σ H x y v u Q I rx ry ⟨d, ds, h1, h2, s1, s2, PostE.val (v := .p (.bl _)) hp rfl hS⟩
      | tuple ds =>
        simp only [Bool.false_xor] at hp
        obtain ⟨as, r1⟩ := Dp.reads I d x v h1 rx
        obtain ⟨bs, r2⟩ := Dp.reads I (.tuple ds) y u h2 ry
        exact SeqAt.in_tuple_reads r2 r1 (shaped_tuple s2) (SeqAt.canLay_of_shaped s1) (room_in_shaped s1 (by omega)) ⟨.bl _, H, I, rfl, PostE.val (v := .p (.bl _)) hp rfl hS⟩
      | _ => exact hp.elim
theorem o_notinS (hu : X.A.units + 128 < cLine) : OpM X T (compareOp .NotIn) (mInS true) := by
  intro pins s σ H x y v u Q I rx ry ⟨g, a, b, S, ra, rb, hS, hp⟩
  unfold mInS at hp
  cases e1 : dataOf S a with
  | none => simp only [e1, Option.bind_none] at hp; exact hp.elim
  | some d =>
    cases e2 : dataOf S b with
    | none => simp only [e1, e2, Option.bind_none, Option.bind_some] at hp; exact hp.elim
    | some e =>
      simp only [e1, e2, Option.bind_some] at hp
      obtain ⟨h1, s1⟩ := hS.data e1 ra
      obtain ⟨h2, s2⟩ := hS.data e2 rb
      cases e with
      | list ds =>
        simp only [Bool.true_xor] at hp
        exact op_notInD (by omega) pins s σ H x y v u Q I rx ry ⟨d, ds, h1, h2, s1, s2, PostE.val (v := .p (.bl _)) hp rfl hS⟩
      | tuple ds =>
        simp only [Bool.true_xor] at hp
        obtain ⟨as, r1⟩ := Dp.reads I d x v h1 rx
        obtain ⟨bs, r2⟩ := Dp.reads I (.tuple ds) y u h2 ry
        exact SeqAt.notIn_tuple_reads r2 r1 (shaped_tuple s2) (SeqAt.canLay_of_shaped s1) (room_in_shaped s1 (by omega)) ⟨.bl _, H, I, rfl, PostE.val (v := .p (.bl _)) hp rfl hS⟩
      | _ => exact hp.elim
theorem o_inD (hu : X.A.units + 128 < cLine) : OpM X T (compareOp .In) (mDIn false) := by
  intro pins s σ H x y v u Q I rx ry ⟨g, a, b, S, ra, rb, hS, hp⟩
  obtain ⟨ad, o, rfl, dg, q⟩ := din_of (X := X) (T := T) (neg := false) ⟨g, a, b, S, ra, rb, hS, hp⟩
  obtain rfl : u = Value.ref ad := ry
  simp only [Bool.false_xor] at q
  exact d_in (by omega) I dg rx fun s2 I2 => ⟨.bl _, H, I2, rfl, q⟩
theorem o_notinD (hu : X.A.units + 128 < cLine) : OpM X T (compareOp .NotIn) (mDIn true) := by
  intro pins s σ H x y v u Q I rx ry ⟨g, a, b, S, ra, rb, hS, hp⟩
  obtain ⟨ad, o, rfl, dg, q⟩ := din_of (X := X) (T := T) (neg := true) ⟨g, a, b, S, ra, rb, hS, hp⟩
  obtain rfl : u = Value.ref ad := ry
  simp only [Bool.true_xor] at q
  exact d_notIn (by omega) I dg rx fun s2 I2 => ⟨.bl _, H, I2, rfl, q⟩
def mIn : M2 := (mInS false).or (mDIn false)
def mNotIn : M2 := (mInS true).or (mDIn true)
theorem o_in (hu : X.A.units + 128 < cLine) : OpM X T (compareOp .In) mIn := (o_inS hu).or (o_inD hu)
theorem o_notin (hu : X.A.units + 128 < cLine) : OpM X T (compareOp .NotIn) mNotIn := (o_notinS hu).or (o_notinD hu)
end
/-! ### the order of data -/
def notNone : PyData → Bool
  | .none => false
  | _ => true
def cmpD (f : PyData → PyData → Bool) : M2 := fun v u S => (dataOf S v).bind fun d => (dataOf S u).bind fun e => if PySem.W.alike d e = true ∧ notNone d = true then some (.p (.bl (f d e))) else none
def mLtG : M2 := mLt.or (cmpD fun d e => PySem.W.dataLt d e)
def mLeG : M2 := mLe.or (cmpD fun d e => !PySem.W.dataLt e d)
def mGtG : M2 := mGt.or (cmpD fun d e => PySem.W.dataLt e d)
def mGeG : M2 := mGe.or (cmpD fun d e => !PySem.W.dataLt d e)
section
variable {X : Cx} {T : Tab}
theorem o_cmpD {op : CmpOp} {f : PyData → PyData → Bool} (hu : X.A.units + 128 < cLine)
    (rule : ∀ (d e : PyData) (s : Shared) (a b : Value) (as bs : List Addr) (Q : Value → Shared → Prop), Reads s.heap a d as → Reads s.heap b e bs → PySem.W.alike d e = true → d ≠ .none → X.A.units + min d.depth e.depth < cLine → Q (.bool (f d e)) s →
      wpAny (model X.prog X.w) X.A (compareOp op a b) Q X.xe s) : OpM X T (compareOp op) (cmpD f) := by
  intro pins s σ H x y v u Q I rx ry ⟨g, a, b, S, ra, rb, hS, hp⟩
  unfold cmpD at hp
  cases e1 : dataOf S a with
  | none => simp only [e1, Option.bind_none] at hp; exact hp.elim
  | some d =>
    cases e2 : dataOf S b with
    | none => simp only [e1, e2, Option.bind_none, Option.bind_some] at hp; exact hp.elim
    | some e =>
      simp only [e1, e2, Option.bind_some] at hp
      by_cases hc : PySem.W.alike d e = true ∧ notNone d = true
      · rw [if_pos hc] at hp
        obtain ⟨h1, s1⟩ := hS.data e1 ra
        obtain ⟨h2, s2⟩ := hS.data e2 rb
        obtain ⟨as, r1⟩ := Dp.reads I d x v h1 rx
        obtain ⟨bs, r2⟩ := Dp.reads I e y u h2 ry
        have hdep := SeqAt.depth_of_shaped s1
        refine rule d e s v u as bs _ r1 r2 hc.1 (fun z => by subst z; exact nomatch hc.2) (by have := Nat.min_le_left d.depth e.depth; omega) ⟨.bl _, H, I, rfl, PostE.val (v := .p (.bl _)) hp rfl hS⟩
      · rw [if_neg hc] at hp; exact hp.elim
theorem o_ltG (hu : X.A.units + 128 < cLine) : OpM X T (compareOp .Lt) mLtG := o_lt.or (o_cmpD hu fun d e s a b as bs Q r1 r2 h n u q => PySem.W.lt_data r1 r2 h n u q)
theorem o_leG (hu : X.A.units + 128 < cLine) : OpM X T (compareOp .LtE) mLeG := o_le.or (o_cmpD hu fun d e s a b as bs Q r1 r2 h n u q => PySem.W.le_data r1 r2 h n u q)
theorem o_gtG (hu : X.A.units + 128 < cLine) : OpM X T (compareOp .Gt) mGtG := o_gt.or (o_cmpD hu fun d e s a b as bs Q r1 r2 h n u q => PySem.W.gt_data r1 r2 h n u q)
theorem o_geG (hu : X.A.units + 128 < cLine) : OpM X T (compareOp .GtE) mGeG := o_ge.or (o_cmpD hu fun d e s a b as bs Q r1 r2 h n u q => PySem.W.ge_data r1 r2 h n u q)
end
/-! ### repr -/
def mRepr : MB := mB1 fun v S => (dataOf S v).bind fun d => if d.showable = true ∧ d.shown.length ≤ 16000000 then some (.p (.str d.shown)) else none
section
variable {X : Cx} {T : Tab}
theorem call_reprD (ga : X.A.guards = some []) (hu : X.A.units + 128 < cLine) : CallR X (.builtin "repr") (fun xs H Q => ∃ x d, xs = [x] ∧ Dp X.K H x d ∧ SeqAt.shaped d = true ∧ d.showable = true ∧ d.shown.length ≤ 16000000 ∧ Q (.str d.shown) H) := by
  intro pins s σ H xs us Q I r ⟨x, d, e, hd, sh, hs, hl, q⟩
  subst e
  obtain ⟨u, rfl, ru⟩ := vals1 r
  obtain ⟨as, rd⟩ := Dp.reads I d x u hd ru
  have hz : d.shown.length ≤ sizeLine := by rw [sizeLine_eq]; omega
  have hdep := SeqAt.depth_of_shaped sh
  have lay : d.canLay0 = true := by
    have z := sh
    unfold SeqAt.shaped at z
    rw [Bool.and_eq_true] at z
    exact z.1
  have fin : ∀ tk u2, EP X pins σ Q (.str d.shown u2) { s with toks := tk } := fun tk u2 => ⟨.str _, H, I.tok _, ⟨_, rfl⟩, q⟩
  cases rd with
  | none => rw [PyData.shown_none] at fin; exact PySem.P.repr_of_none (fin _ _)
  | bool b =>
    rw [PyData.shown_bool] at fin
    have := PySem.P.repr_of_bool (prog := X.prog) (w := X.w) (A := X.A) (E := X.xe) (s := s) (b := b) (Q := EP X pins σ Q) (by cases b <;> exact fin _ _)
    exact this
  | int i t =>
    rw [PyData.shown_int] at fin
    exact PySem.P.repr_of_int (by simpa [PyData.showable] using hs) (fin _ _)
  | str z t =>
    rw [PyData.shown_str] at fin hz
    exact PySem.P.repr_of_str (fin _ _) hz
  | list h1 h2 h3 h4 =>
    exact repr_of_reads' (.list h1 h2 h3 h4) hs (PyData.noDict_hsm (PyData.hasDict_of_canLay _ lay)) ga (by omega) (fun _ _ z => z) (fun h' u2 tk hk => ⟨.str _, H, I.kept hk, ⟨_, rfl⟩, q⟩) hz
  | tuple h1 h2 h3 h4 =>
    exact repr_of_reads' (.tuple h1 h2 h3 h4) hs (PyData.noDict_hsm (PyData.hasDict_of_canLay _ lay)) ga (by omega) (fun _ _ z => z) (fun h' u2 tk hk => ⟨.str _, H, I.kept hk, ⟨_, rfl⟩, q⟩) hz
  | dict => simp [PyData.canLay0] at lay
theorem b_repr (ga : X.A.guards = some []) (hu : X.A.units + 128 < cLine) : BiM X T (.builtin "repr") mRepr := biM_1 (call_reprD ga hu) fun g v S x H w Q e r s p => by
  cases e1 : dataOf S v with
  | none => rw [e1] at e; exact nomatch e
  | some d =>
    rw [e1] at e
    simp only [Option.bind_some] at e
    split at e
    · rename_i hc
      cases e
      obtain ⟨h1, s1⟩ := s.data e1 r
      exact ⟨x, d, rfl, h1, s1, hc.1, hc.2, p.val rfl s⟩
    · exact nomatch e
end
/-! ### sorted -/
def srtB (ds : List PyData) : Bool := (ds.all fun d => ds.all fun e => PySem.W.alike d e) && ((ds.all fun d => match d with | .tuple (_ :: _) => true | _ => false) || ds.all fun d => match d with | .none => false | .tuple _ => false | _ => true)
def srtL {α : Type} (xs : List α) (ds : List PyData) : List α := ((xs.zip ds).mergeSort (PySem.W.dataLe false fun p => p.2)).map (·.1)
def mSorted : MB := mB1 fun v S => (asList S v).bind fun xs => (toDL 59 xs).bind fun ds => if srtB ds = true ∧ xs.length ≤ LIM then some (.p (.lst (srtL xs ds))) else none
theorem srt_alike {ds : List PyData} (h : srtB ds = true) : PySem.W.AllAlike ds := fun d hd e he => by
  unfold srtB at h
  rw [Bool.and_eq_true] at h
  exact List.all_eq_true.mp (List.all_eq_true.mp h.1 d hd) e he
theorem srt_sortable {ds : List PyData} (h : srtB ds = true) : PySem.W.Sortable ds := by
  unfold srtB at h
  rw [Bool.and_eq_true, Bool.or_eq_true] at h
  rcases h.2 with z | z
  · refine .inl fun d hd => ?_
    have := List.all_eq_true.mp z d hd
    revert this
    split
    · exact fun _ => ⟨_, _, rfl⟩
    · exact fun q => nomatch q
  · refine .inr fun d hd => ?_
    have := List.all_eq_true.mp z d hd
    revert this
    split
    · exact fun q => nomatch q
    · exact fun q => nomatch q
    · rename_i n1 n2
      exact fun _ => ⟨fun e => n1 e, fun xs e => n2 xs e⟩
section
variable {X : Cx} {T : Tab}
def rSrtD (K : PySem.W.Frag) : List V → Hp → VK → Prop := fun vs H Q => ∃ (a : Addr) (xs : List V) (ds : List PyData), vs = [V.ref a] ∧ SqL K H a xs ∧ DpAll K H xs ds ∧ srtB ds = true ∧ PyData.depthAll ds ≤ 64 ∧ xs.length ≤ LIM ∧ ∀ p, H p = none → Q (.ref p) (upd H p (.lst (srtL xs ds)))
theorem dpAll_length {K : PySem.W.Frag} {H : Hp} : ∀ {xs : List V} {ds : List PyData}, DpAll K H xs ds → ds.length = xs.length
  | _, _, .nil => rfl
  | _, _, .cons _ h => by rw [List.length_cons, List.length_cons, dpAll_length h]
theorem depth_mem : ∀ {ds : List PyData} {d : PyData}, d ∈ ds → d.depth ≤ PyData.depthAll ds
  | x :: xs, d, h => by
    rw [PyData.depthAll]
    rcases List.mem_cons.mp h with rfl | h
    · exact Nat.le_max_left _ _
    · exact Nat.le_trans (depth_mem h) (Nat.le_max_right _ _)
theorem each_of {s : Shared} : ∀ {xs : List V} {us : List Value} {ds : List PyData} {as : List Addr}, Vals xs us → ReadsAll s.heap us ds as → PySem.W.EachIs (fun (v : Value) (b : V × PyData) => RelV b.1 v) us (xs.zip ds) ∧ PySem.W.EachIs (fun (v : Value) (b : V × PyData) => ∃ as, Reads s.heap v b.2 as) us (xs.zip ds)
  | _, _, _, _, .nil, .nil => ⟨.nil, .nil⟩
  | _, _, _, _, .cons r t, .cons h1 h2 => ⟨.cons r (each_of t h2).1, .cons ⟨_, h1⟩ (each_of t h2).2⟩
theorem each_vals : ∀ {us : List Value} {bs : List (V × PyData)}, PySem.W.EachIs (fun (v : Value) (b : V × PyData) => RelV b.1 v) us bs → Vals (bs.map (·.1)) us
  | _, _, .nil => .nil
  | _, _, .cons r t => .cons r (each_vals t)
theorem zip_snd : ∀ {xs : List V} {ds : List PyData}, ds.length = xs.length → (xs.zip ds).map (·.2) = ds
  | [], [], _ => rfl
  | [], _ :: _, h => nomatch h
  | _ :: _, [], h => nomatch h
  | x :: xs, d :: ds, h => by rw [List.zip_cons_cons, List.map_cons, zip_snd (Nat.succ.inj h)]
theorem cr_srtD (hu : X.A.units + 128 < cLine) : CallR X (.builtin "sorted") (rSrtD X.K) := by
  intro pins s σ H vs us Q I r ⟨a, xs, ds, e, hs, hd, hb, hdep, hlen, q⟩
  subst e
  obtain ⟨its, rv, hl, hz⟩ := I.list hs
  obtain ⟨u, rfl, ru⟩ := vals1 r
  obtain rfl : u = Value.ref a := ru
  obtain ⟨as, ra⟩ := Dp.readsAll I ds xs its hd rv
  obtain ⟨e1, e2⟩ := each_of rv ra
  have hL := dpAll_length hd
  have hz2 : (xs.zip ds).map (fun p => p.2) = ds := zip_snd hL
  have hzl : (xs.zip ds).length = xs.length := by rw [List.length_zip, hL, Nat.min_self]
  refine PySem.W.sorted_data (enc := fun p : V × PyData => p.2) hl.isList e1 e2 (by rw [hz2]; exact srt_alike hb) (by rw [hz2]; exact srt_sortable hb) (by rw [hzl]; exact lim_line hlen) (fun b hb2 => ?_) fun out ho eo => ?_
  · have := depth_mem (d := b.2) (ds := ds) (by rw [← hz2]; exact List.mem_map.mpr ⟨b, hb2, rfl⟩)
    omega
  · have hv := each_vals eo
    have hlen2 : (srtL xs ds).length ≤ sizeLine := by
      unfold srtL
      rw [List.length_map, List.length_mergeSort, hzl]
      exact lim_line hlen
    obtain ⟨en, hen⟩ := sortedAll_at s.heap its (List.toArray out)
    exact ⟨.ref (s.heap.objs.size + 1), upd H (s.heap.objs.size + 1) (.lst (srtL xs ds)), I.laid (t' := s.toks) (fun b o z => sortedAll_old z) (Nat.le_succ _) ⟨hlen2, out, en, hv, hen⟩, rfl, q _ (I.hok.fresh (Nat.le_succ _))⟩
theorem rpl_srt {K : PySem.W.Frag} {F : Hp} {xs : List PV} {vs : List V} {ds : List PyData} (h : RpL K T F xs vs) (hl : ds.length = vs.length) : RpL K T F (srtL xs ds) (srtL vs ds) := by
  have key : ∀ (ts : List (PV × V × PyData)), (∀ t ∈ ts, Rp K T F t.1 t.2.1) → RpL K T F (ts.map (·.1)) (ts.map (·.2.1)) := fun ts => by
    induction ts with
    | nil => exact fun _ => rfl
    | cons t ts ih => exact fun h => ⟨t.2.1, _, rfl, h t List.mem_cons_self, ih fun u hu => h u (List.mem_cons_of_mem _ hu)⟩
  have zips : ∀ {xs : List PV} {vs : List V} {ds : List PyData}, RpL K T F xs vs → ds.length = vs.length → ∃ ts : List (PV × V × PyData), xs.zip ds = ts.map (fun t => (t.1, t.2.2)) ∧ vs.zip ds = ts.map (·.2) ∧ ∀ t ∈ ts, Rp K T F t.1 t.2.1 := fun {xs} => by
    induction xs with
    | nil => intro vs ds r _; cases r; exact ⟨[], rfl, rfl, by simp⟩
    | cons x xs ih =>
      intro vs ds ⟨v, r, e, h1, h2⟩ hl
      subst e
      cases ds with
      | nil => exact nomatch hl
      | cons d ds =>
        obtain ⟨ts, e1, e2, h3⟩ := ih h2 (Nat.succ.inj hl)
        refine ⟨(x, v, d) :: ts, by rw [List.zip_cons_cons, List.map_cons, e1], by rw [List.zip_cons_cons, List.map_cons, e2], fun t ht => ?_⟩
        rcases List.mem_cons.mp ht with rfl | ht
        · exact h1
        · exact h3 t ht
  obtain ⟨ts, e1, e2, h3⟩ := zips h hl
  obtain ⟨le, hle⟩ : ∃ le : PV × V × PyData → PV × V × PyData → Bool, le = fun a b => PySem.W.dataLe false (fun p : PyData => p) a.2.2 b.2.2 := ⟨_, rfl⟩
  have m1 : srtL xs ds = (ts.mergeSort le).map (·.1) := by
    unfold srtL
    rw [e1, ← List.map_mergeSort (r := le) (fun a _ b _ => by rw [hle]; rfl), List.map_map]
    rfl
  have m2 : srtL vs ds = (ts.mergeSort le).map (·.2.1) := by
    unfold srtL
    rw [e2, ← List.map_mergeSort (r := le) (fun a _ b _ => by rw [hle]; rfl), List.map_map]
    rfl
  rw [m1, m2]
  exact key _ fun t ht => h3 t ((List.mergeSort_perm _ _).mem_iff.mp ht)
theorem b_sorted (hu : X.A.units + 128 < cLine) : BiM X T (.builtin "sorted") mSorted := biM_1 (cr_srtD hu) fun g v S x H w Q e r s p => by
  cases e1 : asList S v with
  | none => rw [e1] at e; exact nomatch e
  | some xs =>
    cases e2 : toDL 59 xs with
    | none => simp only [e1, e2, Option.bind_some, Option.bind_none] at e; exact nomatch e
    | some ds =>
      simp only [e1, e2, Option.bind_some] at e
      split at e
      · rename_i hc
        cases e
        obtain ⟨a, vs, rfl, h1, h2⟩ := s.lst e1 r
        have hd := toDL_dp s.fz 59 xs vs ds e2 h2
        have hl := dpAll_length hd
        exact ⟨a, vs, ds, rfl, .inl (.inl h1), hd, hc.1, Nat.le_trans (toDL_sh 59 xs ds e2).2 (by decide), by rw [h2.length]; exact hc.2, p.newL s (rpl_srt h2 hl)⟩
      · exact nomatch e
end
end Dn

set_option maxRecDepth 100000
set_option maxHeartbeats 1000000
namespace Dn
open PySem PySem.Spec PyProof.Rows L2
section
variable {K : PySem.W.Frag} {T : Tab} {g : G} {S : Sto} {H : Hp}
/-- no tuple of the store -/
def noTup (S : Sto) : Bool := S.all fun o => match o with | .tup _ => false | _ => true
/-- a tuple that is seen stands for good -/
theorem Rs.see (r : Rs K T g S H) {b : Addr} {vs : List V} (hb : H b = some (.tup vs)) (hn : noTup S = true) : ∃ g', g.le g' ∧ g'.f = g.f ∧ Rs K T g' S H ∧ g'.F b = some (.tup vs) := by
  have hf : b ∉ g.f := fun hm => by
    obtain ⟨i, hi, e⟩ := List.getElem_of_mem hm
    have hS : i < S.length := by rw [r.len]; exact hi
    have q := r.at_ i S[i] b (List.getElem?_eq_getElem hS) (by rw [List.getElem?_eq_getElem hi, e])
    have z := List.all_eq_true.mp hn S[i] (List.getElem_mem hS)
    cases ho : S[i] with
    | tup xs => rw [ho] at z; exact nomatch z
    | lst xs => rw [ho] at q; obtain ⟨_, e, _⟩ := q; rw [hb] at e; exact nomatch e
    | ins c fs => rw [ho] at q; obtain ⟨_, _, e, _⟩ := q; rw [hb] at e; exact nomatch e
    | dic t kvs => rw [ho] at q; cases t <;> (obtain ⟨_, e, _⟩ := q; rw [hb] at e; exact nomatch e)
  have hF : Same g.F (upd g.F b (.tup vs)) := fun a o e => by
    by_cases ha : a = b
    · subst ha
      have := r.fz _ _ e
      rw [hb] at this
      cases this
      exact upd_same
    · rw [upd_ne ha]; exact e
  refine ⟨{ g with F := upd g.F b (.tup vs) }, ⟨⟨hF, List.prefix_refl _⟩, rfl⟩, rfl, ⟨r.len, r.nd, fun a o e => ?_, fun a ha => ?_, fun i so a h1 h2 => ?_, fun q hq => ?_, r.hnd, r.tab, fun a ps e => ?_, r.hpl⟩, upd_same⟩
  · by_cases ha : a = b
    · subst ha
      have e' : upd g.F a (.tup vs) a = some o := e
      rw [upd_same] at e'
      cases e'
      exact hb
    · have e' : upd g.F b (.tup vs) a = some o := e
      rw [upd_ne ha] at e'
      exact r.fz _ _ e'
  · show upd g.F b (.tup vs) a = none
    rw [upd_ne (fun e => hf (by rw [← e]; exact ha))]
    exact r.apart a ha
  · exact Ro.mono (g := g) (g' := { g with F := upd g.F b (.tup vs) }) K T ⟨hF, List.prefix_refl _⟩ (r.at_ i so a h1 h2)
  · obtain ⟨h1, h2, h3⟩ := r.hid q hq
    have hne : q.1 ≠ b := fun e => by
      rw [e, hb] at h1
      exact (r.hpl q hq).u vs (Option.some.inj h1).symm
    exact ⟨h1, by show upd g.F b (.tup vs) q.1 = none; rw [upd_ne hne]; exact h2, h3⟩
  · by_cases ha : a = b
    · subst ha
      have e' : upd g.F a (.tup vs) a = some (.tbl ps) := e
      rw [upd_same] at e'
      exact nomatch e'
    · have e' : upd g.F b (.tup vs) a = some (.tbl ps) := e
      rw [upd_ne ha] at e'
      exact r.ntb _ _ e'
theorem key_Rp {F : Hp} {k : PV} {q : L2.Key} (hk : keyP k = some q) : Rp K T F k (kV q) := by
  cases k <;> first | (simp [keyP] at hk; done) | (cases hk; rfl)
theorem keys_Rp {F : Hp} : ∀ {ks : List PV} {qs : List L2.Key}, keysP ks = some qs → RpL K T F ks (qs.map kV)
  | [], _, e => by cases e; rfl
  | k :: ks, qs, e => by
    unfold keysP at e
    cases h : keyP k with
    | none => simp [h] at e
    | some q =>
      cases h3 : keysP ks with
      | none => simp [h, h3] at e
      | some rs => simp [h, h3] at e; subst e; exact ⟨kV q, _, rfl, key_Rp h, keys_Rp h3⟩
theorem keysK_Rp {F : Hp} : ∀ {kvs : List (PV × VV)} {vs : List (L2.Key × V)}, RvK K T g kvs vs → RpL K T F (kvs.map (·.1)) (vs.map fun kv => kV kv.1)
  | [], _, r => by cases r; rfl
  | (k, x) :: xs, _, ⟨q, v, r, e, hk, _, h2⟩ => by subst e; exact ⟨kV q, _, rfl, key_Rp hk, keysK_Rp h2⟩
theorem keysT_Rp : ∀ {kvs : List (PV × VV)} {vs : List (List L2.Key × V)} {bs : List Addr} {g : G}, RvT K T g kvs vs → IsKeys H vs bs → Rs K T g S H → noTup S = true → ∃ g', g.le g' ∧ g'.f = g.f ∧ Rs K T g' S H ∧ RpL K T g'.F (kvs.map (·.1)) (bs.map V.ref)
  | [], _, bs, g, r, hk, hS, _ => by
    cases r
    cases hk
    exact ⟨g, G.le.refl g, rfl, hS, rfl⟩
  | (k, x) :: xs, _, bs, g, ⟨q, v, r, e, hq, _, h2⟩, hk, hS, hn => by
    subst e
    cases hk with
    | @cons _ b _ bs hb t =>
      obtain ⟨g1, l1, f1, s1, hF⟩ := hS.see hb hn
      obtain ⟨g2, l2, f2, s2, r2⟩ := keysT_Rp (h2.mono K T l1.s) t s1 hn
      refine ⟨g2, l1.trans l2, f2.trans f1, s2, .ref b, _, rfl, ?_, r2⟩
      cases k <;> first | (simp [tkeyP] at hq; done) | skip
      exact ⟨b, _, rfl, l2.F _ _ hF, keys_Rp hq⟩
end
def mListD : MB := mB1 fun v S => (dicOf S v).bind fun d => if d.2.length ≤ LIM ∧ noTup S = true then some (.p (.lst (d.2.map (·.1)))) else none
section
variable {X : Cx} {T : Tab} {E : XK}
theorem b_listD (hc : X.calm = true) : BiM X T (.type "list") mListD := by
  intro pins s σ H xs us Q I r ⟨g, vs, S, rv, rs, p⟩
  unfold mListD mB1 at p
  split at p
  · rename_i v
    obtain ⟨x, rfl, r1⟩ := rv.one
    cases e : dicOf S v with
    | none => simp only [e, Option.bind_none] at p; exact p.elim
    | some d =>
      obtain ⟨t, kvs⟩ := d
      simp only [e, Option.bind_some] at p
      split at p
      · rename_i hl
        obtain ⟨a, rfl, ⟨rfl, ws, h1, h2⟩ | ⟨rfl, ws, h1, h2⟩⟩ := rs.dic e r1
        · exact call_list_dK hc pins s σ H _ us Q I r ⟨a, ws, rfl, h1, PostE.newL p rs (keysK_Rp h2)⟩
        · refine call_list_dT hc pins s σ H _ us Q I r ⟨a, ws, rfl, .inl h1, fun q bs hq hk => ?_⟩
          obtain ⟨g2, l2, f2, s2, r2⟩ := keysT_Rp h2 hk rs hl.2
          exact PostE.newL (PostE.up l2 p) s2 r2 q hq
      · exact p.elim
  · exact p.elim
def mLstA : MB := mLst.or mListD
theorem b_lstA (hc : X.calm = true) : BiM X T (.type "list") mLstA := b_lst.or (b_listD hc)
end
end Dn

set_option maxRecDepth 100000
set_option maxHeartbeats 1000000
namespace Dn
open PySem PySem.Spec PyProof.Rows L2
/-! ### targets of any kind -/
abbrev DG := VV → DS
def dGN (i : Nat) : DG := fun u env S => .nx (env.set i (some u)) S
/-- o[i] = u, by values -/
def setO (o i u : VV) (env : En) (S : Sto) : RS := match o, i with
  | .ob j, .p k => match S[j]? with
    | some (.lst xs) => match k with
      | .int z => match ixN xs.length z with
        | some n => .nx env (S.set j (.lst (xs.set n u)))
        | none => .no
      | _ => .no
    | some (.dic t kvs) => if keyOk t k = true ∧ kvs.length < LIM then .nx env (S.set j (.dic t (putD kvs k u))) else .no
    | _ => .no
  | _, _ => .no
def dGSub (mo mi : DE) : DG := fun u env S => (mo env S).bindS fun o S2 => (mi env S2).bindS fun i S3 => setO o i u env S3
def dGFld (c0 : Nat) (f : String) (mo : DE) : DG := fun u env S => (mo env S).bindS fun o S2 => match o with
  | .ob j => match S2[j]? with
    | some (.ins c fs) => if c = c0 ∧ fs.length < 1000 then .nx env (S2.set j (.ins c (putA f u fs))) else .no
    | _ => .no
  | _ => .no
def RS.then (r : RS) (k : En → Sto → RS) : RS := match r with
  | .nx e S => k e S
  | .exc c fs S => .exc c fs S
  | _ => .no
@[simp] theorem RS.then_nx (e : En) (S : Sto) (k) : (RS.nx e S).then k = k e S := rfl
abbrev DGs := List VV → DS
def dGNil : DGs := fun us env S => match us with
  | [] => .nx env S
  | _ => .no
def dGCons (m : DG) (ms : DGs) : DGs := fun us env S => match us with
  | u :: r => (m u env S).then fun e S' => ms r e S'
  | [] => .no
def tupOf (S : Sto) : VV → Option (List VV)
  | .p (.tup xs) => some (xs.map .p)
  | .ob j => match S[j]? with
    | some (.tup xs) => some xs
    | _ => none
  | _ => none
def dGTup (n : Nat) (ms : DGs) : DG := fun u env S => match tupOf S u with
  | some xs => if xs.length = n then ms xs env S else .no
  | none => .no
def dSetG (m : DG) (ma : DE) : DS := fun env S => (ma env S).bindS fun v S1 => m v env S1
section
variable {X : Cx} {T : Tab} {E : XK} {e a b c o tg i value : Expr} {pos : Pos} {ma mo mi mv : DE}
def tGD (K : PySem.W.Frag) (T : Tab) (E : XK) (m : DG) : TG := fun v σ H Q => ∃ g env S u D, Re K T g env σ ∧ Rs K T g S H ∧ Rv K T g u v ∧ D.nx = Q ∧ PostS K T E D g (m u env S)
def tGDs (K : PySem.W.Frag) (T : Tab) (E : XK) (m : DGs) : TGs := fun vs σ H Q => ∃ g env S us D, Re K T g env σ ∧ Rs K T g S H ∧ RvL K T g us vs ∧ D.nx = Q ∧ PostS K T E D g (m us env S)
theorem pg_imp {t t' : TG} (h : PG X e t) (k : ∀ v σ H Q, t' v σ H Q → t v σ H Q) : PG X e t' := ⟨fun pins s σ H v u Q I r q => h.run pins s σ H v u Q I r (k v σ H Q q)⟩
theorem pgs_imp {es : List Expr} {t t' : TGs} (h : PGs X es t) (k : ∀ v σ H Q, t' v σ H Q → t v σ H Q) : PGs X es t' := ⟨fun pins s σ H v u Q I r q => h.run pins s σ H v u Q I r (k v σ H Q q)⟩
theorem gd_name {i : Nat} {x : Str} (hN : X.N.Nodup) (hi : X.N[i]? = some x) (hx : Loc X.env.scope x) (hf : X.fn x = true ∨ X.env.scope.names.lookup x = some .local) : PG X (.Name x pos) (tGD X.K T E (dGN i)) :=
  pg_imp (pg_name hN hi hx hf) fun v σ H Q ⟨g, env, S, u, D, hE, hS, ru, eD, p⟩ => by
    subst eD
    exact p g _ H (G.le.refl g) (hE.set i ru) hS
theorem gds_nil : PGs X [] (tGDs X.K T E dGNil) := pgs_imp pgs_nil fun vs σ H Q ⟨g, env, S, us, D, hE, hS, ru, eD, p⟩ => by
  subst eD
  cases us with
  | nil => cases ru; exact ⟨rfl, p g σ H (G.le.refl g) hE hS⟩
  | cons u r => exact p.elim
theorem gds_cons {es : List Expr} {m : DG} {ms : DGs} (h1 : PG X e (tGD X.K T E m)) (h2 : PGs X es (tGDs X.K T E ms))
    (hs : (assignEach (e :: es) X.env).map (·.2) = assign e X.env :: (assignEach es X.env).map (·.2) := by rfl) : PGs X (e :: es) (tGDs X.K T E (dGCons m ms)) :=
  pgs_imp (pgs_cons h1 h2 hs) fun vs σ H Q ⟨g, env, S, us, D, hE, hS, ru, eD, p⟩ => by
    subst eD
    cases us with
    | nil => exact p.elim
    | cons u r =>
      obtain ⟨x, xs, e1, r1, r2⟩ := ru
      subst e1
      refine ⟨x, xs, rfl, g, env, S, u, { nx := fun σ' H' => tGDs X.K T E ms xs σ' H' D.nx, rt := fun _ _ => False }, hE, hS, r1, rfl, ?_⟩
      have p1 : PostS X.K T E D g ((m u env S).then fun e S' => ms r e S') := p
      revert p1
      cases hm : m u env S with
      | nx e2 S2 => exact fun p1 g2 σ2 H2 l rE rS => ⟨g2, e2, S2, r, D, rE, rS, r2.mono X.K T l.s, rfl, PostS.up l p1⟩
      | rt v S2 => exact fun p1 => p1.elim
      | bk v S2 => exact fun p1 => p1.elim
      | ct v S2 => exact fun p1 => p1.elim
      | exc c fs S2 => exact fun p1 => p1
      | no => exact fun p1 => p1.elim
theorem Rs.tupOf {K} {g : G} {S : Sto} {H : Hp} (hS : Rs K T g S H) {v : VV} {x : V} {us : List VV} (e : tupOf S v = some us) (r : Rv K T g v x) : ∃ a vs, x = .ref a ∧ SqT K H a vs ∧ RvL K T g us vs := by
  cases v with
  | p v =>
    cases v with
    | tup xs =>
      cases e
      obtain ⟨a, vs, e1, h1, h2⟩ := r
      exact ⟨a, vs, e1, SqT.up hS.fz (.inl (.inl h1)), RvL.ofP h2⟩
    | _ => cases e
  | ob j =>
    obtain ⟨a, ea, e1⟩ := r
    unfold Dn.tupOf at e
    cases q : S[j]? with
    | none => simp [q] at e
    | some o =>
      cases o with
      | tup ys =>
        simp only [q, Option.some.injEq] at e
        subst e
        obtain ⟨vs, h1, h2⟩ := hS.at_ j _ a q ea
        exact ⟨a, vs, e1, .inl (.inl h1), h2⟩
      | lst _ => simp [q] at e
      | ins c fs => simp [q] at e
      | dic _ _ => simp [q] at e
theorem gd_tup {es : List Expr} {k n : Nat} {ms : DGs} (hc : X.calm = true) (h : PGs X es (tGDs X.K T E ms))
    (hn : (assignEach es X.env).length = n := by rfl) (hst : (assignEach es X.env).findIdx? (·.1) = none := by rfl) : PG X (.Tuple es k pos) (tGD X.K T E (dGTup n ms)) :=
  pg_imp (pg_tup hc h hn hst) fun v σ H Q ⟨g, env, S, u, D, hE, hS, ru, eD, p⟩ => by
    unfold dGTup at p
    cases e1 : tupOf S u with
    | none => simp only [e1] at p; exact p.elim
    | some us =>
      simp only [e1] at p
      by_cases hl : us.length = n
      · rw [if_pos hl] at p
        obtain ⟨ad, vs, rfl, q, rl⟩ := hS.tupOf e1 ru
        exact ⟨ad, vs, rfl, q, by rw [rl.length]; exact hl, g, env, S, us, D, hE, hS, rl, eD, p⟩
      · rw [if_neg hl] at p; exact p.elim
theorem setO_of {σ : L2.St} {H : Hp} {Q : L2.St → Hp → Prop} {g : G} {env : En} {S : Sto} {D : Ends} {o i u : VV} {x y z : V} (hE : Re X.K T g env σ) (hS : Rs X.K T g S H) (ro : Rv X.K T g o x) (ri : Rv X.K T g i y) (ru : Rv X.K T g u z) (eD : D.nx = Q)
    (p : PostS X.K T E D g (setO o i u env S)) : rSetL x y z H (fun H3 => Q σ H3) ∨ rSetD x y z H (fun H3 => Q σ H3) := by
  subst eD
  unfold setO at p
  split at p
  · rename_i j k
    obtain ⟨ad, ea, rfl⟩ := ro
    cases e1 : S[j]? with
    | none => simp only [e1] at p; exact p.elim
    | some so =>
      have hob := hS.at_ j _ ad e1 ea
      cases so with
      | tup _ => simp only [e1] at p; exact p.elim
      | ins c fs => simp only [e1] at p; exact p.elim
      | lst xs =>
        simp only [e1] at p
        obtain ⟨vs, h1, h2⟩ := hob
        cases k with
        | int z =>
          cases ri
          dsimp only at p
          cases e2 : ixN xs.length z with
          | none => simp only [e2] at p; exact p.elim
          | some n =>
            simp only [e2] at p
            refine .inl ⟨ad, vs, z, n, rfl, rfl, h1, by rw [h2.length]; exact e2, ?_⟩
            exact p g σ _ (G.le.refl g) hE (hS.write (so := .lst (xs.set n u)) ea ⟨_, upd_same, RvL.set ru n h2⟩)
        | _ => exact p.elim
      | dic t kvs =>
        simp only [e1] at p
        by_cases hk : keyOk t k = true ∧ kvs.length < LIM
        · rw [if_pos hk] at p
          cases t
          · obtain ⟨qk, hq⟩ := Option.isSome_iff_exists.mp (show (keyP k).isSome = true from hk.1)
            have ey := key_V hq ri
            subst ey
            obtain ⟨vs, k1, k2⟩ := hob
            refine .inr ⟨ad, _, rfl, DPut.k (v := z) k1 (by rw [k2.length]; exact lim_lt (Nat.le_of_lt hk.2)), ?_⟩
            exact p g σ _ (G.le.refl _) hE (hS.write (so := .dic false (putD kvs k u)) ea ⟨_, upd_same, k2.put hq ru⟩)
          · obtain ⟨qk, hq⟩ := Option.isSome_iff_exists.mp (show (tkeyP k).isSome = true from hk.1)
            obtain ⟨b, ey, hb⟩ := tkey_V hq ri
            subst ey
            obtain ⟨vs, k1, k2⟩ := hob
            refine .inr ⟨ad, _, rfl, DPut.t (v := z) k1 (hS.fz _ _ hb) (by rw [k2.length]; exact lim_lt (Nat.le_of_lt hk.2)), ?_⟩
            exact p g σ _ (G.le.refl _) hE (hS.write (so := .dic true (putD kvs k u)) ea ⟨_, upd_same, k2.put hq ru⟩)
        · rw [if_neg hk] at p; exact p.elim
  · exact p.elim
theorem gd_sub (hu : X.A.units + 128 < cLine) (ho : PE X o (tD X.K T E mo)) (hi : PE X i (tD X.K T E mi))
    (ha : ∀ v, assign (.Subscript o i pos) X.env v = (do
      let ov ← holding [v] (eval o X.env)
      let iv ← holding [v, ov] (eval i X.env)
      standAt pos
      holding [v, ov, iv] (setItem ov iv v)
      release [v, ov, iv] []) := by intro _; rfl) : PG X (.Subscript o i pos) (tGD X.K T E (dGSub mo mi)) :=
  pg_imp (pg_sub (t := fun o i v H Q => rSetL o i v H Q ∨ rSetD o i v H Q) ho hi (fun pins s σ H o i v ov iv u Q I ro ri rv h => by
    rcases h with h | h
    · exact set_list pins s σ H o i v ov iv u Q I ro ri rv h
    · exact set_dict (by omega) pins s σ H o i v ov iv u Q I ro ri rv h) ha) fun v σ H Q ⟨g, env, S, u, D, hE, hS, ru, eD, p⟩ => by
    refine ⟨g, env, S, hE, hS, ?_⟩
    have p2 := PostE.bindS (D := D) p
    revert p2
    cases mo env S with
    | no => exact fun p => p
    | exc c fs S1 => exact fun p => p
    | ok ov S1 =>
      intro p2 g1 y H1 l1 r1 s1
      obtain ⟨g2, ov2, S2, l2, ro, s2, q2⟩ := p2 g1 y H1 l1 r1 s1
      refine ⟨g2, env, S2, hE.mono X.K T l2.s, s2, ?_⟩
      have p3 := PostE.bindS q2
      revert p3
      cases mi env S2 with
      | no => exact fun p => p
      | exc c fs S3 => exact fun p => p
      | ok iv S3 =>
        intro p3 g3 z H3 l3 r3 s3
        obtain ⟨g4, iv4, S4, l4, ri, s4, q4⟩ := p3 g3 z H3 l3 r3 s3
        exact setO_of (hE.mono X.K T (l2.trans l4).s) s4 (ro.mono X.K T l4.s) ri (ru.mono X.K T (l2.trans l4).s) eD q4
theorem gd_fld (c0 : Nat) {f : String} (ho : PE X o (tD X.K T E mo)) (hc : Cls X.K (T.C c0)) (hn : NoAttr X.K (T.C c0) (Str.ofString f)) : PG X (.Attribute o (Str.ofString f) pos) (tGD X.K T E (dGFld c0 f mo)) := by
  refine ⟨fun pins s σ H v u Q I r ⟨g, env, S, w, D, hE, hS, ru, eD, p⟩ => ?_⟩
  rw [assign_Attribute]
  have h : tD X.K T E mo σ H (fun x H2 => ∃ ad dx vs, x = .ref ad ∧ H2 ad = some (.ins (T.C c0) dx vs) ∧ vs.length < 1000 ∧ Q σ (upd H2 ad (.ins (T.C c0) dx (putF (Str.ofString f) v vs)))) := by
    refine ⟨g, env, S, hE, hS, ?_⟩
    have p2 := PostE.bindS (D := D) p
    revert p2
    cases mo env S with
    | no => exact fun p => p
    | exc c fs S1 => exact fun p => p
    | ok ov S1 =>
      intro p2 g1 y H1 l1 r1 s1
      obtain ⟨g2, ov2, S2, l2, ro, s2, q2⟩ := p2 g1 y H1 l1 r1 s1
      cases ov2 with
      | p v => exact q2.elim
      | ob j =>
        obtain ⟨ad, ea, e0⟩ := ro
        cases e1 : S2[j]? with
        | none => simp only [e1] at q2; exact q2.elim
        | some so =>
          cases so with
          | lst xs => simp only [e1] at q2; exact q2.elim
          | tup _ => simp only [e1] at q2; exact q2.elim
          | dic _ _ => simp only [e1] at q2; exact q2.elim
          | ins c fs =>
            simp only [e1] at q2
            by_cases hcc : c = c0 ∧ fs.length < 1000
            · rw [if_pos hcc] at q2
              obtain ⟨rfl, hl⟩ := hcc
              obtain ⟨dx, vs, k1, k2⟩ := s2.at_ j _ ad e1 ea
              refine ⟨ad, dx, vs, e0, k1, by rw [k2.length]; exact hl, ?_⟩
              subst eD
              exact q2 g2 σ _ (G.le.refl _) (hE.mono X.K T l2.s) (s2.write (so := .ins c (putA f w fs)) ea ⟨dx, _, upd_same, RvF.put (ru.mono X.K T l2.s) k2⟩)
            · rw [if_neg hcc] at q2; exact q2.elim
  refine wpAny_bind (wpAny_holding (thn (ho.run pins s σ H _ I h) fun ov s1 ⟨x, H1, I1, rx, ad, dx, vs, ex, ea, hl, q⟩ => ?_))
  subst ex
  obtain rfl : ov = Value.ref ad := rx
  refine wpAny_bind (wpAny_standAt (wpAny_bind (wpAny_holding (setattr_ok I1 ea hc hn hl r fun s3 I3 => ?_))))
  exact wpAny_release ⟨σ, _, I3, q⟩
theorem s_setG {m : DG} (he : PE X e (tD X.K T E ma)) (hg : PG X tg (tGD X.K T E m)) (hs : swapsWithSole [tg] e pos.line X.env = pure false := by rfl) (hw : swappedStores [tg] e X.env = pure none := by rfl)
    (h1 : (assignEach [tg] X.env).map (·.2) = [assign tg X.env] := by rfl) : PS X (.Assign [tg] e pos) (tS X.K T E (dSetG m ma)) :=
  (ps_asg he hg hs hw h1).imp fun D σ H h => tD_S (k := fun v S1 env => m v env S1) h fun g env w S x H hE rw_ rs p => ⟨g, env, S, w, D, hE, rs, rw_, rfl, p⟩
end
end Dn

set_option maxRecDepth 100000
set_option maxHeartbeats 1000000
namespace Dn
open PySem PySem.Spec PyProof.Rows L2
/-! ### a tuple of the store -/
def dTupS (ms : List DE) : DE := fun env S => args ms env S fun vs S1 => if vs.length ≤ LIM then .ok (.ob S1.length) (S1 ++ [.tup vs]) else .no
/-! ### freezing at the end of a def, to any depth -/
def frzL (f : VV → Option PV) : List VV → Option (List PV)
  | [] => some []
  | v :: r => (f v).bind fun x => (frzL f r).map (x :: ·)
def frzK (f : VV → Option PV) : List (PV × VV) → Option (List (PV × PV))
  | [] => some []
  | (k, v) :: r => (f v).bind fun x => (frzK f r).map ((k, x) :: ·)
def frzF (f : VV → Option PV) : List (String × VV) → Option (List (String × PV))
  | [] => some []
  | (k, v) :: r => (f v).bind fun x => (frzF f r).map ((k, x) :: ·)
def frz (S S2 : Sto) : Nat → VV → Option PV
  | _, .p v => some v
  | 0, .ob _ => none
  | n + 1, .ob j => if j < S.length then none else match S2[j]? with
    | some (.lst xs) => (frzL (frz S S2 n) xs).map .lst
    | some (.tup xs) => (frzL (frz S S2 n) xs).map .tup
    | some (.ins c fs) => (frzF (frz S S2 n) fs).map (.ins c)
    | some (.dic t kvs) => (frzK (frz S S2 n) kvs).map (.dic t)
    | none => none
def gcVD (S S2 : Sto) : VV → RE
  | .p v => .ok (.p v) S
  | .ob j => if j < S.length then .ok (.ob j) S else match frz S S2 4 (.ob j) with
    | some v => .ok (.p v) S
    | none => .no
def gcRD (S : Sto) (r : RE) : RE := match r with
  | .ok v S2 => if Sto.same (S2.take S.length) S then gcVD S S2 v else .no
  | .exc c fs S2 => if Sto.same (S2.take S.length) S then .exc c fs S else .no
  | .no => .no
def gcD (m : DF) : DF := fun as S => gcRD S (m as S)
section
variable {K : PySem.W.Frag} {T : Tab} {g : G} {S : Sto} {H : Hp} {E : XK} {Q : VK}
theorem frzL_of {F : Hp} {f : VV → Option PV} (hf : ∀ v x y, f v = some y → Rv K T g v x → Rp K T F y x) : ∀ {xs : List VV} {ys : List PV} {vs : List V}, frzL f xs = some ys → RvL K T g xs vs → RpL K T F ys vs
  | [], _, _, e, r => by cases e; exact r
  | v :: xs, ys, _, e, ⟨w, rr, e1, h1, h2⟩ => by
    unfold frzL at e
    cases q : f v with
    | none => rw [q] at e; cases e
    | some y =>
      cases q2 : frzL f xs with
      | none => rw [q, q2] at e; cases e
      | some zs => rw [q, q2] at e; cases e; exact ⟨w, rr, e1, hf _ _ _ q h1, frzL_of hf q2 h2⟩
theorem frzF_of {F : Hp} {f : VV → Option PV} (hf : ∀ v x y, f v = some y → Rv K T g v x → Rp K T F y x) : ∀ {xs : List (String × VV)} {ys : List (String × PV)} {vs : List (Str × V)}, frzF f xs = some ys → RvF K T g xs vs → RpF K T F ys vs
  | [], _, _, e, r => by cases e; exact r
  | (k, v) :: xs, ys, _, e, ⟨w, rr, e1, h1, h2⟩ => by
    unfold frzF at e
    cases q : f v with
    | none => rw [q] at e; cases e
    | some y =>
      cases q2 : frzF f xs with
      | none => rw [q, q2] at e; cases e
      | some zs => rw [q, q2] at e; cases e; exact ⟨w, rr, e1, hf _ _ _ q h1, frzF_of hf q2 h2⟩
theorem frzK_of {F : Hp} {f : VV → Option PV} (hf : ∀ v x y, f v = some y → Rv K T g v x → Rp K T F y x) : ∀ {xs : List (PV × VV)} {ys : List (PV × PV)} {vs : List (L2.Key × V)}, frzK f xs = some ys → RvK K T g xs vs → RpK K T F ys vs
  | [], _, _, e, r => by cases e; exact r
  | (k, v) :: xs, ys, _, e, ⟨q', w, rr, e1, hk, h1, h2⟩ => by
    unfold frzK at e
    cases q : f v with
    | none => rw [q] at e; cases e
    | some y =>
      cases q2 : frzK f xs with
      | none => rw [q, q2] at e; cases e
      | some zs => rw [q, q2] at e; cases e; exact ⟨q', w, rr, e1, hk, hf _ _ _ q h1, frzK_of hf q2 h2⟩
theorem frzT_of {F : Hp} {f : VV → Option PV} (hf : ∀ v x y, f v = some y → Rv K T g v x → Rp K T F y x) : ∀ {xs : List (PV × VV)} {ys : List (PV × PV)} {vs : List (List L2.Key × V)}, frzK f xs = some ys → RvT K T g xs vs → RpT K T F ys vs
  | [], _, _, e, r => by cases e; exact r
  | (k, v) :: xs, ys, _, e, ⟨q', w, rr, e1, hk, h1, h2⟩ => by
    unfold frzK at e
    cases q : f v with
    | none => rw [q] at e; cases e
    | some y =>
      cases q2 : frzK f xs with
      | none => rw [q, q2] at e; cases e
      | some zs => rw [q, q2] at e; cases e; exact ⟨q', w, rr, e1, hk, hf _ _ _ q h1, frzT_of hf q2 h2⟩
theorem frz_of {S2 : Sto} {g2 : G} {H2 : Hp} (r2 : Rs K T g2 S2 H2) : ∀ (n : Nat) (v : VV) (x : V) (y : PV), frz S S2 n v = some y → Rv K T g2 v x → Rp K T (g2.cut H2 S.length).F y x
  | 0, .p v, x, y, e, r => by cases e; exact Rp.mono K T (cut_F r2 _) v x r
  | _ + 1, .p v, x, y, e, r => by cases e; exact Rp.mono K T (cut_F r2 _) v x r
  | 0, .ob _, _, _, e, _ => by cases e
  | n + 1, .ob j, x, y, e, ⟨a, ea, ex⟩ => by
    subst ex
    unfold frz at e
    by_cases hj : j < S.length
    · rw [if_pos hj] at e; cases e
    · rw [if_neg hj] at e
      have ih := frz_of r2 n
      cases e1 : S2[j]? with
      | none => simp [e1] at e
      | some o =>
        have ho := r2.at_ j o a e1 ea
        have hc : (g2.cut H2 S.length).F a = H2 a := cut_at r2 (by omega) ea
        cases o with
        | lst xs =>
          simp only [e1] at e
          obtain ⟨vs, h1, h2⟩ := ho
          cases q : frzL (frz S S2 n) xs with
          | none => rw [q] at e; cases e
          | some ys => rw [q] at e; cases e; exact ⟨a, vs, rfl, by rw [hc]; exact h1, frzL_of (fun v x y => ih v x y) q h2⟩
        | tup xs =>
          simp only [e1] at e
          obtain ⟨vs, h1, h2⟩ := ho
          cases q : frzL (frz S S2 n) xs with
          | none => rw [q] at e; cases e
          | some ys => rw [q] at e; cases e; exact ⟨a, vs, rfl, by rw [hc]; exact h1, frzL_of (fun v x y => ih v x y) q h2⟩
        | ins c fs =>
          simp only [e1] at e
          obtain ⟨dx, vs, h1, h2⟩ := ho
          cases q : frzF (frz S S2 n) fs with
          | none => rw [q] at e; cases e
          | some ys => rw [q] at e; cases e; exact ⟨a, dx, vs, rfl, by rw [hc]; exact h1, frzF_of (fun v x y => ih v x y) q h2⟩
        | dic t kvs =>
          simp only [e1] at e
          cases q : frzK (frz S S2 n) kvs with
          | none => rw [q] at e; cases e
          | some ys =>
            rw [q] at e; cases e
            cases t
            · obtain ⟨vs, h1, h2⟩ := ho
              exact ⟨a, vs, rfl, by rw [hc]; exact h1, frzK_of (fun v x y => ih v x y) q h2⟩
            · obtain ⟨vs, h1, h2⟩ := ho
              exact ⟨a, vs, rfl, by rw [hc]; exact h1, frzT_of (fun v x y => ih v x y) q h2⟩
theorem PostE.gcD {r : RE} (hS : Rs K T g S H) (p : PostE K T E g (gcRD S r) Q) : PostE K T E g r Q := by
  cases r with
  | no => exact p
  | exc c fs S2 =>
    unfold gcRD at p
    by_cases hs : Sto.same (S2.take S.length) S = true
    · simp only [if_pos hs] at p
      intro g' d H' l rx rs
      obtain ⟨l3, r3⟩ := hS.cut l rs (Sto.same_eq hs)
      exact p _ d H' l3 (rx.mono (cut_F rs _)) r3
    · simp only [if_neg hs] at p; exact p.elim
  | ok v S2 =>
    unfold gcRD at p
    by_cases hs : Sto.same (S2.take S.length) S = true
    · simp only [if_pos hs] at p
      intro g' x H' l rv rs
      obtain ⟨l3, r3⟩ := hS.cut l rs (Sto.same_eq hs)
      cases v with
      | p v => exact p _ x H' l3 (Rp.mono K T (cut_F rs _) v x rv) r3
      | ob j =>
        unfold gcVD at p
        by_cases hj : j < S.length
        · simp only [if_pos hj] at p
          obtain ⟨a, ea, rfl⟩ := rv
          refine p _ _ H' l3 ⟨a, ?_, rfl⟩ r3
          show (g'.f.take S.length)[j]? = some a
          rw [List.getElem?_take_of_lt hj]; exact ea
        · simp only [if_neg hj] at p
          cases q : frz S S2 4 (.ob j) with
          | none => simp only [q] at p; exact p.elim
          | some y =>
            simp only [q] at p
            exact p _ x H' l3 (frz_of rs 4 _ x y q rv) r3
    · simp only [if_neg hs] at p; exact p.elim
end
theorem FnD.gcD {X : Cx} {T : Tab} {k : Nat} {f : Addr} {fd : FuncData} {ps : List Str} {m : DF} (F : FnD X T k f fd ps m) : FnD X T k f fd ps (gcD m) :=
  F.imp fun vs H Q E ⟨hl, g, as, S, r, s, p⟩ => ⟨hl, g, as, S, r, s, PostE.gcD s p⟩
/-! ### a dict that is written out -/
def unpair : List VV → List (PV × VV)
  | .p k :: v :: r => (k, v) :: unpair r
  | _ => []
def keysOk : List VV → Bool
  | .p k :: _ :: r => (keyP k).isSome && keysOk r
  | [] => true
  | _ => false
def dDisp (ms : List (DE × DE)) : DE := fun env S => args (ms.flatMap fun p => [p.1, p.2]) env (S ++ [.dic false []]) fun vs S1 =>
  if keysOk vs = true ∧ Sto.same (S1.take (S.length + 1)) (S ++ [.dic false []]) = true then .ok (.ob S.length) (S1.set S.length (.dic false ((unpair vs).foldl (fun acc e => putD acc e.1 e.2) []))) else .no
/-- d.get(k, x) -/
def mGet2 (d k x : VV) (S : Sto) : Option VV := (dicOf S d).bind fun dd => match k with
  | .p k => if keyOk dd.1 k = true then some ((getK k dd.2).getD x) else none
  | _ => none
def dGet2 (mo mk mx : DE) : DE := fun env S => (mo env S).bind fun d S1 => if (dicOf S1 d).isSome = true then args [mk, mx] env S1 fun vs S2 => match vs with
  | [k, x] => RE.of S2 (mGet2 d k x S2)
  | _ => .no
  else .no
section
variable {X : Cx} {T : Tab} {E : XK} {e a b c o k x : Expr} {pos apos : Pos} {ma mo mk mx : DE}
theorem r_tupS {es : List Expr} {ms : List DE} {x1} (h : PA X es (tA X.K T E ms)) : PE X (.Tuple es x1 pos) (tD X.K T E (dTupS ms)) :=
  (pe_tup h).imp fun σ H Q hq => tA_of hq fun g vs S xs H hl0 r s p => by
    by_cases hl : vs.length ≤ LIM
    · rw [if_pos hl] at p
      refine ⟨by rw [r.length]; exact lim_line hl, fun q hp => ?_⟩
      have l := G.le_alloc g q
      have s' := s.alloc (so := .tup vs) (o := .tup xs) hp ⟨xs, upd_same, r.mono X.K T l.s⟩
      refine p _ _ _ l ⟨q, ?_, rfl⟩ s'
      show (g.f ++ [q])[S.length]? = some q
      rw [s.len, List.getElem?_append_right (Nat.le_refl _), Nat.sub_self]
      rfl
    · rw [if_neg hl] at p; exact p.elim
/-- pairs, one behind the other -/
theorem tPairs_of {Q : List (V × V) → Hp → Prop} : ∀ {ms : List (DE × DE)} {σ H}, tA X.K T E (ms.flatMap fun p => [p.1, p.2]) σ H (fun xs H1 => ∀ ps : List (V × V), xs = ps.flatMap (fun p => [p.1, p.2]) → Q ps H1) →
    tPairs (ms.map fun p => (tD X.K T E p.1, tD X.K T E p.2)) σ H Q
  | [], σ, H, ⟨g, env, S, hE, hS, k, Q', h, q⟩ => q g [] S [] H rfl (G.le.refl g) rfl hS h [] rfl
  | (mk, mv) :: ms, σ, H, ⟨g, env, S, hE, hS, k, Q', h, q⟩ => by
    show tD X.K T E mk σ H fun x H1 => tD X.K T E mv σ H1 fun y H2 => tPairs (ms.map fun p => (tD X.K T E p.1, tD X.K T E p.2)) σ H2 fun ps H3 => Q ((x, y) :: ps) H3
    refine ⟨g, env, S, hE, hS, ?_⟩
    have p := PostE.bind (r := mk env S) (k := fun v S1 => (mv env S1).bind fun u S2 => args (ms.flatMap fun p => [p.1, p.2]) env S2 fun vs S3 => k (v :: u :: vs) S3) h
    revert p
    cases mk env S with
    | no => exact fun p => p
    | exc c fs S1 => exact fun p => p
    | ok v S1 =>
      intro p g1 x H1 l1 r1 s1
      obtain ⟨g2, v2, S2, l2, rv, rs, q2⟩ := p g1 x H1 l1 r1 s1
      refine ⟨g2, env, S2, hE.mono X.K T l2.s, rs, ?_⟩
      have p3 := PostE.bind (r := mv env S2) (k := fun u S2 => args (ms.flatMap fun p => [p.1, p.2]) env S2 fun vs S3 => k (v2 :: u :: vs) S3) q2
      revert p3
      cases mv env S2 with
      | no => exact fun p => p
      | exc c fs S1 => exact fun p => p
      | ok u S3 =>
        intro p3 g3 y H3 l3 r3 s3
        obtain ⟨g4, u4, S4, l4, ru, rs4, q4⟩ := p3 g3 y H3 l3 r3 s3
        refine tPairs_of ⟨g4, env, S4, hE.mono X.K T (l2.trans l4).s, rs4, _, Q', q4, fun g5 vs S5 xs H5 hl l5 r5 s5 q5 ps eps => ?_⟩
        refine q g5 (v2 :: u4 :: vs) S5 (x :: y :: xs) H5 ?_ ((l2.trans l4).trans l5) ⟨x, _, rfl, rv.mono X.K T (l4.trans l5).s, y, xs, rfl, ru.mono X.K T l5.s, r5⟩ s5 q5 ((x, y) :: ps) (by rw [eps]; rfl)
        show vs.length + 1 + 1 = (mk :: mv :: ms.flatMap fun p => [p.1, p.2]).length
        rw [hl]; rfl
theorem disp_keys {g : G} : ∀ {vs : List VV} {ps : List (V × V)}, keysOk vs = true → RvL X.K T g vs (ps.flatMap fun p => [p.1, p.2]) → ∃ kvs : List (L2.Key × V), ps = kvs.map (fun kv => (kV kv.1, kv.2)) ∧ RvK X.K T g (unpair vs) kvs
  | [], ps, _, r => by
    cases ps with
    | nil => exact ⟨[], rfl, rfl⟩
    | cons p ps => exact nomatch r
  | [_], _, h, _ => by cases ‹VV› <;> exact nomatch h
  | .ob _ :: _ :: _, _, h, _ => nomatch h
  | .p k :: v :: r, ps, h, rr => by
    cases ps with
    | nil => obtain ⟨_, _, e, _⟩ := rr; exact nomatch e
    | cons p ps =>
      obtain ⟨x, xs, e, h1, y, ys, e2, h2, h3⟩ := rr
      subst e2
      have e' : p.1 :: p.2 :: (ps.flatMap fun p => [p.1, p.2]) = x :: y :: ys := e
      injection e' with ea eb
      injection eb with eb ec
      have hk : ((keyP k).isSome && keysOk r) = true := h
      rw [Bool.and_eq_true] at hk
      obtain ⟨q, hq⟩ := Option.isSome_iff_exists.mp hk.1
      obtain ⟨kvs, e3, r3⟩ := disp_keys hk.2 (by rw [ec]; exact h3)
      have ey : x = kV q := key_V hq h1
      refine ⟨(q, y) :: kvs, ?_, q, y, kvs, rfl, hq, h2, r3⟩
      rw [List.map_cons, ← e3, ← ey, ← ea, ← eb]
theorem RvK.fold {g : G} : ∀ {ps : List (PV × VV)} {kvs : List (L2.Key × V)} {acc : List (PV × VV)} {m : List (L2.Key × V)}, RvK X.K T g ps kvs → RvK X.K T g acc m → RvK X.K T g (ps.foldl (fun acc e => putD acc e.1 e.2) acc) (kvs.foldl (fun acc kv => putK acc kv.1 kv.2) m)
  | [], _, _, _, r, q => by cases r; exact q
  | (_, _) :: ps, _, _, _, ⟨p, y, r, e, hl, h1, h2⟩, q => by subst e; rw [List.foldl_cons, List.foldl_cons]; exact RvK.fold (ps := ps) h2 (q.put hl h1)
theorem r_disp {keys : List (Option Expr)} {values : List Expr} {ms : List (DE × DE)} (h : PPs X pos keys values (ms.map fun p => (tD X.K T E p.1, tD X.K T E p.2))) (hall : keys.all (·.isSome) = true) (hl : keys.length = values.length) (h0 : keys ≠ [])
    (h15 : keys.length ≤ 15) (hm : ms.length ≤ 15) : PE X (.Dict keys values pos) (tD X.K T E (dDisp ms)) :=
  (pe_disp h hall hl h0 h15).imp fun σ H Q ⟨g, env, S, hE, hS, h⟩ p hp => by
    have l := G.le_alloc g p
    have s' := hS.alloc (so := .dic false []) (o := .dK []) hp ⟨[], upd_same, rfl⟩
    have hgl : (g.alloc p).f = g.f ++ [p] := rfl
    refine tPairs_of ⟨g.alloc p, env, _, hE.mono X.K T l.s, s', _, Q, PostE.up l h, fun g1 vs S1 xs H1 hl1 l1 r1 s1 q1 ps eps => ?_⟩
    by_cases hc : keysOk vs = true ∧ Sto.same (S1.take (S.length + 1)) (S ++ [.dic false []]) = true
    · rw [if_pos hc] at q1
      subst eps
      obtain ⟨kvs, ek, rk⟩ := disp_keys hc.1 r1
      have est := Sto.same_eq hc.2
      have e1 : S1[S.length]? = some (.dic false []) := by
        have : (S1.take (S.length + 1))[S.length]? = some (.dic false []) := by rw [est, List.getElem?_append_right (Nat.le_refl _), Nat.sub_self]; rfl
        rw [List.getElem?_take_of_lt (Nat.lt_succ_self _)] at this
        exact this
      have ef : g1.f[S.length]? = some p := by
        obtain ⟨t, ht⟩ := l1.f
        rw [← ht, hgl, List.getElem?_append_left (by rw [List.length_append, ← hS.len]; exact Nat.lt_succ_self _), hS.len, List.getElem?_append_right (Nat.le_refl _), Nat.sub_self]; rfl
      obtain ⟨vs0, k1, k2⟩ := s1.at_ _ _ p e1 ef
      cases k2
      refine ⟨k1, kvs, ek, ?_, ?_⟩
      · have z1 : ps.length ≤ 15 := by
          have z2 := r1.length
          rw [hl1] at z2
          have z3 : ∀ (ms : List (DE × DE)), (ms.flatMap fun p => [p.1, p.2]).length = 2 * ms.length := fun ms => by
            induction ms with
            | nil => rfl
            | cons a b ih => rw [List.flatMap_cons, List.length_append, ih]; show 2 + _ = _; rw [List.length_cons]; omega
          have z4 : ∀ (ms : List (V × V)), (ms.flatMap fun p => [p.1, p.2]).length = 2 * ms.length := fun ms => by
            induction ms with
            | nil => rfl
            | cons a b ih => rw [List.flatMap_cons, List.length_append, ih]; show 2 + _ = _; rw [List.length_cons]; omega
          rw [z3, z4] at z2
          omega
        rw [ek, List.length_map] at z1
        exact z1
      · exact q1 g1 _ _ (G.le.refl _) ⟨p, ef, rfl⟩ (s1.write (so := .dic false _) ef ⟨_, upd_same, rk.fold (acc := []) (m := []) rfl⟩)
    · rw [if_neg hc] at q1; exact q1.elim
end
end Dn

set_option maxRecDepth 100000
set_option maxHeartbeats 1000000
namespace Dn
open PySem PySem.Spec PyProof.Rows L2
/-! ### a constant of the module; a dict of the module -/
theorem r_kcon {X : Cx} {T : Tab} {E : XK} {pos : Pos} {x : Str} {v : PV} (hg : Gl X x) (hm : ∃ u, X.mg x = some u ∧ ∃ y, RelV y u ∧ ∀ F, Rp X.K T F v y) (hd : (x == ("__debug__" : Str)) = false := by decide) : PE X (.Name x pos) (tD X.K T E (dC v)) := by
  obtain ⟨u, h1, y, h2, h3⟩ := hm
  exact pe_c (pe_glob (v := y) hg h1 h2 hd) h3
def KDict (P : Program) (w : World) (K : PySem.W.Frag) (a : Addr) (kvs : List (PV × PV)) : Prop :=
  (a == sysModules) = false ∧ ∃ (o : Obj) (es : Array DictEntry) (ep : Nat) (ks : List (L2.Key × V)) (vs : List (L2.Key × Value)), K.lookup a = some o ∧ o.ExactDict ∧ o.data = .dict es ep ∧ KeysOf (mixKind P w) es ∧ Pairs (mixKind P w) es.toList vs ∧ (vs.map (·.1)).Nodup ∧ KV ks vs ∧ ∀ (T : Tab) (F : Hp), RpK K T F kvs ks
def kent (w : World) (e : String × Tok × Int × Tok) : DictEntry := ⟨hashStr w (Str.ofString e.1), .str (Str.ofString e.1) e.2.1, .int e.2.2.1 e.2.2.2⟩
theorem KDict.of {P : Program} {w : World} {K : PySem.W.Frag} {a : Addr} {ep : Nat} {es : Array DictEntry} (L : List (String × Tok × Int × Tok)) (lk : K.lookup a = some ⟨.type "dict", none, .dict es ep, #[]⟩) (he : es.toList = L.map (kent w)) (hs : (a == sysModules) = false) (hn : (L.map (·.1)).Nodup) :
    KDict P w K a (L.map fun e => (.str (Str.ofString e.1), .int e.2.2.1)) := by
  refine ⟨hs, _, es, ep, L.map (fun e => (.inr (Str.ofString e.1), .int e.2.2.1)), L.map (fun e => (.inr (Str.ofString e.1), .int e.2.2.1 e.2.2.2)), lk, ⟨rfl, rfl, rfl⟩, rfl, ?_, ?_, ?_, ?_, ?_⟩
  · intro e hm
    have hm' : e ∈ es.toList := Array.mem_toList_iff.mpr hm
    rw [he] at hm'
    obtain ⟨d, _, rfl⟩ := List.mem_map.mp hm'
    exact ⟨.inr (Str.ofString d.1), kV_is (k := .inr (Str.ofString d.1)) (u := .str (Str.ofString d.1) d.2.1) ⟨_, rfl⟩, rfl⟩
  · rw [he]
    clear he hn lk
    induction L with
    | nil => exact .nil
    | cons d L ih => exact .cons (kV_is (k := .inr (Str.ofString d.1)) (u := .str (Str.ofString d.1) d.2.1) ⟨_, rfl⟩) rfl ih
  · rw [List.map_map]
    have z : L.map ((fun x : L2.Key × Value => x.1) ∘ fun e : String × Tok × Int × Tok => ((.inr (Str.ofString e.1), .int e.2.2.1 e.2.2.2) : L2.Key × Value)) = (L.map (·.1)).map fun s => (.inr (Str.ofString s) : L2.Key) := by rw [List.map_map]; rfl
    rw [z]
    exact List.Pairwise.map _ (fun a b h e => h (by injection e with e; exact ofString_inj e)) hn
  · clear he hn lk
    induction L with
    | nil => exact .nil
    | cons d L ih => exact .cons ⟨rfl, _, rfl⟩ ih
  · intro T F
    clear he hn lk
    induction L with
    | nil => rfl
    | cons d L ih => exact ⟨_, _, _, rfl, rfl, rfl, ih⟩
def mKGet (kvs : List (PV × PV)) (k x : VV) : Option VV := match k with
  | .p k => if (keyP k).isSome = true then some (match getK k kvs with | some v => .p v | none => x) else none
  | _ => none
def dKGet (kvs : List (PV × PV)) (mk mx : DE) : DE := fun env S => args [mk, mx] env S fun vs S2 => match vs with
  | [k, x] => RE.of S2 (mKGet kvs k x)
  | _ => .no
theorem RpK.get' {K : PySem.W.Frag} {T : Tab} {F : Hp} {k : PV} {q : L2.Key} (hk : keyP k = some q) : ∀ {kvs : List (PV × PV)} {vs : List (L2.Key × V)}, RpK K T F kvs vs → (getK k kvs = none ∧ valV vs q = none) ∨ ∃ v x, getK k kvs = some v ∧ valV vs q = some x ∧ Rp K T F v x
  | [], _, r => by cases r; exact .inl ⟨rfl, rfl⟩
  | (l, u) :: kvs, _, ⟨p, x, r, e, hl, h1, h2⟩ => by
    subst e
    by_cases hb : PV.beq l k = true
    · have e1 := (keyP_beq hl hk).mp hb
      exact .inr ⟨u, x, by rw [getK, if_pos hb], valV_pos e1, h1⟩
    · have e1 : ¬ p = q := fun z => hb ((keyP_beq hl hk).mpr z)
      have e2 : valV ((p, x) :: r) q = valV r q := valV_neg e1
      rw [getK, if_neg hb, e2]
      exact RpK.get' hk h2
section
variable {X : Cx} {T : Tab} {E : XK} {e f o k x : Expr} {pos apos cpos : Pos} {ma mo mk mx : DE}
theorem r_kget {n : Str} {p : Pos} {a : Addr} {kvs : List (PV × PV)} (hg : Gl X n) (hm : X.mg n = some (.ref a)) (D : KDict X.prog X.w X.K a kvs) (he : PE X e (tD X.K T E mk)) (hf : PE X f (tD X.K T E mx)) (m : L2.M2 X (.Name n p) "get" apos e f cpos)
    (s1 : starEach [e, f] X.env = (false, eval e X.env) :: starEach [f] X.env := by rfl) (s2 : starEach [f] X.env = (false, eval f X.env) :: starEach [] X.env := by rfl) (hd : (n == ("__debug__" : Str)) = false := by decide) : PE X (.Call (.Attribute (.Name n p) "get" apos) [e, f] [] cpos) (tD X.K T E (dKGet kvs mk mx)) := by
  refine ⟨fun pins s σ H Q I h => ?_⟩
  obtain ⟨hsm, ob, es, ep, ks, vs, lk, hex, hdt, hko, hpr, hnd, hkv, hrp⟩ := D
  refine wpAny_Call_method m.base m.few m.line PySem.F.plainAttrs_dict PySem.F.slot_dict_get PySem.F.type_dict_get (ld_glob I hg hm ?_ hd)
  have dd : ∀ {s : Shared} {σ : L2.St} {H : Hp} {pins : List (Addr × Obj)}, Inv X pins σ H s → s.heap.DictOf (mixKind X.prog X.w) a vs := fun I => ⟨ob, es, ep, I.kIn _ _ lk, hex, hdt, hko, hpr, hnd⟩
  refine ⟨(dd I).typeIs, fun b q => by cases q; exact ⟨ob, I.kIn _ _ lk, hex.2.1⟩, ?_⟩
  rw [m.trees]
  have h2 : tA X.K T E [mk, mx] σ H (fun xs H1 => ∃ y z, xs = [y, z] ∧ ∃ g kk u S, Rs X.K T g S H1 ∧ Rp X.K T g.F kk y ∧ Rv X.K T g u z ∧ PostE X.K T E g (RE.of S (mKGet kvs (.p kk) u)) Q) := tA_of h fun g ws S xs H hl r s p => by
    cases ws with
    | nil => exact nomatch hl
    | cons w1 ws => cases ws with
    | nil => exact nomatch hl
    | cons w2 ws => cases ws with
    | cons _ _ => exact nomatch hl
    | nil =>
      obtain ⟨y, ys, e1, r1, z, zs, e2, r2, e3⟩ := r
      subst e3; subst e2; subst e1
      cases w1 with
      | ob j => exact p.elim
      | p kk => exact ⟨y, z, rfl, g, kk, w2, S, s, r1, r2, p⟩
  refine Calls.callWith_builtin rfl (Calls.evalArgs_plain ?_)
  have z := (a_cons he (a_cons hf a_nil s2) s1).run cpos pins s σ H _ I h2
  rw [m.trees] at z
  refine thn z fun us s3 ⟨xs, H3, I3, r3, y, zz, exs, g, kk, u, S, hS, rk, ru, p⟩ => ?_
  subst exs
  cases r3 with
  | @cons _ u1 _ _ r1 r3 => cases r3 with
  | @cons _ u2 _ _ r2 r3 =>
    cases r3
    unfold mKGet at p
    dsimp only at p
    by_cases hk : (keyP kk).isSome = true
    · rw [if_pos hk] at p
      obtain ⟨q, hq⟩ := Option.isSome_iff_exists.mp hk
      have ey := key_V hq rk
      subst ey
      refine call_meetsIn PySem.F.slot_dict_get (dd I3).typeIs PySem.F.entry_dict_get (PySem.F.args_dict_get_3 _ _ _) (meets_dict_get_default (mixKind X.prog X.w) a (kV_is r1) hsm u2) ⟨_, (dd I3).mapOf, ?_⟩
      have hv := hkv.val q
      rcases RpK.get' hq (hrp T g.F) with ⟨z1, z2⟩ | ⟨v, x, z1, z2, z3⟩
      · rw [z2] at hv
        rw [z1] at p
        cases hva : valueAt vs q with
        | some _ => rw [hva] at hv; exact hv.elim
        | none => exact ⟨_, H3, I3.tok _, r2, p g _ H3 (G.le.refl g) ru hS⟩
      · rw [z2] at hv
        rw [z1] at p
        cases hva : valueAt vs q with
        | none => rw [hva] at hv; exact hv.elim
        | some u' => rw [hva] at hv; exact ⟨x, H3, I3.tok _, hv, p g _ H3 (G.le.refl g) z3 hS⟩
    · rw [if_neg hk] at p; exact p.elim
theorem r_get2 (hu : X.A.units + 128 < cLine) (ho : PE X o (tD X.K T E mo)) (he : PE X e (tD X.K T E mk)) (hf : PE X f (tD X.K T E mx)) (m : L2.M2 X o "get" apos e f cpos) : PE X (.Call (.Attribute o "get" apos) [e, f] [] cpos) (tD X.K T E (dGet2 mo mk mx)) :=
  (pe_dget2 (by omega) ho he hf m).imp fun σ H Q ⟨g, env, S, hE, hS, h⟩ => by
    refine ⟨g, env, S, hE, hS, ?_⟩
    have p := PostE.bind h
    revert p
    cases mo env S with
    | no => exact fun p => p
    | exc c fs S1 => exact fun p => p
    | ok dv S1 =>
      intro p g1 xx H1 l1 r1 s1
      obtain ⟨g2, d, S2, l2, rd, s2, q2⟩ := p g1 xx H1 l1 r1 s1
      by_cases hdi : (dicOf S2 d).isSome = true
      · rw [if_pos hdi] at q2
        obtain ⟨⟨t, kvs⟩, hdo⟩ := Option.isSome_iff_exists.mp hdi
        obtain ⟨a, ex, hdic⟩ := s2.dic hdo rd
        refine ⟨a, ex, ?_, ?_⟩
        · rcases hdic with ⟨_, vs, h1, _⟩ | ⟨_, vs, h1, _⟩
          · exact .inl ⟨vs, .inl h1⟩
          · exact .inr ⟨vs, .inl h1⟩
        · subst ex
          refine ⟨g2, env, S2, hE.mono X.K T l2.s, s2, ?_⟩
          have p3 := PostE.bind q2
          revert p3
          cases mk env S2 with
          | no => exact fun p => p
          | exc c fs S3 => exact fun p => p
          | ok kv S3 =>
            intro p3 g3 y H3 l3 r3 s3
            obtain ⟨g4, kv4, S4, l4, rk4, s4, q4⟩ := p3 g3 y H3 l3 r3 s3
            refine ⟨g4, env, S4, hE.mono X.K T (l2.trans l4).s, s4, ?_⟩
            have p5 := PostE.bind q4
            revert p5
            cases mx env S4 with
            | no => exact fun p => p
            | exc c fs S5 => exact fun p => p
            | ok xv S5 =>
              intro p5 g5 z H5 l5 r5 s5
              obtain ⟨g6, xv6, S6, l6, rx6, s6, q6⟩ := p5 g5 z H5 l5 r5 s5
              have q7 : PostE X.K T E g6 (RE.of S6 (mGet2 d kv4 xv6 S6)) Q := q6
              unfold mGet2 at q7
              have rd6 := rd.mono X.K T (l4.trans l6).s
              have rk6 := rk4.mono X.K T l6.s
              cases hd6 : dicOf S6 d with
              | none => simp only [hd6, Option.bind_none] at q7; exact q7.elim
              | some dd =>
                obtain ⟨t6, kvs6⟩ := dd
                simp only [hd6, Option.bind_some] at q7
                cases kv4 with
                | ob j => exact q7.elim
                | p kk =>
                  by_cases hk : keyOk t6 kk = true
                  · simp only [if_pos hk] at q7
                    obtain ⟨a6, o6, e6, dg, ⟨z1, rfl⟩ | ⟨ww, zz, z1, rfl, z3⟩⟩ := s6.dget hd6 rd6 hk rk6
                    · cases e6
                      rw [z1] at q7
                      exact ⟨none, dg, q7 g6 z H5 (G.le.refl g6) rx6 s6⟩
                    · cases e6
                      rw [z1] at q7
                      exact ⟨some zz, dg, q7 g6 zz H5 (G.le.refl g6) z3 s6⟩
                  · simp only [if_neg hk] at q7; exact q7.elim
      · rw [if_neg hdi] at q2; exact q2.elim
end
end Dn

set_option maxRecDepth 100000
set_option maxHeartbeats 1000000
namespace Dn
open PySem PySem.Spec PyProof.Rows L2
/-! ### the signs of a text -/
def signs (x : Str) : List PV := x.cps.toList.map fun c => .str ⟨#[c]⟩
def dIS (m : DE) : DI := fun env S => (m env S).bindI fun v S1 => match v with
  | .p (.str x) => .ok ((signs x).map .p) (fun _ => true) S1
  | _ => .no
def dPar3 (i j l : Nat) (m m' m'' : DE) : DS := fun env S => (m env S).bindS fun v S1 => (m' env S1).bindS fun u S2 => (m'' env S2).bindS fun t S3 => .nx (((env.set i (some v)).set j (some u)).set l (some t)) S3
section
variable {X : Cx} {T : Tab} {E : XK} {tg e f : Expr} {apos cpos : Pos} {ma mk mx : DE}
theorem i_str {l : Expr} (hl : PE X l (tD X.K T E ma)) : PI X tg l (tI X.K T E (dIS ma)) :=
  PI.imp (pi_str hl) fun σ H R h => tD_I h fun g v S x H rv rs p => by
    cases v with
    | ob i => exact p.elim
    | p v =>
      cases v with
      | str z =>
        cases rv
        refine ⟨z, rfl, p g H _ (G.le.refl g) rs ⟨fun g' S' H' i w l s _ hi => ?_, fun g' S' H' i l s _ hi => ?_⟩⟩
        · unfold signs at hi
          rw [List.map_map, List.getElem?_map] at hi
          cases q : z.cps.toList[i]? with
          | none => rw [q] at hi; cases hi
          | some c =>
            rw [q] at hi
            cases hi
            have q' : z.cps[i]? = some c := by rw [← Array.getElem?_toList]; exact q
            refine ⟨?_, fun y H2 hy => ?_⟩
            · show i < z.cps.size
              exact (Array.getElem?_eq_some_iff.mp q').1
            · obtain ⟨rfl, c', e', rfl⟩ := hy
              rw [q'] at e'
              cases e'
              exact ⟨g', G.le.refl _, rfl, s⟩
        · show z.cps.size ≤ i
          have : ((signs z).map VV.p).length = z.cps.size := by simp [signs]
          omega
      | _ => exact p.elim
theorem s_par3 {i j l : Nat} {x y z : Str} {a b c : Expr} {mb mc : DE} {px py pz pt pos : Pos} {kt k2 pt2} (hc : X.calm = true) (hN : X.N.Nodup) (hi : X.N[i]? = some x) (hj : X.N[j]? = some y) (hl : X.N[l]? = some z) (hij : i ≠ j) (hil : i ≠ l) (hjl : j ≠ l)
    (hx : X.env.scope.names.lookup x = some .local) (hy : X.env.scope.names.lookup y = some .local) (hz : X.env.scope.names.lookup z = some .local) (ha : PE X a (tD X.K T E ma)) (hb : PE X b (tD X.K T E mb)) (hcc : PE X c (tD X.K T E mc))
    (hw : swappedStores [.Tuple [.Name x px, .Name y py, .Name z pz] kt pt] (.Tuple [a, b, c] k2 pt2) X.env = pure (some [x, y, z]) := by rfl)
    (hs : swapsWithSole [.Tuple [.Name x px, .Name y py, .Name z pz] kt pt] (.Tuple [a, b, c] k2 pt2) pos.line X.env = pure false := by rfl)
    (h1 : starEach [a, b, c] X.env = (false, eval a X.env) :: starEach [b, c] X.env := by rfl) (h2 : starEach [b, c] X.env = (false, eval b X.env) :: starEach [c] X.env := by rfl) (h3 : starEach [c] X.env = (false, eval c X.env) :: starEach [] X.env := by rfl) :
    PS X (.Assign [.Tuple [.Name x px, .Name y py, .Name z pz] kt pt] (.Tuple [a, b, c] k2 pt2) pos) (tS X.K T E (dPar3 i j l ma mb mc)) :=
  (ps_par3 hc hN hi hj hl hij hil hjl hx hy hz (pa_cons ha (pa_cons hb (pa_cons hcc pa_nil h3) h2) h1) hw hs).imp fun D σ H h => by
    refine tD_S (k := fun v S env => (mb env S).bindS fun u S2 => (mc env S2).bindS fun t S3 => .nx (((env.set i (some v)).set j (some u)).set l (some t)) S3) h fun g env v S x H hE rv rs p => ?_
    refine ⟨g, env, S, hE, rs, ?_⟩
    have p2 := PostE.bindS p
    revert p2
    cases mb env S with
    | no => exact fun p => p
    | exc c fs S1 => exact fun p => p
    | ok u S1 =>
      intro p2 g1 y H1 l1 r1 s1
      obtain ⟨g2, u2, S2, l2, ru, s2, q⟩ := p2 g1 y H1 l1 r1 s1
      refine ⟨g2, env, S2, hE.mono X.K T l2.s, s2, ?_⟩
      have p3 := PostE.bindS q
      revert p3
      cases mc env S2 with
      | no => exact fun p => p
      | exc c fs S1 => exact fun p => p
      | ok t S3 =>
        intro p3 g3 z H3 l3 r3 s3
        obtain ⟨g4, t4, S4, l4, rt, s4, q4⟩ := p3 g3 z H3 l3 r3 s3
        exact ⟨x, y, z, rfl, q4 g4 _ H3 (G.le.refl _) ((((hE.mono X.K T (l2.trans l4).s).set i (rv.mono X.K T (l2.trans l4).s)).set j (ru.mono X.K T l4.s)).set l rt) s4⟩
theorem c_mkS0 {c : Nat} {x : Str} {k np : Nat} {ds : List PV} {m : DF} {p pos : Pos} (F : MkE X.prog X.w X.K X.mg X.base T c x k np ds m) (tk : Tks X E) (hr : Room (k + 1) X.A) (hg : Gl X x := by rfl) (hn : ds.length + 1 = np := by rfl) (hdb : (x == ("__debug__" : Str)) = false := by decide) :
    PE X (.Call (.Name x p) [] [] pos) (tD X.K T E (dMakeS c m [] ds)) := by
  obtain ⟨f, fd, ps, dvs, dus, hp, F, hM, gm, hb, hd, hds⟩ := F
  subst hp
  exact (pe_make0 hM F hr hg gm hb hd tk.pass hdb).imp fun σ H Q ⟨g, env, S, hE, s, q⟩ => by
    intro x dx hx hdx hne
    have l := G.le_alloc g x
    have s2 := made_at (c := c) s hx hdx hne
    have r2 : RvL X.K T (g.alloc x) (.ob S.length :: ds.map .p) (.ref x :: dvs) := ⟨_, _, rfl, alloc_ob s x, (RvL.ofP (hds _ _ _)).mono X.K T l.s⟩
    refine ⟨by rw [List.nil_append, r2.length, List.length_cons, List.length_map]; exact hn, g.alloc x, _, _, r2, s2, ?_⟩
    have q2 : PostE X.K T E (g.alloc x) ((m (.ob S.length :: ds.map .p) (S ++ [.ins c []])).bind fun w S2 => match w with
      | .p .non => .ok (.ob S.length) S2
      | _ => .no) Q := PostE.up l q
    revert q2
    cases m (.ob S.length :: ds.map .p) (S ++ [.ins c []]) with
    | no => exact fun p => p
    | exc c fs S1 => exact fun p => p
    | ok v S1 =>
      intro q2 g2 y H2 l2 rv rs
      cases v with
      | ob i => exact q2.elim
      | p v =>
        cases v with
        | non => exact ⟨rv, q2 g2 _ H2 l2 ((alloc_ob s x).mono X.K T l2.s) rs⟩
        | _ => exact q2.elim
theorem gdn_ (i : Nat) {x : Str} {pos : Pos} (hN : X.N.Nodup) (hi : X.N[i]? = some x := by rfl) (hx : Loc X.env.scope x := by first | exact Or.inl rfl | exact Or.inr rfl) (hf : X.fn x = true ∨ X.env.scope.names.lookup x = some .local := by first | exact Or.inl rfl | exact Or.inr rfl) : PG X (.Name x pos) (tGD X.K T E (dGN i)) := gd_name hN hi hx hf
theorem r_kgetE {n : Str} {p : Pos} {kvs : List (PV × PV)} (D : ∃ a, X.mg n = some (.ref a) ∧ KDict X.prog X.w X.K a kvs) (hg : Gl X n) (he : PE X e (tD X.K T E mk)) (hf : PE X f (tD X.K T E mx)) (m : L2.M2 X (.Name n p) "get" apos e f cpos)
    (s1 : starEach [e, f] X.env = (false, eval e X.env) :: starEach [f] X.env := by rfl) (s2 : starEach [f] X.env = (false, eval f X.env) :: starEach [] X.env := by rfl) (hd : (n == ("__debug__" : Str)) = false := by decide) : PE X (.Call (.Attribute (.Name n p) "get" apos) [e, f] [] cpos) (tD X.K T E (dKGet kvs mk mx)) := by
  obtain ⟨a, hm, D⟩ := D
  exact r_kget hg hm D he hf m s1 s2 hd
end
section
variable {P : Program} {w : World} {K : PySem.W.Frag} {mg : Str → Option Value} {base : Heap} {T : Tab} {k np : Nat} {f : Addr} {fd : FuncData} {ps : List Str} {m : DF}
theorem FnD_gcD (F : FnOk P w K mg base (L2.CX P w) k f fd ps (spD K T np m)) : FnOk P w K mg base (L2.CX P w) k f fd ps (spD K T np (gcD m)) :=
  F.imp fun vs H Q E ⟨hl, g, as, S, r, s, p⟩ => ⟨hl, g, as, S, r, s, PostE.gcD s p⟩
theorem FnG_gc (F : FnG P w K mg base (L2.CX P w) k f fd ps (spD K T np m)) : FnG P w K mg base (L2.CX P w) k f fd ps (spD K T np (gc m)) :=
  F.imp fun vs H Q E ⟨hl, g, as, S, r, s, p⟩ => ⟨hl, g, as, S, r, s, PostE.gc s p⟩
theorem FnG_gcD (F : FnG P w K mg base (L2.CX P w) k f fd ps (spD K T np m)) : FnG P w K mg base (L2.CX P w) k f fd ps (spD K T np (gcD m)) :=
  F.imp fun vs H Q E ⟨hl, g, as, S, r, s, p⟩ => ⟨hl, g, as, S, r, s, PostE.gcD s p⟩
theorem law_okG (F : FnG P w K mg base (L2.CX P w) k f fd ps (spD K T 1 m))
    (h : ∀ ns : List Int, ns.length ≤ 63 → ∃ S, m [.p (.scr (ns.map .int))] [] = .ok (.p (.bl true)) S) : FnG P w K mg base (L2.CX P w) k f fd ps (spLawT K T.tb) :=
  F.imp fun vs H Q E ⟨a, ns, e, hs, hl, ht, q⟩ => by
    subst e
    obtain ⟨S, hm⟩ := h ns hl
    have hs2 : SqL K (noTb H) a (ns.map V.int) := by
      rcases hs with (z | ⟨o, z⟩) | z
      · exact .inl (.inl (noTb_at z fun _ y => by cases y))
      · exact .inl (.inr ⟨o, noTb_at z fun _ y => by cases y⟩)
      · exact .inr z
    refine ⟨rfl, ⟨noTb H, [], []⟩, [.p (.scr (ns.map .int))], [], ⟨.ref a, [], rfl, ⟨a, _, rfl, hs2, rpl_ints ns⟩, rfl⟩, ⟨rfl, .nil, noTb_same H, (by simp), (by simp), (by simp), .nil, fun p hp => LamX.TabS.nil (ht p hp), noTb_no H, by simp⟩, ?_⟩
    rw [hm]
    exact fun g' x H' l r s => by
      cases r
      exact q H'
end
end Dn

set_option maxRecDepth 100000
namespace Dn
open PySem PySem.Spec PyProof.Rows L2
/-! ### the own classes that there are, the refusals that come -/
class Own where
  own : Nat → Bool
  excs : List Nat
def baseT (n : String) : Bool := ["NoneType", "bool", "int", "str", "tuple", "list", "dict"].contains n
def isi [Own] : Tt → Tt → Option Bool
  | .ty a, .ty b => kitB a b
  | .ty a, .cls c => if Own.own c && baseT a then some false else none
  | .cls a, .cls b => if Own.own a && Own.own b then some (a == b) else none
  | .cls _, .ty _ => none
/-- the words of refusals without fields -/
def wordOf : Nat → Option String
  | 2 => some "note" | 3 => some "notes" | 6 => some "kind" | 7 => some "prices" | 9 => some "months" | 10 => some "day" | 11 => some "pence" | 12 => some "name" | 13 => some "missing"
  | 14 => some "twice" | 15 => some "deed" | 16 => some "sheet" | 17 => some "steps" | 18 => some "wishes" | 19 => some "line" | _ => none
def parentOf : Nat → Nat
  | 2 => 1 | 3 => 1 | 4 => 1 | 6 => 5 | 7 => 5 | 9 => 8 | 10 => 8 | _ => 0
/-- what the laws make of a refusal -/
def FL [Own] (c : Nat) (fs : List (String × PV)) : Option PV := if Own.excs.contains c = true then match fs with
  | [] => (wordOf c).map fun w => .tup [.str (Str.ofString w)]
  | _ => none else none
def othT (n : String) : Bool := ["LookupError", "TypeError", "ArithmeticError", "RuntimeError"].contains n
def isEg [Own] (c : Nat) : Tt → Option Bool
  | .cls i => if Own.excs.contains c = true ∧ i < 22 then some (i == c || i == 0 || i == parentOf c) else none
  | .ty n => if Own.excs.contains c = true then (if n = "ValueError" then some true else if othT n = true then some false else none) else none
theorem fl_nil [Own] {c : Nat} {fs : List (String × PV)} (h : FL c fs ≠ none) : fs = [] := by
  cases fs with
  | nil => rfl
  | cons x xs =>
    refine absurd ?_ h
    unfold FL
    split <;> rfl
theorem fl_some [Own] {c : Nat} {fs : List (String × PV)} {v : PV} (h : FL c fs = some v) : Own.excs.contains c = true ∧ fs = [] ∧ ∃ w, wordOf c = some w ∧ v = .tup [.str (Str.ofString w)] := by
  have hn := fl_nil (c := c) (fs := fs) (by rw [h]; simp)
  subst hn
  unfold FL at h
  split at h
  · rename_i hc
    refine ⟨hc, rfl, ?_⟩
    cases hw : wordOf c with
    | none => rw [hw] at h; cases h
    | some w => rw [hw] at h; cases h; exact ⟨w, rfl, rfl⟩
  · cases h
theorem fl_word [Own] {c : Nat} {w : String} (h : Own.excs.contains c = true) (hw : wordOf c = some w) : FL c [] = some (.tup [.str (Str.ofString w)]) := by
  unfold FL; rw [if_pos h]; simp only [hw]; rfl
/-- what is asked of the classes, as truths to be reckoned -/
def kitX (K : PySem.W.Frag) (T : Tab) (es : List Nat) : Bool := es.all fun c => ((List.range 22).all fun i => PySem.W.kitOne K (.ref (T.C c)) (.ref (T.C i)) == some (i == c || i == 0 || i == parentOf c)) &&
  PySem.W.kitOne K (.ref (T.C c)) (.type "ValueError") == some true && (["LookupError", "TypeError", "ArithmeticError", "RuntimeError"].all fun n => PySem.W.kitOne K (.ref (T.C c)) (.type n) == some false)
def excX (K : PySem.W.Frag) (T : Tab) (es : List Nat) : Bool := es.all fun c => PySem.W.findIn K (.ref (T.C c)) "__getattribute__" == some (some (.builtin "BaseException.__getattribute__")) && PySem.W.findIn K (.ref (T.C c)) "__getattr__" == some none &&
  PySem.W.subIn K (.ref (T.C c)) (.type "BaseException") == some true && PySem.W.hasDictIn K (T.C c) && PySem.W.findIn K (.ref (T.C c)) "__class__" == some (some (.builtin "object.__class__")) &&
  PySem.W.specialIn K (.builtin "object.__class__") "__get__" == some (some (.builtin "getset_descriptor.__get__")) && PySem.W.takesIn K (.builtin "object.__class__") == some true && PySem.W.mroIn K (T.C c) (.type "object") == some true
def exmX (K : PySem.W.Frag) (T : Tab) (es : List Nat) : Bool := es.all fun c => PySem.W.exmOne K (.ref (T.C c)) (.ref (T.C 0)) == some true
theorem isEg_cls [Own] {c i : Nat} {b : Bool} (e : isEg c (.cls i) = some b) : Own.excs.contains c = true ∧ i < 22 ∧ b = (i == c || i == 0 || i == parentOf c) := by
  have e : (if Own.excs.contains c = true ∧ i < 22 then some (i == c || i == 0 || i == parentOf c) else none) = some b := e
  split at e
  · rename_i h
    exact ⟨h.1, h.2, (Option.some.inj e).symm⟩
  · exact nomatch e
theorem isEg_ty [Own] {c : Nat} {n : String} {b : Bool} (e : isEg c (.ty n) = some b) : Own.excs.contains c = true ∧ (n = "ValueError" ∧ b = true ∨ othT n = true ∧ b = false) := by
  have e : (if Own.excs.contains c = true then (if n = "ValueError" then some true else if othT n = true then some false else none) else none) = some b := e
  split at e
  · rename_i h
    split at e
    · rename_i hn
      exact ⟨h, .inl ⟨hn, (Option.some.inj e).symm⟩⟩
    · split at e
      · rename_i hn
        exact ⟨h, .inr ⟨hn, (Option.some.inj e).symm⟩⟩
      · exact nomatch e
  · exact nomatch e
theorem isEg_exc [Own] {c : Nat} {t : Tt} {b : Bool} (e : isEg c t = some b) : Own.excs.contains c = true := by
  cases t with
  | cls i => exact (isEg_cls e).1
  | ty n => exact (isEg_ty e).1
theorem isEg_ok [Own] {K : PySem.W.Frag} {T : Tab} (h1 : kitX K T Own.excs = true) (h2 : excX K T Own.excs = true) : IsEOk K T isEg where
  kit c t b e := by
    have h := List.all_eq_true.mp h1 c (List.contains_iff_mem.mp (isEg_exc e))
    simp only [Bool.and_eq_true, beq_iff_eq] at h
    obtain ⟨⟨h3, h4⟩, h5⟩ := h
    cases t with
    | cls i =>
      obtain ⟨_, hi, rfl⟩ := isEg_cls e
      exact beq_iff_eq.mp (List.all_eq_true.mp h3 i (List.mem_range.mpr hi))
    | ty n =>
      obtain ⟨_, ⟨rfl, rfl⟩ | ⟨hn, rfl⟩⟩ := isEg_ty e
      · exact h4
      · exact beq_iff_eq.mp (List.all_eq_true.mp h5 n (List.contains_iff_mem.mp hn))
  exc c t b e := by
    have h := List.all_eq_true.mp h2 c (List.contains_iff_mem.mp (isEg_exc e))
    simp only [Bool.and_eq_true, beq_iff_eq] at h
    obtain ⟨⟨⟨⟨⟨⟨⟨a, b⟩, c⟩, d⟩, e⟩, f⟩, g⟩, i⟩ := h
    exact ⟨a, b, c, d, e, f, g, i⟩
theorem fl_exm [Own] {K : PySem.W.Frag} {T : Tab} (h : exmX K T Own.excs = true) (c : Nat) (fs : List (String × PV)) (v : PV) (e : FL c fs = some v) : PySem.W.exmOne K (.ref (T.C c)) (.ref (T.C 0)) = some true :=
  beq_iff_eq.mp (List.all_eq_true.mp h c (List.contains_iff_mem.mp (fl_some e).1))
/-- what isinstance asks of own classes, as a truth to be reckoned -/
def ownX (K : PySem.W.Frag) (T : Tab) (ids : List Nat) : Bool := ids.all fun c => (["NoneType", "bool", "int", "str", "tuple", "list", "dict"].all fun n => PySem.W.kitOne K (.type n) (.ref (T.C c)) == some false) && (ids.all fun d => PySem.W.kitOne K (.ref (T.C d)) (.ref (T.C c)) == some (d == c))
theorem isi_ok [Own] {K : PySem.W.Frag} {T : Tab} (ids : List Nat) (h : ownX K T ids = true) (hids : ∀ c, Own.own c = true → c ∈ ids) (hi : ∀ c, Own.own c = true → TyIns K (T.C c)) : IsiOk K T isi where
  kit t u b e := by
    cases t with
    | ty a => cases u with
      | ty n => exact kitB_kit e
      | cls c =>
        have e : (if (Own.own c && baseT a) = true then some false else none) = some b := e
        split at e
        · rename_i hc
          rw [Bool.and_eq_true] at hc
          cases e
          have h1 := List.all_eq_true.mp h c (hids c hc.1)
          rw [Bool.and_eq_true] at h1
          exact beq_iff_eq.mp (List.all_eq_true.mp h1.1 a (List.contains_iff_mem.mp hc.2))
        · exact nomatch e
    | cls a => cases u with
      | ty n => exact nomatch e
      | cls c =>
        have e : (if (Own.own a && Own.own c) = true then some (a == c) else none) = some b := e
        split at e
        · rename_i hc
          rw [Bool.and_eq_true] at hc
          cases e
          have h1 := List.all_eq_true.mp h c (hids c hc.2)
          rw [Bool.and_eq_true] at h1
          exact beq_iff_eq.mp (List.all_eq_true.mp h1.2 a (hids a hc.1))
        · exact nomatch e
  ins c u b e := by
    cases u with
    | ty n => exact nomatch e
    | cls d =>
      have e : (if (Own.own c && Own.own d) = true then some (c == d) else none) = some b := e
      split at e
      · rename_i hc
        rw [Bool.and_eq_true] at hc
        exact hi c hc.1
      · exact nomatch e
end Dn

set_option maxRecDepth 100000
set_option maxHeartbeats 4000000
namespace Sh
open PySem PySem.Spec PyProof.Rows L2 Dn
variable [Own]
def D__law_cell_at : DF := (dFn 2 2
 (dSeq (dIfS (dT (dOp mLt (dVar 1) (dBi mLen [(dVar 0)]))) (dRet (dOp mIx (dVar 0) (dVar 1)))
 dNil)
 (dRet (dC (.int 0)))))

def D__law_pen_of : DF := (dFn 1 2
 (dSeq (dSet (.nm 1) (dBi mMax2 [(dVar 0), (dOp mSub (dC (.int 0)) (dVar 0))]))
 (dRet (dNew [(dVar 1), (dBi mInt [(dOp mGe (dVar 1) (dOp mPow (dC (.int 10)) (dC (.int 18))))]), (dOp mMod (dVar 1) (dC (.int 1000003)))]))))

def D_is_tuple_of : DF := (dFn 3 3
 (dRet (dAndV (dBi (mIsi isi) [(dVar 0), (dC (.ty "tuple"))]) (dChain mLe mLe (dVar 1) (dBi mLen [(dVar 0)]) (dVar 2)))))

def D_is_whole : DF := (dFn 1 1
 (dRet (dAndV (dBi (mIsi isi) [(dVar 0), (dC (.ty "int"))]) (dNotV (dBi (mIsi isi) [(dVar 0), (dC (.ty "bool"))])))))

def D_is_within : DF := (dFn 3 3
 (dRet (dAndV (dCall D_is_whole [(dVar 0)] []) (dChain mLe mLe (dVar 1) (dVar 0) (dVar 2)))))

def C__are_lengths_1 : DE :=
 (dCall D_is_within [(dVar 1), (dC (.int 28)), (dC (.int 31))] [])
def D__are_lengths : DF := (dFn 1 2
 (dRet (dAndV (dCall D_is_tuple_of [(dVar 0), (dC (.int 1)), (dC (.int 12))] []) (dBi mAll [(dComp [1] (.nm 1) (dIT (dVar 0)) dYes
 C__are_lengths_1)]))))

def C__all_places_1 : DE :=
 (dTup [(dVar 1), (dVar 2)])
def I__all_places_1 : DI :=
 (dR1 (dOp mIx (dVar 0) (dVar 1)))
def D__all_places : DF := (dFn 1 3
 (dRet (dComp2 [1, 2] [2] (.nm 1) (dR1 (dBi mLen [(dVar 0)])) dYes (.nm 2) I__all_places_1 dYes
 C__all_places_1)))

def D_Months___init__ : DF := (dFn 2 2
 (dSeq (dIfS (dNot (dT (dCall D__are_lengths [(dVar 1)] []))) (dRaise 9)
 dNil)
 (dSeq (dSetA 22 "lengths" (dVar 0) (dVar 1))
 (dSetA 22 "places" (dVar 0) (dCall D__all_places [(dVar 1)] [])))))

def C__law_places_1 : DE :=
 (dTup [(dVar 2), (dVar 4)])
def B__law_places_1 : DS :=
 (dSet (.nm 1) (dOp mAdd (dVar 1) (dComp [4] (.nm 4) (dR1 (dVar 3)) dYes
 C__law_places_1)))
def D__law_places : DF := (dFn 1 5
 (dSeq (dSet (.nm 1) (dLst []))
 (dSeq (dFor (.tp [2, 3]) (dEnT (dVar 0)) B__law_places_1)
 (dRet (dVar 1)))))

def D__law_next : DF := (dFn 1 1
 (dSeq (dSet (.nm 0) (dOp mMod (dOp mAdd (dVar 0) (dC (.int 7919))) (dC (.int 2147483647))))
 (dRet (dOp mMod (dOp mAdd (dOp mAdd (dOp mMulA (dVar 0) (dVar 0)) (dOp mMulA (dC (.int 48271)) (dVar 0))) (dC (.int 12345))) (dC (.int 2147483629))))))

def D__law_draw : DF := (dFn 2 3
 (dSeq (dIfS (dAnd (dT (dOp mEq (dOp mIx (dVar 0) (dC (.int 1))) (dC (.int 1)))) (dT (dOp mGt (dOp mIx (dVar 0) (dC (.int 0))) (dC (.int 0))))) (dSeq (dSet (.nm 2) (dOp mMod (dOp mIx (dVar 0) (dC (.int 0))) (dVar 1)))
 (dSeq (dSetIx (dVar 0) (dC (.int 0)) (dOp mDiv (dOp mIx (dVar 0) (dC (.int 0))) (dVar 1)))
 (dRet (dVar 2))))
 dNil)
 (dSeq (dSetIx (dVar 0) (dC (.int 2)) (dCall D__law_next [(dOp mAdd (dCall D__law_next [(dOp mIx (dVar 0) (dC (.int 2)))] []) (dC (.int 7)))] []))
 (dRet (dOp mMod (dOp mDiv (dOp mIx (dVar 0) (dC (.int 2))) (dC (.int 64))) (dVar 1))))))

def D__law_pence : DF := (dFn 1 1
 (dRet (dOp mIx (dLst [(dC (.int 0)), (dC (.int 1)), (dCall D__law_draw [(dVar 0), (dC (.int 40))] []), (dCall D__law_draw [(dVar 0), (dC (.int 5000))] []), (dOp mAdd (dOp mPow (dC (.int 10)) (dC (.int 29))) (dCall D__law_draw [(dVar 0), (dOp mPow (dC (.int 10)) (dC (.int 6)))] []))]) (dCall D__law_draw [(dVar 0), (dC (.int 5))] []))))

def D__law_share : DF := (dFn 3 3
 (dRet (dOp mSub (dOp mDiv (dOp mMulA (dVar 0) (dOp mAdd (dVar 2) (dC (.int 1)))) (dVar 1)) (dOp mDiv (dOp mMulA (dVar 0) (dVar 2)) (dVar 1)))))

def D_Months_span_of : DF := (dFn 2 3
 (dSeq (dIfS (dNot (dT (dCall D_is_within [(dVar 1), (dC (.int 0)), (dOp mSub (dBi mLen [(dFld 22 "lengths" (dVar 0))]) (dC (.int 1)))] []))) (dRaise 10)
 dNil)
 (dSeq (dSet (.nm 2) (dBi mSum [(dSl mSlT (dFld 22 "lengths" (dVar 0)) none (some (dVar 1)))]))
 (dRet (dTup [(dVar 2), (dOp mAdd (dVar 2) (dOp mIx (dFld 22 "lengths" (dVar 0)) (dVar 1)))])))))

def D_is_pence : DF := (dFn 1 1
 (dRet (dAndV (dCall D_is_whole [(dVar 0)] []) (dOp mGe (dVar 0) (dC (.int 0))))))

def D_Months_stretch_of : DF := (dFn 3 3
 (dSeq (dIfS (dT (dOp mIs (dVar 1) (dC .non))) (dSet (.nm 1) (dC (.int 0)))
 dNil)
 (dSeq (dIfS (dT (dOp mIs (dVar 2) (dC .non))) (dSet (.nm 2) (dBi mLen [(dFld 22 "places" (dVar 0))]))
 dNil)
 (dSeq (dIfS (dNot (dT (dCall D_is_within [(dVar 1), (dC (.int 0)), (dOp mSub (dBi mLen [(dFld 22 "places" (dVar 0))]) (dC (.int 1)))] []))) (dRaise 10)
 dNil)
 (dSeq (dIfS (dNot (dT (dCall D_is_within [(dVar 2), (dVar 1), (dBi mLen [(dFld 22 "places" (dVar 0))])] []))) (dRaise 10)
 dNil)
 (dRet (dTup [(dVar 1), (dVar 2)])))))))

def D_Months_paid_ahead : DF := (dFn 3 5
 (dSeq (dIfS (dT (dOp mEq (dVar 2) (dBi mLen [(dFld 22 "places" (dVar 0))]))) (dRet (dOp mMulA (dVar 1) (dBi mLen [(dFld 22 "lengths" (dVar 0))])))
 dNil)
 (dSeq (dSet (.tp [3, 4]) (dOp mIx (dFld 22 "places" (dVar 0)) (dVar 2)))
 (dRet (dOp mAdd (dOp mMulA (dVar 1) (dVar 3)) (dOp mDiv (dOp mMulA (dVar 1) (dVar 4)) (dOp mIx (dFld 22 "lengths" (dVar 0)) (dVar 3))))))))

def D_Months_shares : DF := (dFn 4 6
 (dSeq (dIfS (dNot (dT (dCall D_is_pence [(dVar 1)] []))) (dRaise 11)
 dNil)
 (dSeq (dSet (.tp [4, 5]) (dMeth 22 "stretch_of" D_Months_stretch_of (dVar 0) [(dVar 2), (dVar 3)] []))
 (dRet (dOp mSub (dMeth 22 "paid_ahead" D_Months_paid_ahead (dVar 0) [(dVar 1), (dVar 5)] []) (dMeth 22 "paid_ahead" D_Months_paid_ahead (dVar 0) [(dVar 1), (dVar 4)] []))))))

def D_Months_place_of : DF := (dFn 2 2
 (dSeq (dIfS (dNot (dT (dCall D_is_within [(dVar 1), (dC (.int 0)), (dOp mSub (dBi mLen [(dFld 22 "places" (dVar 0))]) (dC (.int 1)))] []))) (dRaise 10)
 dNil)
 (dRet (dOp mIx (dFld 22 "places" (dVar 0)) (dVar 1)))))

def D_Months_share : DF := (dFn 3 3
 (dSeq (dIfS (dNot (dT (dCall D_is_pence [(dVar 1)] []))) (dRaise 11)
 dNil)
 (dSeq (dDo (dMeth 22 "place_of" D_Months_place_of (dVar 0) [(dVar 2)] []))
 (dRet (dOp mSub (dMeth 22 "paid_ahead" D_Months_paid_ahead (dVar 0) [(dVar 1), (dOp mAdd (dVar 2) (dC (.int 1)))] []) (dMeth 22 "paid_ahead" D_Months_paid_ahead (dVar 0) [(dVar 1), (dVar 2)] []))))))

def C__law_right_v2_1 : DE :=
 (dCall D__law_share [(dVar 4), (dOp mIx (dVar 1) (dVar 8)), (dVar 15)] [])
def B__law_right_v2_1 : DS :=
 (dIfS (dOr (dT (dOp mNe (dMeth 22 "place_of" D_Months_place_of (dVar 2) [(dVar 10)] []) (dOp mIx (dVar 3) (dVar 10)))) (dT (dOp mNe (dMeth 22 "share" D_Months_share (dVar 2) [(dVar 4), (dVar 10)] []) (dOp mIx (dVar 6) (dVar 10))))) (dRet (dC (.bl false)))
 dNil)
def B__law_right_v2_2 : DS :=
 (dSeq (dIfS (dOr (dT (dOp mNe (dMeth 22 "span_of" D_Months_span_of (dVar 2) [(dVar 8)] []) (dTup [(dVar 7), (dOp mAdd (dVar 7) (dVar 9))]))) (dT (dOp mNe (dMeth 22 "shares" D_Months_shares (dVar 2) [(dVar 4), (dVar 7), (dOp mAdd (dVar 7) (dVar 9))] []) (dVar 4)))) (dRet (dC (.bl false)))
 dNil)
 (dSeq (dFor (.nm 10) (dIT (dTup [(dVar 7), (dOp mSub (dOp mAdd (dVar 7) (dVar 9)) (dC (.int 1))), (dOp mAdd (dVar 7) (dCall D__law_draw [(dVar 0), (dVar 9)] []))])) B__law_right_v2_1)
 (dSet (.nm 7) (dOp mAdd (dVar 7) (dVar 9)))))
def B__law_right_v2_3 : DS :=
 (dSeq (dSet (.nm 12) (dCall D__law_draw [(dVar 0), (dVar 5)] []))
 (dSeq (dSet (.nm 13) (dOp mAdd (dVar 12) (dOp mIx (dLst [(dC (.int 0)), (dCall D__law_draw [(dVar 0), (dOp mAdd (dOp mSub (dVar 5) (dVar 12)) (dC (.int 1)))] []), (dOp mSub (dVar 5) (dVar 12))]) (dCall D__law_draw [(dVar 0), (dC (.int 3))] []))))
 (dSeq (dIfS (dT (dOp mNe (dOp mMulA (dLst [(dMeth 22 "shares" D_Months_shares (dVar 2) [(dVar 4), (dVar 12), (dVar 13)] [])]) (dC (.int 2))) (dLst [(dBi mSum [(dSl mSlL (dVar 6) (some (dVar 12)) (some (dVar 13)))]), (dMeth 22 "shares" D_Months_shares (dVar 2) [(dVar 4), (dVar 12), (dVar 13)] [])]))) (dRet (dC (.bl false)))
 dNil)
 (dSeq (dSet (.nm 14) (dLst [(dMeth 22 "shares" D_Months_shares (dVar 2) [(dVar 4), (dVar 12)] [.non]), (dMeth 22 "shares" D_Months_shares (dVar 2) [(dVar 4), (dC (.int 0)), (dVar 13)] []), (dMeth 22 "shares" D_Months_shares (dVar 2) [(dVar 4), (dC .non), (dVar 13)] [])]))
 (dIfS (dT (dOp mNe (dVar 14) (dLst [(dBi mSum [(dSl mSlL (dVar 6) (some (dVar 12)) none)]), (dBi mSum [(dSl mSlL (dVar 6) none (some (dVar 13)))]), (dBi mSum [(dSl mSlL (dVar 6) none (some (dVar 13)))])]))) (dRet (dC (.bl false)))
 dNil)))))
def D__law_right_v2 : DF := (dFn 2 16
 (dSeq (dPar 2 3 (dMake 22 D_Months___init__ [(dVar 1)] []) (dCall D__law_places [(dVar 1)] []))
 (dSeq (dSet (.tp [4, 5]) (dTup [(dCall D__law_pence [(dVar 0)] []), (dBi mLen [(dVar 3)])]))
 (dSeq (dSet (.nm 6) (dComp [8, 15] (.tp [8, 15]) (dIL (dVar 3)) dYes
 C__law_right_v2_1))
 (dSeq (dSet (.nm 7) (dC (.int 0)))
 (dSeq (dFor (.tp [8, 9]) (dEnT (dVar 1)) B__law_right_v2_2)
 (dSeq (dFor (.nm 11) (dR1 (dC (.int 6))) B__law_right_v2_3)
 (dRet (dOp mEq (dLst [(dMeth 22 "shares" D_Months_shares (dVar 2) [(dVar 4)] [.int 0, .non]), (dMeth 22 "shares" D_Months_shares (dVar 2) [(dVar 4), (dC .non), (dC .non)] [])]) (dOp mMulA (dLst [(dBi mSum [(dVar 6)])]) (dC (.int 2))))))))))))

def C__law_lengths_1 : DE :=
 (dOp mAdd (dC (.int 28)) (dCall D__law_draw [(dVar 0), (dC (.int 4))] []))
def D__law_lengths : DF := (dFn 1 2
 (dRet (dBi mTup [(dComp [1] (.nm 1) (dR1 (dOp mAdd (dC (.int 1)) (dCall D__law_draw [(dVar 0), (dOp mIx (dLst [(dC (.int 1)), (dC (.int 3)), (dC (.int 12))]) (dCall D__law_draw [(dVar 0), (dC (.int 3))] []))] []))) dYes
 C__law_lengths_1)])))

def D_Months___len__ : DF := (dFn 1 1
 (dRet (dBi mLen [(dFld 22 "places" (dVar 0))])))

def D_Months_all_lengths : DF := (dFn 1 1
 (dRet (dFld 22 "lengths" (dVar 0))))

def C__law_month_right_1 : DE :=
 (dMeth 22 "share" D_Months_share (dVar 0) [(dVar 2), (dVar 7)] [])
def C__law_month_right_2 : DE :=
 (dMeth 22 "share" D_Months_share (dVar 0) [(dOp mMulA (dC (.int 2)) (dVar 2)), (dVar 7)] [])
def C__law_month_right_3 : DE :=
 (dOp mGe (dVar 8) (dVar 9))
def D__law_month_right : DF := (dFn 3 10
 (dSeq (dSet (.tp [3, 4]) (dMeth 22 "span_of" D_Months_span_of (dVar 0) [(dVar 1)] []))
 (dSeq (dSet (.nm 5) (dComp [7] (.nm 7) (dR2 (dVar 3) (dVar 4)) dYes
 C__law_month_right_1))
 (dSeq (dIfS (dOr (dT (dOp mNe (dBi mSum [(dVar 5)]) (dVar 2))) (dOr (dT (dOp mGt (dOp mSub (dBi mMax1 [(dVar 5)]) (dBi mMin1 [(dVar 5)])) (dC (.int 1)))) (dT (dOp mNe (dMeth 22 "shares" D_Months_shares (dVar 0) [(dVar 2), (dVar 3), (dVar 4)] []) (dVar 2))))) (dRet (dC (.bl false)))
 dNil)
 (dSeq (dIfS (dOr (dT (dOp mNe (dMeth 22 "place_of" D_Months_place_of (dVar 0) [(dVar 3)] []) (dTup [(dVar 1), (dC (.int 0))]))) (dT (dOp mNe (dMeth 22 "place_of" D_Months_place_of (dVar 0) [(dOp mSub (dVar 4) (dC (.int 1)))] []) (dTup [(dVar 1), (dOp mSub (dOp mSub (dVar 4) (dVar 3)) (dC (.int 1)))])))) (dRet (dC (.bl false)))
 dNil)
 (dSeq (dSet (.nm 6) (dComp [7] (.nm 7) (dR2 (dVar 3) (dVar 4)) dYes
 C__law_month_right_2))
 (dRet (dBi mAll [(dComp [8, 9] (.tp [8, 9]) (dZip (dVar 6) (dVar 5)) dYes
 C__law_month_right_3)]))))))))

def D__law_names_v2 : DF := (dFn 0 0
 (dRet (dTup [(dC (.str (Str.ofString "ale"))), (dC (.str (Str.ofString "milk"))), (dC (.str (Str.ofString "oil")))])))

def D__law_holders : DF := (dFn 0 0
 (dRet (dTup [(dC (.str (Str.ofString "ann"))), (dC (.str (Str.ofString "bob"))), (dC (.str (Str.ofString "z"))), (dC (.str (Str.ofString "longname")))])))

def D__law_note : DF := (dFn 2 5
 (dSeq (dSet (.nm 2) (dCall D__law_draw [(dVar 0), (dC (.int 10))] []))
 (dSeq (dPar 3 4 (dOp mIx (dCall D__law_names_v2 [] []) (dCall D__law_draw [(dVar 0), (dC (.int 3))] [])) (dOp mIx (dCall D__law_holders [] []) (dCall D__law_draw [(dVar 0), (dC (.int 4))] [])))
 (dSeq (dIfS (dT (dOp mLt (dVar 2) (dC (.int 2)))) (dRet (dTup [(dVar 1), (dC (.str (Str.ofString "begins"))), (dVar 3), (dVar 4), (dOp mIx (dLst [(dC (.int 0)), (dCall D__law_draw [(dVar 0), (dC (.int 40))] [])]) (dVar 2))]))
 dNil)
 (dSeq (dIfS (dT (dOp mLt (dVar 2) (dC (.int 4)))) (dRet (dTup [(dVar 1), (dC (.str (Str.ofString "changes"))), (dVar 3)]))
 dNil)
 (dSeq (dIfS (dT (dOp mLt (dVar 2) (dC (.int 5)))) (dRet (dTup [(dVar 1), (dC (.str (Str.ofString "gives"))), (dVar 4)]))
 dNil)
 (dRet (dTup [(dVar 1), (dOp mIx (dLst [(dC (.str (Str.ofString "pauses"))), (dC (.str (Str.ofString "resumes"))), (dC (.str (Str.ofString "pauses"))), (dC (.str (Str.ofString "resumes"))), (dC (.str (Str.ofString "ends")))]) (dOp mSub (dVar 2) (dC (.int 5))))]))))))))

def B__law_notes_1 : DS :=
 (dSeq (dSet (.nm 7) (dOp mIx (dLst [(dVar 7), (dCall D__law_draw [(dVar 0), (dVar 2)] []), (dOp mAdd (dVar 7) (dC (.int 1)))]) (dCall D__law_draw [(dVar 0), (dC (.int 3))] [])))
 (dSeq (dSet (.nm 9) (dCall D__law_note [(dVar 0), (dBi mMin2 [(dVar 7), (dC (.int 371))])] []))
 (dIfS (dOr (dT (dOp mNe (dOp mIx (dVar 9) (dC (.int 1))) (dC (.str (Str.ofString "ends"))))) (dT (dOp mEq (dCall D__law_draw [(dVar 0), (dC (.int 3))] []) (dC (.int 0))))) (dSetD (dVar 3) (dVar 9) (dC (.bl true)))
 dNil)))
def D__law_notes : DF := (dFn 3 10
 (dSeq (dSet (.nm 3) (dNewD true))
 (dSeq (dIfS (dT (dOp mGt (dCall D__law_draw [(dVar 0), (dC (.int 4))] []) (dC (.int 0)))) (dSeq (dSet (.nm 4) (dOp mIx (dLst [(dC (.int 0)), (dC (.int 1)), (dCall D__law_draw [(dVar 0), (dC (.int 30))] []), (dC (.int 400))]) (dCall D__law_draw [(dVar 0), (dC (.int 4))] [])))
 (dSeq (dPar 5 6 (dOp mIx (dCall D__law_names_v2 [] []) (dCall D__law_draw [(dVar 0), (dC (.int 3))] [])) (dOp mIx (dCall D__law_holders [] []) (dCall D__law_draw [(dVar 0), (dC (.int 4))] [])))
 (dSetD (dVar 3) (dTup [(dCall D__law_draw [(dVar 0), (dC (.int 9))] []), (dC (.str (Str.ofString "begins"))), (dVar 5), (dVar 6), (dVar 4)]) (dC (.bl true)))))
 dNil)
 (dSeq (dSet (.nm 7) (dC (.int 0)))
 (dSeq (dFor (.nm 8) (dR1 (dCall D__law_draw [(dVar 0), (dVar 1)] [])) B__law_notes_1)
 (dRet (dBi mTup [(dBi mSorted [(dBi mLstA [(dVar 3)])])])))))))

def D__law_edges : DF := (dFn 1 6
 (dSeq (dPar3 1 2 3 (dCall D__law_draw [(dVar 0), (dC (.int 9))] []) (dOp mAdd (dC (.int 1)) (dCall D__law_draw [(dVar 0), (dC (.int 9))] [])) (dCall D__law_draw [(dVar 0), (dC (.int 4))] []))
 (dSeq (dSet (.nm 4) (dOp mAdd (dOp mAdd (dVar 1) (dVar 2)) (dVar 3)))
 (dSeq (dSet (.nm 5) (dNew [(dTup [(dVar 1), (dC (.str (Str.ofString "begins"))), (dC (.str (Str.ofString "ale"))), (dC (.str (Str.ofString "ann"))), (dVar 2)]), (dTup [(dVar 4), (dOp mIx (dLst [(dC (.str (Str.ofString "pauses"))), (dC (.str (Str.ofString "ends"))), (dC (.str (Str.ofString "changes")))]) (dCall D__law_draw [(dVar 0), (dC (.int 3))] []))])]))
 (dSeq (dIfS (dT (dOp mEq (dOp mIx (dOp mIx (dVar 5) (dNeg (dC (.int 1)))) (dC (.int 1))) (dC (.str (Str.ofString "changes"))))) (dSetIx (dVar 5) (dNeg (dC (.int 1))) (dTup [(dVar 4), (dC (.str (Str.ofString "changes"))), (dC (.str (Str.ofString "oil")))]))
 dNil)
 (dSeq (dIfS (dT (dOp mGt (dVar 3) (dC (.int 0)))) (dSet (.nm 5) (dOp mAdd (dVar 5) (dLst [(dTup [(dVar 1), (dC (.str (Str.ofString "pauses")))]), (dTup [(dOp mAdd (dVar 1) (dVar 3)), (dC (.str (Str.ofString "resumes")))])])))
 dNil)
 (dRet (dBi mTup [(dBi mSorted [(dOp mAdd (dVar 5) (dLst [(dTup [(dOp mAdd (dVar 4) (dC (.int 1))), (dC (.str (Str.ofString "gives"))), (dC (.str (Str.ofString "bob")))])]))])]))))))))

def D__law_reason : DF := (dFn 2 3
 (dSeq (dSet (.nm 2) (dOp mIx (dVar 0) (dC (.int 1))))
 (dSeq (dIfS (dT (dOp mEq (dVar 2) (dC (.str (Str.ofString "begins"))))) (dRet (dIf (dT (dOp mIs (dOp mDGet (dVar 1) (dC (.str (Str.ofString "begun")))) (dC .non))) (dC (.str (Str.ofString "takes"))) (dC (.str (Str.ofString "there")))))
 dNil)
 (dSeq (dIfS (dT (dOp mIs (dOp mDGet (dVar 1) (dC (.str (Str.ofString "begun")))) (dC .non))) (dRet (dC (.str (Str.ofString "unbegun"))))
 dNil)
 (dSeq (dIfS (dOr (dT (dOp mDGet (dVar 1) (dC (.str (Str.ofString "ended"))))) (dT (dChain mLt mLe (dC (.int 0)) (dOp mDGet (dVar 1) (dC (.str (Str.ofString "term")))) (dOp mDGet (dVar 1) (dC (.str (Str.ofString "ran"))))))) (dRet (dC (.str (Str.ofString "over"))))
 dNil)
 (dSeq (dIfS (dOr (dAnd (dT (dOp mEq (dVar 2) (dC (.str (Str.ofString "changes"))))) (dT (dOp mEq (dOp mIx (dVar 0) (dC (.int 2))) (dOp mDGet (dVar 1) (dC (.str (Str.ofString "kind"))))))) (dAnd (dT (dOp mEq (dVar 2) (dC (.str (Str.ofString "gives"))))) (dT (dOp mEq (dOp mIx (dVar 0) (dC (.int 2))) (dOp mDGet (dVar 1) (dC (.str (Str.ofString "holder")))))))) (dRet (dC (.str (Str.ofString "same"))))
 dNil)
 (dSeq (dIfS (dAnd (dT (dOp mEq (dVar 2) (dC (.str (Str.ofString "pauses"))))) (dT (dOp mDGet (dVar 1) (dC (.str (Str.ofString "paused")))))) (dRet (dC (.str (Str.ofString "paused"))))
 dNil)
 (dRet (dIf (dAnd (dT (dOp mEq (dVar 2) (dC (.str (Str.ofString "resumes"))))) (dNot (dT (dOp mDGet (dVar 1) (dC (.str (Str.ofString "paused"))))))) (dC (.str (Str.ofString "running"))) (dC (.str (Str.ofString "takes"))))))))))))

def D__law_take : DF := (dFn 2 3
 (dSeq (dSet (.nm 2) (dOp mIx (dVar 0) (dC (.int 1))))
 (dIfS (dT (dOp mEq (dVar 2) (dC (.str (Str.ofString "begins"))))) (dSeq (dSetG (dGTup 2 (dGCons (dGSub (dVar 1) (dC (.str (Str.ofString "begun")))) (dGCons (dGSub (dVar 1) (dC (.str (Str.ofString "kind")))) dGNil))) (dTup [(dOp mIx (dVar 0) (dC (.int 0))), (dOp mIx (dVar 0) (dC (.int 2)))]))
 (dSetG (dGTup 2 (dGCons (dGSub (dVar 1) (dC (.str (Str.ofString "holder")))) (dGCons (dGSub (dVar 1) (dC (.str (Str.ofString "term")))) dGNil))) (dTup [(dOp mIx (dVar 0) (dC (.int 3))), (dOp mIx (dVar 0) (dC (.int 4)))])))
 (dIfS (dT (dOp mEq (dVar 2) (dC (.str (Str.ofString "changes"))))) (dSetD (dVar 1) (dC (.str (Str.ofString "kind"))) (dOp mIx (dVar 0) (dC (.int 2))))
 (dIfS (dT (dOp mEq (dVar 2) (dC (.str (Str.ofString "gives"))))) (dSetD (dVar 1) (dC (.str (Str.ofString "holder"))) (dOp mIx (dVar 0) (dC (.int 2))))
 (dIfS (dT (dOp mEq (dVar 2) (dC (.str (Str.ofString "ends"))))) (dSetD (dVar 1) (dC (.str (Str.ofString "ended"))) (dC (.bl true)))
 (dSetD (dVar 1) (dC (.str (Str.ofString "paused"))) (dOp mEq (dVar 2) (dC (.str (Str.ofString "pauses")))))))))))

def C__law_life_1 : DE :=
 (dVar 6)
def T__law_life_1 : DB :=
 (dT (dOp mEq (dOp mIx (dVar 6) (dC (.int 0))) (dVar 4)))
def B__law_life_1 : DS :=
 (dSeq (dDo (dApp (dVar 2) (dCall D__law_reason [(dVar 5), (dVar 1)] [])))
 (dIfS (dT (dOp mEq (dOp mIx (dVar 2) (dNeg (dC (.int 1)))) (dC (.str (Str.ofString "takes"))))) (dDo (dCall D__law_take [(dVar 5), (dVar 1)] []))
 dNil))
def B__law_life_2 : DS :=
 (dSeq (dFor (.nm 5) (dIL (dComp [6] (.nm 6) (dIT (dVar 0)) T__law_life_1
 C__law_life_1)) B__law_life_1)
 (dIfS (dOr (dT (dOp mIs (dOp mDGet (dVar 1) (dC (.str (Str.ofString "begun")))) (dC .non))) (dOr (dT (dOp mDGet (dVar 1) (dC (.str (Str.ofString "ended"))))) (dT (dChain mLt mLe (dC (.int 0)) (dOp mDGet (dVar 1) (dC (.str (Str.ofString "term")))) (dOp mDGet (dVar 1) (dC (.str (Str.ofString "ran")))))))) (dDo (dApp (dVar 3) (dC .non)))
 (dSeq (dDo (dApp (dVar 3) (dTup [(dOp mDGet (dVar 1) (dC (.str (Str.ofString "holder")))), (dOp mDGet (dVar 1) (dC (.str (Str.ofString "kind")))), (dOp mDGet (dVar 1) (dC (.str (Str.ofString "paused")))), (dOp mDGet (dVar 1) (dC (.str (Str.ofString "ran"))))])))
 (dSetD (dVar 1) (dC (.str (Str.ofString "ran"))) (dOp mAdd (dOp mDGet (dVar 1) (dC (.str (Str.ofString "ran")))) (dBi mInt [(dNotV (dOp mDGet (dVar 1) (dC (.str (Str.ofString "paused")))))]))))))
def D__law_life : DF := gcD (dFn 1 7
 (dSeq (dSet (.nm 1) (dDisp [((dC (.str (Str.ofString "begun"))), (dC .non)), ((dC (.str (Str.ofString "kind"))), (dC (.str (Str.ofString "")))), ((dC (.str (Str.ofString "holder"))), (dC (.str (Str.ofString "")))), ((dC (.str (Str.ofString "term"))), (dC (.int 0))), ((dC (.str (Str.ofString "paused"))), (dC (.bl false))), ((dC (.str (Str.ofString "ended"))), (dC (.bl false))), ((dC (.str (Str.ofString "ran"))), (dC (.int 0)))]))
 (dSeq (dPar 2 3 (dNew []) (dNew []))
 (dSeq (dFor (.nm 4) (dR1 (dC (.int 372))) B__law_life_2)
 (dRet (dTupS [(dVar 2), (dVar 3), (dOp mDGet (dVar 1) (dC (.str (Str.ofString "begun"))))]))))))

def C_is_name_1 : DE :=
 (dChain mLeG mLeG (dC (.str (Str.ofString "a"))) (dVar 1) (dC (.str (Str.ofString "z"))))
def D_is_name : DF := (dFn 1 2
 (dSeq (dIfS (dOr (dNot (dT (dBi (mIsi isi) [(dVar 0), (dC (.ty "str"))]))) (dNot (dT (dChain mLeG mLeG (dC (.int 1)) (dBi mLenS [(dVar 0)]) (dC (.int 8)))))) (dRet (dC (.bl false)))
 dNil)
 (dRet (dBi mAll [(dComp [1] (.nm 1) (dIS (dVar 0)) dYes
 C_is_name_1)]))))

def C_is_note_1 : DE :=
 (dCall D_is_name [(dVar 2)] [])
def D_is_note : DF := (dFn 1 3
 (dSeq (dIfS (dOr (dNot (dT (dCall D_is_tuple_of [(dVar 0), (dC (.int 2)), (dC (.int 5))] []))) (dNot (dT (dCall D_is_within [(dOp mIx (dVar 0) (dC (.int 0))), (dC (.int 0)), (dC (.int 371))] [])))) (dRet (dC (.bl false)))
 dNil)
 (dSeq (dSet (.nm 1) (dOp mIx (dVar 0) (dC (.int 1))))
 (dSeq (dIfS (dOr (dNot (dT (dBi (mIsi isi) [(dVar 1), (dC (.ty "str"))]))) (dT (dOp mNe (dKGet [(.str (Str.ofString "begins"), .int 5), (.str (Str.ofString "changes"), .int 3), (.str (Str.ofString "ends"), .int 2), (.str (Str.ofString "gives"), .int 3), (.str (Str.ofString "pauses"), .int 2), (.str (Str.ofString "resumes"), .int 2)] (dVar 1) (dC (.int 0))) (dBi mLen [(dVar 0)])))) (dRet (dC (.bl false)))
 dNil)
 (dSeq (dIfS (dAnd (dT (dOp mEq (dVar 1) (dC (.str (Str.ofString "begins"))))) (dNot (dT (dCall D_is_within [(dOp mIx (dVar 0) (dC (.int 4))), (dC (.int 0)), (dC (.int 400))] [])))) (dRet (dC (.bl false)))
 dNil)
 (dRet (dBi mAll [(dComp [2] (.nm 2) (dIT (dSl mSlT (dVar 0) (some (dC (.int 2))) (some (dC (.int 4))))) dYes
 C_is_note_1)])))))))

def C_is_rising_1 : DE :=
 (dOp mLtG (dOp mIx (dVar 0) (dVar 1)) (dOp mIx (dVar 0) (dOp mAdd (dVar 1) (dC (.int 1)))))
def D_is_rising : DF := (dFn 1 2
 (dRet (dBi mAll [(dComp [1] (.nm 1) (dR1 (dOp mSub (dBi mLen [(dVar 0)]) (dC (.int 1)))) dYes
 C_is_rising_1)])))

def C_are_notes_1 : DE :=
 (dCall D_is_note [(dVar 1)] [])
def D_are_notes : DF := (dFn 1 2
 (dRet (dAndV (dCall D_is_tuple_of [(dVar 0), (dC (.int 0)), (dC (.int 16))] []) (dAndV (dBi mAll [(dComp [1] (.nm 1) (dIT (dVar 0)) dYes
 C_are_notes_1)]) (dCall D_is_rising [(dVar 0)] [])))))

def D__need_notes : DF := (dFn 1 1
 (dIfS (dNot (dT (dCall D_are_notes [(dVar 0)] []))) (dRaise 3)
 dNil))

def D_Standing___init__ : DF := (dFn 1 1
 (dSeq (dSetA 25 "day" (dVar 0) (dC (.int 0)))
 (dSeq (dSetA 25 "begun" (dVar 0) (dC .non))
 (dSeq (dSetA 25 "kind" (dVar 0) (dC (.str (Str.ofString ""))))
 (dSeq (dSetA 25 "holder" (dVar 0) (dC (.str (Str.ofString ""))))
 (dSeq (dSetA 25 "term" (dVar 0) (dC (.int 0)))
 (dSeq (dSetA 25 "paused" (dVar 0) (dC (.bl false)))
 (dSeq (dSetA 25 "ended" (dVar 0) (dC (.bl false)))
 (dSetA 25 "ran" (dVar 0) (dC (.int 0)))))))))))

def D_Standing_run_to : DF := (dFn 2 2
 (dSeq (dIfS (dAnd (dT (dOp mIsNot (dFld 25 "begun" (dVar 0)) (dC .non))) (dNot (dT (dFld 25 "paused" (dVar 0))))) (dSetA 25 "ran" (dVar 0) (dOp mSub (dOp mAdd (dFld 25 "ran" (dVar 0)) (dVar 1)) (dFld 25 "day" (dVar 0))))
 dNil)
 (dSetA 25 "day" (dVar 0) (dVar 1))))

def D_Standing_is_over : DF := (dFn 1 1
 (dRet (dOrV (dFld 25 "ended" (dVar 0)) (dAndV (dOp mGt (dFld 25 "term" (dVar 0)) (dC (.int 0))) (dOp mGe (dFld 25 "ran" (dVar 0)) (dFld 25 "term" (dVar 0)))))))

def D_Standing_fate_of : DF := (dFn 2 3
 (dSeq (dSet (.nm 2) (dOp mIx (dVar 1) (dC (.int 1))))
 (dSeq (dIfS (dT (dOp mEq (dVar 2) (dC (.str (Str.ofString "begins"))))) (dRet (dIf (dT (dOp mIs (dFld 25 "begun" (dVar 0)) (dC .non))) (dC (.str (Str.ofString "takes"))) (dC (.str (Str.ofString "there")))))
 dNil)
 (dSeq (dIfS (dT (dOp mIs (dFld 25 "begun" (dVar 0)) (dC .non))) (dRet (dC (.str (Str.ofString "unbegun"))))
 dNil)
 (dSeq (dIfS (dT (dMeth 25 "is_over" D_Standing_is_over (dVar 0) [] [])) (dRet (dC (.str (Str.ofString "over"))))
 dNil)
 (dSeq (dIfS (dAnd (dT (dOp mEq (dVar 2) (dC (.str (Str.ofString "changes"))))) (dT (dOp mEq (dOp mIx (dVar 1) (dC (.int 2))) (dFld 25 "kind" (dVar 0))))) (dRet (dC (.str (Str.ofString "same"))))
 dNil)
 (dSeq (dIfS (dAnd (dT (dOp mEq (dVar 2) (dC (.str (Str.ofString "gives"))))) (dT (dOp mEq (dOp mIx (dVar 1) (dC (.int 2))) (dFld 25 "holder" (dVar 0))))) (dRet (dC (.str (Str.ofString "same"))))
 dNil)
 (dSeq (dIfS (dAnd (dT (dOp mEq (dVar 2) (dC (.str (Str.ofString "pauses"))))) (dT (dFld 25 "paused" (dVar 0)))) (dRet (dC (.str (Str.ofString "paused"))))
 dNil)
 (dSeq (dIfS (dAnd (dT (dOp mEq (dVar 2) (dC (.str (Str.ofString "resumes"))))) (dNot (dT (dFld 25 "paused" (dVar 0))))) (dRet (dC (.str (Str.ofString "running"))))
 dNil)
 (dRet (dC (.str (Str.ofString "takes")))))))))))))

def D_Standing_take : DF := (dFn 2 3
 (dSeq (dSet (.nm 2) (dOp mIx (dVar 1) (dC (.int 1))))
 (dIfS (dT (dOp mEq (dVar 2) (dC (.str (Str.ofString "begins"))))) (dSeq (dSetA 25 "begun" (dVar 0) (dOp mIx (dVar 1) (dC (.int 0))))
 (dSetG (dGTup 3 (dGCons (dGFld 25 "kind" (dVar 0)) (dGCons (dGFld 25 "holder" (dVar 0)) (dGCons (dGFld 25 "term" (dVar 0)) dGNil)))) (dSl mSlT (dVar 1) (some (dC (.int 2))) none)))
 (dIfS (dT (dOp mEq (dVar 2) (dC (.str (Str.ofString "changes"))))) (dSetA 25 "kind" (dVar 0) (dOp mIx (dVar 1) (dC (.int 2))))
 (dIfS (dT (dOp mEq (dVar 2) (dC (.str (Str.ofString "gives"))))) (dSetA 25 "holder" (dVar 0) (dOp mIx (dVar 1) (dC (.int 2))))
 (dIfS (dT (dOp mEq (dVar 2) (dC (.str (Str.ofString "ends"))))) (dSetA 25 "ended" (dVar 0) (dC (.bl true)))
 (dSetA 25 "paused" (dVar 0) (dOp mEq (dVar 2) (dC (.str (Str.ofString "pauses")))))))))))

def D_Standing_read : DF := (dFn 2 3
 (dSeq (dDo (dMeth 25 "run_to" D_Standing_run_to (dVar 0) [(dOp mIx (dVar 1) (dC (.int 0)))] []))
 (dSeq (dSet (.nm 2) (dMeth 25 "fate_of" D_Standing_fate_of (dVar 0) [(dVar 1)] []))
 (dSeq (dIfS (dT (dOp mEq (dVar 2) (dC (.str (Str.ofString "takes"))))) (dDo (dMeth 25 "take" D_Standing_take (dVar 0) [(dVar 1)] []))
 dNil)
 (dRet (dVar 2))))))

def B_read_all_1 : DS :=
 (dDo (dApp (dVar 2) (dMeth 25 "read" D_Standing_read (dVar 1) [(dVar 3)] [])))
def D_read_all : DF := (dFn 1 4
 (dSeq (dSet (.nm 1) (dMakeS 25 D_Standing___init__ [] []))
 (dSeq (dSet (.nm 2) (dNew []))
 (dSeq (dFor (.nm 3) (dIT (dVar 0)) B_read_all_1)
 (dRet (dVar 2))))))

def D_fates : DF := (dFn 1 1
 (dSeq (dDo (dCall D__need_notes [(dVar 0)] []))
 (dRet (dCall D_read_all [(dVar 0)] []))))

def B_day_of_1 : DS :=
 (dIfS (dT (dOp mLe (dOp mIx (dVar 3) (dC (.int 0))) (dVar 1))) (dDo (dMeth 25 "read" D_Standing_read (dVar 2) [(dVar 3)] []))
 dNil)
def D_day_of : DF := (dFn 2 4
 (dSeq (dDo (dCall D__need_notes [(dVar 0)] []))
 (dSeq (dIfS (dNot (dT (dCall D_is_within [(dVar 1), (dC (.int 0)), (dC (.int 371))] []))) (dRaise 10)
 dNil)
 (dSeq (dSet (.nm 2) (dMakeS 25 D_Standing___init__ [] []))
 (dSeq (dFor (.nm 3) (dIT (dVar 0)) B_day_of_1)
 (dSeq (dDo (dMeth 25 "run_to" D_Standing_run_to (dVar 2) [(dVar 1)] []))
 (dSeq (dIfS (dOr (dT (dOp mIs (dFld 25 "begun" (dVar 2)) (dC .non))) (dT (dMeth 25 "is_over" D_Standing_is_over (dVar 2) [] []))) (dRet (dC .non))
 dNil)
 (dRet (dTup [(dFld 25 "holder" (dVar 2)), (dFld 25 "kind" (dVar 2)), (dFld 25 "paused" (dVar 2)), (dFld 25 "ran" (dVar 2))])))))))))

def D__law_flags (c : Nat) : DS :=
 (dSeq (dSet (.nm 1) (dLst [(dBi (mIsE isEg c) [(dVar 0), (dC (.cls 2))]), (dBi (mIsE isEg c) [(dVar 0), (dC (.cls 3))]), (dBi (mIsE isEg c) [(dVar 0), (dC (.cls 4))]), (dBi (mIsE isEg c) [(dVar 0), (dC (.cls 6))])]))
 (dSeq (dSet (.nm 1) (dOp mAdd (dVar 1) (dLst [(dBi (mIsE isEg c) [(dVar 0), (dC (.cls 7))]), (dBi (mIsE isEg c) [(dVar 0), (dC (.cls 9))]), (dBi (mIsE isEg c) [(dVar 0), (dC (.cls 10))]), (dBi (mIsE isEg c) [(dVar 0), (dC (.cls 11))])])))
 (dSeq (dSet (.nm 1) (dOp mAdd (dVar 1) (dLst [(dBi (mIsE isEg c) [(dVar 0), (dC (.cls 12))]), (dBi (mIsE isEg c) [(dVar 0), (dC (.cls 13))]), (dBi (mIsE isEg c) [(dVar 0), (dC (.cls 14))]), (dBi (mIsE isEg c) [(dVar 0), (dC (.cls 15))])])))
 (dSeq (dSet (.nm 1) (dOp mAdd (dVar 1) (dLst [(dBi (mIsE isEg c) [(dVar 0), (dC (.cls 16))]), (dBi (mIsE isEg c) [(dVar 0), (dC (.cls 17))]), (dBi (mIsE isEg c) [(dVar 0), (dC (.cls 18))]), (dBi (mIsE isEg c) [(dVar 0), (dC (.cls 19))])])))
 (dSeq (dSet (.nm 1) (dOp mAdd (dVar 1) (dLst [(dBi (mIsE isEg c) [(dVar 0), (dC (.cls 20))]), (dBi (mIsE isEg c) [(dVar 0), (dC (.cls 21))])])))
 (dSeq (dIfS (dOr (dNot (dT (dBi (mIsE isEg c) [(dVar 0), (dC (.ty "ValueError"))]))) (dT (dBi (mIsE isEg c) [(dVar 0), (dTup [(dC (.ty "LookupError")), (dC (.ty "TypeError")), (dC (.ty "ArithmeticError")), (dC (.ty "RuntimeError"))])]))) (dRet (dTup [(dC (.str (Str.ofString "other")))]))
 dNil)
 (dSeq (dSet (.nm 2) (dLst [(dC (.str (Str.ofString "note"))), (dC (.str (Str.ofString "notes"))), (dC (.str (Str.ofString "leans"))), (dC (.str (Str.ofString "kind"))), (dC (.str (Str.ofString "prices"))), (dC (.str (Str.ofString "months"))), (dC (.str (Str.ofString "day"))), (dC (.str (Str.ofString "pence"))), (dC (.str (Str.ofString "name"))), (dC (.str (Str.ofString "missing"))), (dC (.str (Str.ofString "twice"))), (dC (.str (Str.ofString "deed")))]))
 (dSeq (dSet (.nm 2) (dOp mAdd (dVar 2) (dLst [(dC (.str (Str.ofString "sheet"))), (dC (.str (Str.ofString "steps"))), (dC (.str (Str.ofString "wishes"))), (dC (.str (Str.ofString "line"))), (dC (.str (Str.ofString "many"))), (dC (.str (Str.ofString "text")))])))
 (dSeq (dIfS (dT (dOp mNe (dLm mCountF (dVar 1) (dC (.bl true))) (dC (.int 1)))) (dRet (dTup [(dC (.str (Str.ofString "other")))]))
 dNil)
 (dSeq (dSet (.nm 3) (dLm mIndexF (dVar 1) (dC (.bl true))))
 (dSeq (dSet (.nm 4) (dLst [(dBi (mIsE isEg c) [(dVar 0), (dC (.cls 1))]), (dBi (mIsE isEg c) [(dVar 0), (dC (.cls 5))]), (dBi (mIsE isEg c) [(dVar 0), (dC (.cls 8))])]))
 (dSeq (dIfS (dT (dOp mNe (dVar 4) (dLst [(dOp mLt (dVar 3) (dC (.int 3))), (dChain mLt mLt (dC (.int 2)) (dVar 3) (dC (.int 5))), (dChain mLt mLt (dC (.int 4)) (dVar 3) (dC (.int 7)))]))) (dRet (dTup [(dC (.str (Str.ofString "other")))]))
 dNil)
 (dSeq (dIfS (dT (dOp mEq (dOp mIx (dVar 2) (dVar 3)) (dC (.str (Str.ofString "many"))))) (dRet (dTup [(dOp mIx (dVar 2) (dVar 3)), dNo, dNo]))
 dNil)
 (dSeq (dIfS (dT (dOp mEq (dOp mIx (dVar 2) (dVar 3)) (dC (.str (Str.ofString "leans"))))) (dRet (dTup [(dOp mIx (dVar 2) (dVar 3)), dNo]))
 dNil)
 (dRet (dIf (dT (dOp mEq (dOp mIx (dVar 2) (dVar 3)) (dC (.str (Str.ofString "text"))))) (dTup [(dOp mIx (dVar 2) (dVar 3)), dNo]) (dTup [(dOp mIx (dVar 2) (dVar 3))])))))))))))))))))

end Sh


set_option maxRecDepth 100000
set_option maxHeartbeats 1000000
namespace Sh
open PySem L2 Dn
variable [Own]
local macro_rules | `(tactic| walk_at "ev") => `(tactic| simp (disch := omega) [m_mul, m_div, m_mod, d_ltT, d_ltF, d_leT, d_leF, i_ltT, i_ltF, i_gtT, i_gtF, b_eqT, b_eqF, envOf, List.getElem?_cons_zero, List.getElem?_cons_succ, *])
/-! the drawing -/
def nextI (s : Int) : Int := ((s + 7919) % 2147483647 * ((s + 7919) % 2147483647) + 48271 * ((s + 7919) % 2147483647) + 12345) % 2147483629
theorem next_ok (S : Sto) (s : Int) : D__law_next [.p (.int s)] S = .ok (.p (.int (nextI s))) S := by
  unfold D__law_next nextI
  walk_at "ev"
theorem nextI_nn (s : Int) : 0 ≤ nextI s := Int.emod_nonneg _ (by decide)
theorem nextI_lt (s : Int) : nextI s < 2147483629 := Int.emod_lt_of_pos _ (by decide)
/-- a pen at the place i of the store -/
def PnV (l f s : Int) : SO := .lst [.p (.int l), .p (.int f), .p (.int s)]
structure Pn (S : Sto) (i : Nat) : Prop where
  ex : ∃ l f s : Int, S[i]? = some (PnV l f s) ∧ 0 ≤ l ∧ 0 ≤ s
/-- another store: the pen at i alone has moved on -/
structure Pw (i : Nat) (S S' : Sto) : Prop where
  pn : Pn S' i
  len : S'.length = S.length
  oth : ∀ j, j ≠ i → S'[j]? = S[j]?
theorem Pw.refl {S : Sto} {i : Nat} (h : Pn S i) : Pw i S S := ⟨h, rfl, fun _ _ => rfl⟩
theorem Pw.trans {S S1 S2 : Sto} {i : Nat} (h : Pw i S S1) (k : Pw i S1 S2) : Pw i S S2 := ⟨k.pn, k.len.trans h.len, fun j hj => (k.oth j hj).trans (h.oth j hj)⟩
theorem Pw.put {S : Sto} {i : Nat} (h : Pn S i) {l f s : Int} (hl : 0 ≤ l) (hs : 0 ≤ s) : Pw i S (S.set i (PnV l f s)) := by
  obtain ⟨l0, f0, s0, e, _⟩ := h
  have hi := (List.getElem?_eq_some_iff.mp e).1
  exact ⟨⟨l, f, s, List.getElem?_set_self hi, hl, hs⟩, List.length_set, fun j hj => List.getElem?_set_ne (Ne.symm hj)⟩
theorem draw_ok {S : Sto} {i : Nat} (h : Pn S i) {m : Int} (h0 : 0 < m) (h1 : m < 1073741824) : ∃ r S', D__law_draw [.ob i, .p (.int m)] S = .ok (.p (.int r)) S' ∧ 0 ≤ r ∧ r < m ∧ Pw i S S' := by
  obtain ⟨l, f, s, e, hl, hs⟩ := id h
  have hi := (List.getElem?_eq_some_iff.mp e).1
  unfold PnV at e
  have r1 := Int.emod_nonneg l (show m ≠ 0 by omega)
  have r2 := Int.emod_lt_of_pos l h0
  have r3 : 0 ≤ l / m := Int.ediv_nonneg hl (by omega)
  have x0 : ∀ i : Int, ixN 3 i = if 0 ≤ i then (if i < 3 then some i.toNat else none) else if -(3 : Int) ≤ i then some (i + 3).toNat else none := fun _ => rfl
  have s0 : seqAt S (.ob i) 0 = some (.p (.int l)) := by rw [s_ob _ _ _ _ e]; rfl
  have s1 : seqAt S (.ob i) 1 = some (.p (.int f)) := by rw [s_ob _ _ _ _ e]; rfl
  have s2 : seqAt S (.ob i) 2 = some (.p (.int s)) := by rw [s_ob _ _ _ _ e]; rfl
  have y0 : ixN 3 0 = some 0 := rfl
  have y2 : ixN 3 2 = some 2 := rfl
  by_cases hf : f = 1 ∧ 0 < l
  · refine ⟨l % m, S.set i (PnV (l / m) f s), ?_, r1, r2, Pw.put h r3 hs⟩
    unfold D__law_draw PnV
    obtain ⟨rfl, hl0⟩ := hf
    simp (disch := omega) [m_mul, m_div, m_mod, d_ltT, d_ltF, d_leT, d_leF, b_eqT, b_eqF, envOf, List.getElem?_cons_zero, List.getElem?_cons_succ, -getElem?_pos, s0, s1, s2, y0, y2, e]
  · have hn := nextI_nn (nextI s + 7)
    have t0 : seqAt (S.set i (PnV l f (nextI (nextI s + 7)))) (.ob i) 2 = some (.p (.int (nextI (nextI s + 7)))) := (s_ob _ _ _ [.p (.int l), .p (.int f), .p (.int (nextI (nextI s + 7)))] (List.getElem?_set_self hi)).trans rfl
    unfold PnV at t0
    refine ⟨nextI (nextI s + 7) / 64 % m, S.set i (PnV l f (nextI (nextI s + 7))), ?_, Int.emod_nonneg _ (by omega), Int.emod_lt_of_pos _ h0, Pw.put h hl hn⟩
    unfold D__law_draw PnV
    by_cases hf1 : f = 1
    · have hl0 : ¬ 0 < l := fun z => hf ⟨hf1, z⟩
      subst hf1
      simp (disch := omega) [m_mul, m_div, m_mod, d_ltT, d_ltF, d_leT, d_leF, b_eqT, b_eqF, envOf, List.getElem?_cons_zero, List.getElem?_cons_succ, -getElem?_pos, s0, s1, s2, y0, y2, e, next_ok, t0]
    · simp (disch := omega) [m_mul, m_div, m_mod, d_ltT, d_ltF, d_leT, d_leF, b_eqT, b_eqF, envOf, List.getElem?_cons_zero, List.getElem?_cons_succ, -getElem?_pos, s0, s1, s2, y0, y2, e, next_ok, t0]

/-! cells and pens -/
local macro_rules | `(tactic| walk_at "go") => `(tactic| simp (disch := omega) [m_mul, m_div, m_mod, d_ltT, d_ltF, d_leT, d_leF, i_ltT, i_ltF, i_gtT, i_gtF, b_eqT, b_eqF, envOf, List.getElem?_cons_zero, List.getElem?_cons_succ, -getElem?_pos, *])
theorem cell_ok (S : Sto) (ns : List Int) : ∃ c, D__law_cell_at [.p (.scr (ns.map .int)), .p (.int 0)] S = .ok (.p (.int c)) S := by
  unfold D__law_cell_at
  cases ns with
  | nil => exact ⟨0, by walk_at "go"⟩
  | cons n r => exact ⟨n, by
      have : (0 : Int) < ((r.length : Int) + 1) := by omega
      walk_at "go"⟩
theorem pw18 (S : Sto) : mPow (.p (.int 10)) (.p (.int 18)) S = some (.p (.int 1000000000000000000)) := rfl
theorem pen_ok (S : Sto) (c : Int) : ∃ v, D__law_pen_of [.p (.int c)] S = .ok (.ob S.length) (S ++ [v]) ∧ Pn (S ++ [v]) S.length := by
  unfold D__law_pen_of
  by_cases h : c ≤ 0 - c
  · by_cases h2 : c = 0 - c
    · refine ⟨PnV c (if (decide (1000000000000000000 ≤ c)) then 1 else 0) (c % 1000003), ?_, ⟨_, _, _, by simp; rfl, by omega, Int.emod_nonneg _ (by decide)⟩⟩
      unfold PnV
      simp (disch := omega) [m_mod, i_gtF, envOf, List.getElem?_cons_zero, List.getElem?_cons_succ, -getElem?_pos, pw18, LIM]
    · refine ⟨PnV (0 - c) (if (decide (1000000000000000000 ≤ 0 - c)) then 1 else 0) ((0 - c) % 1000003), ?_, ⟨_, _, _, by simp; rfl, by omega, Int.emod_nonneg _ (by decide)⟩⟩
      unfold PnV
      simp (disch := omega) [m_mod, i_gtT, envOf, List.getElem?_cons_zero, List.getElem?_cons_succ, -getElem?_pos, pw18, LIM]
  · refine ⟨PnV c (if (decide (1000000000000000000 ≤ c)) then 1 else 0) (c % 1000003), ?_, ⟨_, _, _, by simp; rfl, by omega, Int.emod_nonneg _ (by decide)⟩⟩
    unfold PnV
    simp (disch := omega) [m_mod, i_gtF, envOf, List.getElem?_cons_zero, List.getElem?_cons_succ, -getElem?_pos, pw18, LIM]
end Sh

set_option maxRecDepth 100000
set_option maxHeartbeats 1000000
namespace Sh
open PySem L2 Dn
variable [Own]
local macro_rules | `(tactic| walk_at "go") => `(tactic| simp (disch := omega) [m_mul, m_div, m_mod, d_ltT, d_ltF, d_leT, d_leF, i_ltT, i_ltF, i_gtT, i_gtF, b_eqT, b_eqF, i_r1, i_r2, envOf, List.getElem?_cons_zero, List.getElem?_cons_succ, -getElem?_pos, *])
/-! ### the months -/
/-- lengths of months -/
structure Ls (ls : List Int) : Prop where
  ne : 1 ≤ ls.length
  le : ls.length ≤ 12
  of : ∀ l ∈ ls, 28 ≤ l ∧ l ≤ 31
theorem rng_len (lo : Int) (n : Nat) : (rng lo n).length = n := by simp [rng]
theorem ints_of : ∀ (vs : List PV) (Q : Int → Prop), (∀ v ∈ vs, ∃ i : Int, v = .int i ∧ Q i) → ∃ ls : List Int, vs = ls.map .int ∧ ∀ l ∈ ls, Q l
  | [], _, _ => ⟨[], rfl, by simp⟩
  | v :: vs, Q, h => by
    obtain ⟨i, e, q⟩ := h v List.mem_cons_self
    obtain ⟨ls, e2, h2⟩ := ints_of vs Q fun u hu => h u (List.mem_cons_of_mem _ hu)
    exact ⟨i :: ls, by rw [e, e2]; rfl, fun l hl => by
      rcases List.mem_cons.mp hl with z | z
      · rw [z]; exact q
      · exact h2 l z⟩
theorem lengths_ok {S : Sto} {i : Nat} (h : Pn S i) : ∃ ls S', D__law_lengths [.ob i] S = .ok (.p (.tup (ls.map .int))) S' ∧ Ls ls ∧ Pw i S S' := by
  obtain ⟨r1, S1, e1, a1, b1, w1⟩ := draw_ok h (m := 3) (by decide) (by decide)
  have hat : ∃ n : Int, atI [PV.int 1, .int 3, .int 12] r1 = some (.int n) ∧ 1 ≤ n ∧ n ≤ 12 := by
    have : r1 = 0 ∨ r1 = 1 ∨ r1 = 2 := by omega
    rcases this with rfl | rfl | rfl
    · exact ⟨1, rfl, by decide, by decide⟩
    · exact ⟨3, rfl, by decide, by decide⟩
    · exact ⟨12, rfl, by decide, by decide⟩
  obtain ⟨n, en, hn1, hn2⟩ := hat
  obtain ⟨r2, S2, e2, a2, b2, w2⟩ := draw_ok w1.pn (m := n) (by omega) (by omega)
  have key := compL_inv (t := .nm 1) (tt := dYes) (el := C__law_lengths_1) (env := wipeE [some (.ob i), none] [1]) (fun S => Pw i S1 S) (fun v => ∃ l : Int, v = .int l ∧ 28 ≤ l ∧ l ≤ 31) (rng 0 (1 + r2).toNat) [] S2 w2 (fun x hx S hP => by
    obtain ⟨r, S3, e3, a3, b3, w3⟩ := draw_ok hP.pn (m := 4) (by decide) (by decide)
    refine ⟨[some (.ob i), some x], rfl, rfl, .int (28 + r), S3, ?_, ⟨28 + r, rfl, by omega, by omega⟩, hP.trans w3⟩
    unfold C__law_lengths_1
    walk_at "go") (by rw [rng_len]; show 0 + _ ≤ 1000000; omega)
  obtain ⟨vs, S3, ek, hlen, hR, hP⟩ := key
  obtain ⟨ls, rfl, hls⟩ := ints_of vs _ hR
  rw [rng_len, List.length_map] at hlen
  refine ⟨ls, S3, ?_, ⟨by omega, by omega, hls⟩, w1.trans hP⟩
  unfold D__law_lengths
  simp (disch := omega) [i_r1, envOf, List.getElem?_cons_zero, List.getElem?_cons_succ, -getElem?_pos, e1, en, e2, LIM]
  rw [ek]
  simp
theorem isi_ii : isi (.ty "int") (.ty "int") = some true := kb1
theorem isi_ib : isi (.ty "int") (.ty "bool") = some false := kb2
theorem isi_tt : isi (.ty "tuple") (.ty "tuple") = some true := kb9
theorem whole_ok (S : Sto) (x : Int) : D_is_whole [.p (.int x)] S = .ok (.p (.bl true)) S := by
  unfold D_is_whole
  simp [isi_ii, isi_ib, envOf]
theorem within_ok (S : Sto) (x lo hi : Int) : D_is_within [.p (.int x), .p (.int lo), .p (.int hi)] S = .ok (.p (.bl (decide (lo ≤ x) && decide (x ≤ hi)))) S := by
  unfold D_is_within
  by_cases h : lo ≤ x
  · simp [whole_ok, envOf, h]
  · simp [whole_ok, envOf, h]
theorem pence_ok (S : Sto) (x : Int) (h : 0 ≤ x) : D_is_pence [.p (.int x)] S = .ok (.p (.bl true)) S := by
  unfold D_is_pence
  simp [whole_ok, envOf, h]
theorem tupof_ok (S : Sto) (xs : List PV) (lo hi : Int) : D_is_tuple_of [.p (.tup xs), .p (.int lo), .p (.int hi)] S = .ok (.p (.bl (decide (lo ≤ (xs.length : Int)) && decide ((xs.length : Int) ≤ hi)))) S := by
  unfold D_is_tuple_of
  by_cases h : lo ≤ (xs.length : Int)
  · simp [isi_tt, envOf, h]
  · simp [isi_tt, envOf, h]
theorem are_ok (S : Sto) {ls : List Int} (h : Ls ls) : D__are_lengths [.p (.tup (ls.map .int))] S = .ok (.p (.bl true)) S := by
  have key := compL_map (t := .nm 1) (tt := dYes) (el := C__are_lengths_1) (env := wipeE [some (.p (.tup (ls.map .int))), none] [1]) (S := S) (fun _ => .bl true) ((ls.map PV.int).map .p) [] (fun x hx => by
    simp only [List.mem_map] at hx
    obtain ⟨v, ⟨l, hl, rfl⟩, rfl⟩ := hx
    obtain ⟨h1, h2⟩ := h.of l hl
    refine ⟨[some (.p (.tup (ls.map .int))), some (.p (.int l))], rfl, rfl, ?_⟩
    simp [C__are_lengths_1, within_ok, h1, h2]) (by have := h.le; show 0 + _ ≤ 1000000; simp; omega)
  have h1 := h.ne
  have h2 := h.le
  unfold D__are_lengths
  simp [tupof_ok, envOf, show (1 : Int) ≤ (ls.length : Int) by omega, show (ls.length : Int) ≤ 12 by omega]
  rw [show List.map (VV.p ∘ PV.int) ls = ((ls.map PV.int).map .p) by simp, key]
  simp [all_map, Function.comp_def]
end Sh

set_option maxRecDepth 100000
set_option maxHeartbeats 1000000
namespace Sh
open PySem L2 Dn
variable [Own]
local macro_rules | `(tactic| walk_at "go") => `(tactic| simp (disch := omega) [m_mul, m_div, m_mod, d_ltT, d_ltF, d_leT, d_leF, i_ltT, i_ltF, i_gtT, i_gtF, b_eqT, b_eqF, i_r1, i_r2, envOf, List.getElem?_cons_zero, List.getElem?_cons_succ, -getElem?_pos, *])
/-! ### places -/
def row (m : Nat) (l : Int) : List PV := (List.range l.toNat).map fun (d : Nat) => .tup [.int m, .int d]
def plc : Nat → List Int → List PV
  | _, [] => []
  | m, l :: r => row m l ++ plc (m + 1) r
theorem flat_congr {α β : Type} {f g : α → List β} : ∀ (xs : List α), (∀ x ∈ xs, f x = g x) → xs.flatMap f = xs.flatMap g
  | [], _ => rfl
  | x :: xs, h => by rw [List.flatMap_cons, List.flatMap_cons, h x List.mem_cons_self, flat_congr xs fun y hy => h y (List.mem_cons_of_mem _ hy)]
theorem plc_flat : ∀ (ls : List Int) (m : Nat), plc m ls = (List.range ls.length).flatMap fun i => row (m + i) (ls.getD i 0)
  | [], _ => rfl
  | l :: r, m => by
    rw [plc, plc_flat r (m + 1), List.length_cons, List.range_succ_eq_map, List.flatMap_cons, List.flatMap_map]
    congr 1
    exact flat_congr _ fun i hi => by simp [Nat.add_assoc, Nat.add_comm 1 i]
theorem plc_len : ∀ (ls : List Int) (m : Nat), (∀ l ∈ ls, 0 ≤ l) → ((plc m ls).length : Int) = ls.sum
  | [], _, _ => rfl
  | l :: r, m, h => by
    have h1 := h l List.mem_cons_self
    have h2 := plc_len r (m + 1) fun x hx => h x (List.mem_cons_of_mem _ hx)
    rw [plc, List.length_append, List.sum_cons, ← h2, row, List.length_map, List.length_range]
    omega
theorem sum_le : ∀ (ls : List Int), (∀ l ∈ ls, 28 ≤ l ∧ l ≤ 31) → 28 * (ls.length : Int) ≤ ls.sum ∧ ls.sum ≤ 31 * (ls.length : Int)
  | [], _ => by simp
  | l :: r, h => by
    have h1 := h l List.mem_cons_self
    have h2 := sum_le r fun x hx => h x (List.mem_cons_of_mem _ hx)
    rw [List.sum_cons, List.length_cons]
    omega
theorem Ls.pos {ls : List Int} (h : Ls ls) : ∀ l ∈ ls, 0 ≤ l := fun l hl => by have := h.of l hl; omega
theorem places_ok (S : Sto) {ls : List Int} (h : Ls ls) : D__all_places [.p (.tup (ls.map .int))] S = .ok (.p (.lst (plc 0 ls))) S := by
  have hsz := sum_le ls h.of
  have h2 := h.le
  have hpl := plc_len ls 0 h.pos
  have e0 : (rng 0 ls.length).flatMap (fun x => match x with | .p (.int i) => row i.toNat (ls.getD i.toNat 0) | _ => []) = plc 0 ls := by
    rw [plc_flat, rng, List.flatMap_map]
    exact flat_congr _ fun i hi => by simp
  have key := compL2_map (t := .nm 1) (tt := dYes) (t1 := .nm 2) (tt1 := dYes) (vs1 := [2]) (it1 := I__all_places_1) (el := C__all_places_1) (env := wipeE [some (.p (.tup (ls.map .int))), none, none] [1, 2]) (S := S) (fun x => match x with | .p (.int i) => row i.toNat (ls.getD i.toNat 0) | _ => []) (rng 0 ls.length) [] (fun x hx => by
    simp only [rng, List.mem_map, List.mem_range] at hx
    obtain ⟨i, hi, rfl⟩ := hx
    have hg : ls[i]? = some (ls.getD i 0) := by rw [List.getElem?_eq_getElem hi, List.getD_eq_getElem?_getD, List.getElem?_eq_getElem hi]; rfl
    have hl := h.of _ (List.mem_of_getElem? hg)
    refine ⟨[some (.p (.tup (ls.map .int))), some (.p (.int i)), none], by simp [wipeE, Tg.put], rfl, rng 0 (ls.getD i 0).toNat, fun _ => true, ?_, ?_⟩
    · have e1 : atI (ls.map PV.int) (i : Int) = some (.int (ls.getD i 0)) := by rw [at_nat, List.getElem?_map, hg]; rfl
      simp [I__all_places_1, e1]
      rw [List.getD_eq_getElem?_getD] at hl
      omega
    · intro acc ha
      have e2 : rng 0 (ls.getD i 0).toNat = (List.range (ls.getD i 0).toNat).map (fun (d : Nat) => VV.p (.int d)) := by simp [rng]
      have := compL_map (t := .nm 2) (tt := dYes) (el := C__all_places_1) (env := wipeE [some (.p (.tup (ls.map .int))), some (.p (.int i)), none] [2]) (S := S) (fun x => match x with | .p v => .tup [.int i, v] | _ => .non) (rng 0 (ls.getD i 0).toNat) acc (fun y hy => by
        simp only [rng, List.mem_map, List.mem_range] at hy
        obtain ⟨d, hd, rfl⟩ := hy
        refine ⟨[some (.p (.tup (ls.map .int))), some (.p (.int i)), some (.p (.int (0 + d)))], by simp [wipeE, Tg.put], rfl, ?_⟩
        simp [C__all_places_1, LIM]) (by rw [rng_len]; simpa [row] using ha)
      refine this.trans ?_
      congr 2
      rw [e2, List.map_map]
      simp [row, Function.comp_def]) (by rw [e0]; show 0 + _ ≤ 1000000; omega)
  rw [e0] at key
  unfold D__all_places
  simp (disch := omega) [envOf, List.getElem?_cons_zero, List.getElem?_cons_succ, i_r1, i_ltT, -getElem?_pos]
  rw [key]
  simp

/-! ### the months made -/
def Mo (ls : List Int) : PV := .ins 22 [("lengths", .tup (ls.map .int)), ("places", .lst (plc 0 ls))]
theorem made_ok (S : Sto) {ls : List Int} (h : Ls ls) (env : En) (m : DE) (hm : m env S = .ok (.p (.tup (ls.map .int))) S) : dMake 22 D_Months___init__ [m] [] env S = .ok (.p (Mo ls)) S := by
  have a := are_ok (S ++ [SO.ins 22 []]) h
  have b := places_ok (S ++ [SO.ins 22 [("lengths", .p (.tup (ls.map .int)))]]) h
  have e : D_Months___init__ [.ob S.length, .p (.tup (ls.map .int))] (S ++ [SO.ins 22 []]) = .ok (.p .non) (S ++ [.ins 22 [("lengths", .p (.tup (ls.map .int))), ("places", .p (.lst (plc 0 ls)))]]) := by
    unfold D_Months___init__
    simp [envOf, a, putA, b, List.getElem?_cons_zero, List.getElem?_cons_succ]
  simp [hm, e, frzIns, Mo, backTo_, plainF]
end Sh

set_option maxRecDepth 100000
set_option maxHeartbeats 1000000
namespace Sh
open PySem L2 Dn
variable [Own]
/-! ### the days counted -/
def sumN (ls : List Int) (m : Nat) : Int := (ls.take m).sum
theorem sumN_zero (ls : List Int) : sumN ls 0 = 0 := by simp [sumN]
theorem sumN_succ (l : Int) (r : List Int) (m : Nat) : sumN (l :: r) (m + 1) = l + sumN r m := by simp [sumN]
theorem sumN_all (ls : List Int) : sumN ls ls.length = ls.sum := by simp [sumN]
theorem sumN_next : ∀ (ls : List Int) (m : Nat) (l : Int), ls[m]? = some l → sumN ls (m + 1) = sumN ls m + l
  | [], _, _, h => by simp at h
  | x :: r, 0, l, h => by
    simp at h; subst h; rw [sumN_succ, sumN_zero, sumN_zero]; omega
  | x :: r, m + 1, l, h => by
    rw [sumN_succ, sumN_succ, sumN_next r m l (by simpa using h)]; omega
theorem sumN_nn : ∀ (ls : List Int) (m : Nat), (∀ l ∈ ls, 0 ≤ l) → 0 ≤ sumN ls m
  | [], m, _ => by simp [sumN]
  | _ :: _, 0, _ => by simp [sumN]
  | x :: r, m + 1, h => by
    have h1 := h x List.mem_cons_self
    have h2 := sumN_nn r m fun y hy => h y (List.mem_cons_of_mem _ hy)
    rw [sumN_succ]; omega
/-- each day has a place -/
theorem day_split : ∀ (ls : List Int) (x : Int), (∀ l ∈ ls, 0 < l) → 0 ≤ x → x < ls.sum → ∃ m l d, ls[m]? = some l ∧ 0 ≤ d ∧ d < l ∧ x = sumN ls m + d
  | [], x, _, h0, h1 => by simp at h1; omega
  | l :: r, x, h, h0, h1 => by
    by_cases hx : x < l
    · exact ⟨0, l, x, rfl, h0, hx, by rw [sumN_zero]; omega⟩
    · rw [List.sum_cons] at h1
      obtain ⟨m, l', d, a, b, c, e⟩ := day_split r (x - l) (fun y hy => h y (List.mem_cons_of_mem _ hy)) (by omega) (by omega)
      exact ⟨m + 1, l', d, by simpa using a, b, c, by rw [sumN_succ]; omega⟩
/-- the place of a day -/
theorem plc_at : ∀ (ls : List Int) (k m : Nat) (l d : Int), (∀ l ∈ ls, 0 ≤ l) → ls[m]? = some l → 0 ≤ d → d < l → (plc k ls)[(sumN ls m + d).toNat]? = some (.tup [.int ((k : Int) + m), .int d])
  | [], _, _, _, _, _, h, _, _ => by simp at h
  | x :: r, k, 0, l, d, _, h, h0, h1 => by
    simp at h; subst h
    rw [sumN_zero, plc, List.getElem?_append_left (by simp [row]; omega)]
    simp only [row, List.getElem?_map, List.getElem?_range, Int.zero_add]
    rw [List.getElem?_range (by omega)]
    simp; omega
  | x :: r, k, m + 1, l, d, hp, h, h0, h1 => by
    have hx := hp x List.mem_cons_self
    have hr : ∀ y ∈ r, 0 ≤ y := fun y hy => hp y (List.mem_cons_of_mem _ hy)
    have hs := sumN_nn r m hr
    have ih := plc_at r (k + 1) m l d hr (by simpa using h) h0 h1
    have e1 : (row k x).length = x.toNat := by simp [row]
    rw [sumN_succ, plc, List.getElem?_append_right (by rw [e1]; omega), e1, show (x + sumN r m + d).toNat - x.toNat = (sumN r m + d).toNat by omega, ih]
    simp; omega
/-! ### shares -/
def shv (p l d : Int) : Int := p * (d + 1) / l - p * d / l
/-- the sum of the shares of the first x days -/
def Tt_ (p : Int) : List Int → Int → Int
  | [], _ => 0
  | l :: r, x => if x < l then p * x / l else p + Tt_ p r (x - l)
theorem Tt_zero (p : Int) : ∀ (ls : List Int), (∀ l ∈ ls, 0 < l) → Tt_ p ls 0 = 0
  | [], _ => rfl
  | l :: r, h => by
    have h1 := h l List.mem_cons_self
    rw [Tt_, if_pos h1]; simp
theorem Tt_start (p : Int) : ∀ (ls : List Int) (m : Nat), (∀ l ∈ ls, 0 < l) → m ≤ ls.length → Tt_ p ls (sumN ls m) = p * m
  | ls, 0, h, _ => by rw [sumN_zero, Tt_zero p ls h]; simp
  | [], m + 1, _, h => by simp at h
  | l :: r, m + 1, h, hm => by
    have hr : ∀ y ∈ r, 0 < y := fun y hy => h y (List.mem_cons_of_mem _ hy)
    have hs := sumN_nn r m fun y hy => by have := hr y hy; omega
    rw [sumN_succ, Tt_, if_neg (by omega), show l + sumN r m - l = sumN r m by omega, Tt_start p r m hr (by simpa using hm)]
    push_cast
    rw [Int.mul_add]; omega
theorem Tt_step (p : Int) : ∀ (ls : List Int) (m : Nat) (l d : Int), (∀ l ∈ ls, 0 < l) → ls[m]? = some l → 0 ≤ d → d < l → Tt_ p ls (sumN ls m + d + 1) = Tt_ p ls (sumN ls m + d) + shv p l d
  | [], _, _, _, _, h, _, _ => by simp at h
  | x :: r, 0, l, d, hp, h, h0, h1 => by
    have hr : ∀ y ∈ r, 0 < y := fun y hy => hp y (List.mem_cons_of_mem _ hy)
    simp at h; subst h
    rw [sumN_zero, Int.zero_add, Tt_, Tt_, if_pos h1, shv]
    by_cases hd : d + 1 < x
    · rw [if_pos hd]; omega
    · have e : d + 1 = x := by omega
      rw [if_neg hd, e, show x - x = 0 by omega, Tt_zero p r hr, Int.mul_ediv_cancel _ (by omega)]; omega
  | x :: r, m + 1, l, d, hp, h, h0, h1 => by
    have hr : ∀ y ∈ r, 0 < y := fun y hy => hp y (List.mem_cons_of_mem _ hy)
    have hs := sumN_nn r m fun y hy => by have := hr y hy; omega
    have ih := Tt_step p r m l d hr (by simpa using h) h0 h1
    rw [sumN_succ, Tt_, Tt_, if_neg (by omega), if_neg (by omega), show x + sumN r m + d + 1 - x = sumN r m + d + 1 by omega, show x + sumN r m + d - x = sumN r m + d by omega, ih]
    omega
/-- each share is the whole part of a month's, or one more -/
theorem shv_near (p l d : Int) (h : 28 ≤ l) (h2 : l ≤ 31) : p / l ≤ shv p l d ∧ shv p l d ≤ p / l + 1 := by
  unfold shv
  rw [Int.mul_add, Int.mul_one]
  generalize p * d = a
  have : l = 28 ∨ l = 29 ∨ l = 30 ∨ l = 31 := by omega
  rcases this with rfl | rfl | rfl | rfl <;> omega
theorem shv_twice (p l d : Int) (hp : 0 ≤ p) (h : 28 ≤ l) (h2 : l ≤ 31) : shv p l d ≤ shv (2 * p) l d := by
  unfold shv
  rw [Int.mul_add, Int.mul_one, Int.mul_add, Int.mul_one, Int.mul_assoc]
  generalize p * d = a
  have h3 : 2 * a / l ≤ (2 * a + 2 * p) / l := Int.ediv_le_ediv (by omega) (by omega)
  have h4 : a / l ≤ (a + p) / l := Int.ediv_le_ediv (by omega) (by omega)
  have h5 : 2 * a / l ≤ 2 * (a / l) + 1 := by
    have : l = 28 ∨ l = 29 ∨ l = 30 ∨ l = 31 := by omega
    rcases this with rfl | rfl | rfl | rfl <;> omega
  have h6 : 2 * ((a + p) / l) ≤ (2 * a + 2 * p) / l := by
    rw [← Int.mul_add 2 a p]
    generalize a + p = b
    have : l = 28 ∨ l = 29 ∨ l = 30 ∨ l = 31 := by omega
    rcases this with rfl | rfl | rfl | rfl <;> omega
  omega
end Sh

set_option maxRecDepth 100000
set_option maxHeartbeats 1000000
namespace Sh
open PySem L2 Dn
variable [Own]
local macro_rules | `(tactic| walk_at "go") => `(tactic| simp (disch := omega) [m_mul, m_div, m_mod, d_ltT, d_ltF, d_leT, d_leF, i_ltT, i_ltF, i_gtT, i_gtF, b_eqT, b_eqF, i_r1, i_r2, i_r3, envOf, List.getElem?_cons_zero, List.getElem?_cons_succ, -getElem?_pos, *])
/-! ### what the months tell -/
theorem fl_l (ls : List Int) (S : Sto) : fldOf 22 "lengths" S (.p (Mo ls)) = some (.p (.tup (ls.map .int))) := by
  simp [fldOf, Mo]
theorem fl_p (ls : List Int) (S : Sto) : fldOf 22 "places" S (.p (Mo ls)) = some (.p (.lst (plc 0 ls))) := by
  simp [fldOf, Mo, List.lookup]
theorem is_m (ls : List Int) (S : Sto) (mn : String) (h : (mn == "lengths") = false) (h2 : (mn == "places") = false) : isIns 22 mn S (.p (Mo ls)) = true := by
  simp [isIns, Mo, List.lookup, h, h2]
theorem is_1 (ls : List Int) (S : Sto) : isIns 22 "place_of" S (.p (Mo ls)) = true := is_m _ _ _ (by decide +kernel) (by decide +kernel)
theorem is_2 (ls : List Int) (S : Sto) : isIns 22 "span_of" S (.p (Mo ls)) = true := is_m _ _ _ (by decide +kernel) (by decide +kernel)
theorem is_3 (ls : List Int) (S : Sto) : isIns 22 "share" S (.p (Mo ls)) = true := is_m _ _ _ (by decide +kernel) (by decide +kernel)
theorem is_4 (ls : List Int) (S : Sto) : isIns 22 "shares" S (.p (Mo ls)) = true := is_m _ _ _ (by decide +kernel) (by decide +kernel)
theorem is_5 (ls : List Int) (S : Sto) : isIns 22 "stretch_of" S (.p (Mo ls)) = true := is_m _ _ _ (by decide +kernel) (by decide +kernel)
theorem is_7 (ls : List Int) (S : Sto) : isIns 22 "paid_ahead" S (.p (Mo ls)) = true := is_m _ _ _ (by decide +kernel) (by decide +kernel)
theorem is_6 (ls : List Int) (S : Sto) : isIns 22 "all_lengths" S (.p (Mo ls)) = true := is_m _ _ _ (by decide +kernel) (by decide +kernel)
section
variable {ls : List Int} (h : Ls ls) (S : Sto)
theorem Ls.pos1 {ls : List Int} (h : Ls ls) : ∀ l ∈ ls, 0 < l := fun l hl => by have := h.of l hl; omega
theorem Ls.tot {ls : List Int} (h : Ls ls) : ((plc 0 ls).length : Int) = ls.sum := plc_len ls 0 h.pos
theorem Ls.few {ls : List Int} (h : Ls ls) : 28 ≤ ls.sum ∧ ls.sum ≤ 372 := by
  have := sum_le ls h.of; have := h.ne; have := h.le; omega
include h
theorem len_ok (env : En) (m : DE) (hm : m env S = .ok (.p (Mo ls)) S) : dLenO 22 D_Months___len__ m env S = .ok (.p (.int ls.sum)) S := by
  have e : D_Months___len__ [.p (Mo ls)] S = .ok (.p (.int ls.sum)) S := by
    unfold D_Months___len__
    simp [envOf, fl_p, h.tot]
  have := h.few
  have e2 : insOf S (.p (Mo ls)) = some (22, [("lengths", .p (.tup (ls.map .int))), ("places", .p (.lst (plc 0 ls)))]) := rfl
  simp (disch := omega) [hm, e, e2, i_r3]
omit h in
theorem alll_ok : D_Months_all_lengths [.p (Mo ls)] S = .ok (.p (.tup (ls.map .int))) S := by
  unfold D_Months_all_lengths
  simp [envOf, fl_l]
theorem place_ok {m : Nat} {l d : Int} (hm : ls[m]? = some l) (h0 : 0 ≤ d) (h1 : d < l) : D_Months_place_of [.p (Mo ls), .p (.int (sumN ls m + d))] S = .ok (.p (.tup [.int m, .int d])) S := by
  have hs := sumN_nn ls m h.pos
  have hn := sumN_next ls m l hm
  have hle : sumN ls (m + 1) ≤ ls.sum := by
    have := h.pos
    have e : ls.sum = sumN ls (m + 1) + (ls.drop (m + 1)).sum := by rw [sumN, ← List.sum_append, List.take_append_drop]
    have : ∀ xs : List Int, (∀ l ∈ xs, 0 ≤ l) → 0 ≤ xs.sum := fun xs hx => by have := sumN_nn xs xs.length hx; rw [sumN_all] at this; exact this
    have := this (ls.drop (m + 1)) fun l hl => h.pos l (List.mem_of_mem_drop hl)
    omega
  have ht := h.tot
  have e1 : atI (plc 0 ls) (sumN ls m + d) = some (.tup [.int m, .int d]) := by
    have := plc_at ls 0 m l d h.pos hm h0 h1
    have e2 : sumN ls m + d = ((sumN ls m + d).toNat : Int) := by omega
    rw [e2, at_nat, this]; simp
  unfold D_Months_place_of
  simp (disch := omega) [envOf, fl_p, within_ok, List.getElem?_cons_zero, List.getElem?_cons_succ, -getElem?_pos, d_leT, e1]
omit h in
theorem Tt_at (p : Int) : ∀ (ls : List Int) (m : Nat) (l d : Int), (∀ l ∈ ls, 0 < l) → ls[m]? = some l → 0 ≤ d → d < l → Tt_ p ls (sumN ls m + d) = p * m + p * d / l
  | [], _, _, _, _, h, _, _ => by simp at h
  | x :: r, 0, l, d, hp, h, h0, h1 => by
    simp at h; subst h
    rw [sumN_zero, Int.zero_add, Tt_, if_pos h1]; simp
  | x :: r, m + 1, l, d, hp, h, h0, h1 => by
    have hr : ∀ y ∈ r, 0 < y := fun y hy => hp y (List.mem_cons_of_mem _ hy)
    have hs := sumN_nn r m fun y hy => by have := hr y hy; omega
    have ih := Tt_at p r m l d hr (by simpa using h) h0 h1
    rw [sumN_succ, Tt_, if_neg (by omega), show x + sumN r m + d - x = sumN r m + d by omega, ih]
    push_cast
    rw [Int.mul_add]; omega
theorem paid_ok {p x : Int} (h0 : 0 ≤ x) (h1 : x ≤ ls.sum) : D_Months_paid_ahead [.p (Mo ls), .p (.int p), .p (.int x)] S = .ok (.p (.int (Tt_ p ls x))) S := by
  have ht := h.tot
  have hle := h.le
  by_cases hx : x = ls.sum
  · have t2 := Tt_start p ls ls.length h.pos1 (by omega)
    rw [sumN_all, ← hx] at t2
    unfold D_Months_paid_ahead
    simp (disch := omega) [m_mul, m_div, envOf, fl_l, fl_p, b_eqT, List.getElem?_cons_zero, List.getElem?_cons_succ, -getElem?_pos, t2]
  · obtain ⟨m, l, d, a, b, c, e⟩ := day_split ls x h.pos1 h0 (by omega)
    have hl := h.of l (List.mem_of_getElem? a)
    have e1 : atI (ls.map PV.int) (m : Int) = some (.int l) := by rw [at_nat, List.getElem?_map, a]; rfl
    have e2 : atI (plc 0 ls) x = some (.tup [.int m, .int d]) := by
      have := plc_at ls 0 m l d h.pos a b c
      rw [show x = (x.toNat : Int) by omega, at_nat, e, this]; simp
    have hml := (List.getElem?_eq_some_iff.mp a).1
    have t := Tt_at p ls m l d h.pos1 a b c
    rw [← e] at t
    unfold D_Months_paid_ahead
    simp (disch := omega) [m_mul, m_div, envOf, fl_l, fl_p, b_eqF, e1, e2, List.getElem?_cons_zero, List.getElem?_cons_succ, -getElem?_pos, t, setAll]
theorem share_ok {m : Nat} {l d p : Int} (hm : ls[m]? = some l) (h0 : 0 ≤ d) (h1 : d < l) (hp : 0 ≤ p) : D_Months_share [.p (Mo ls), .p (.int p), .p (.int (sumN ls m + d))] S = .ok (.p (.int (shv p l d))) S := by
  have hpl := place_ok h S hm h0 h1
  have hs := sumN_nn ls m h.pos
  have hn := sumN_next ls m l hm
  have hle : sumN ls (m + 1) ≤ ls.sum := by
    have e : ls.sum = sumN ls (m + 1) + (ls.drop (m + 1)).sum := by rw [sumN, ← List.sum_append, List.take_append_drop]
    have : ∀ xs : List Int, (∀ l ∈ xs, 0 ≤ l) → 0 ≤ xs.sum := fun xs hx => by have := sumN_nn xs xs.length hx; rw [sumN_all] at this; exact this
    have := this (ls.drop (m + 1)) fun l hl => h.pos l (List.mem_of_mem_drop hl)
    omega
  have q1 := paid_ok h S (p := p) (x := sumN ls m + d) (by omega) (by omega)
  have q2 := paid_ok h S (p := p) (x := sumN ls m + d + 1) (by omega) (by omega)
  have ts := Tt_step p ls m l d h.pos1 hm h0 h1
  unfold D_Months_share
  simp (disch := omega) [envOf, is_1, is_7, pence_ok, hp, hpl, q1, q2, List.getElem?_cons_zero, List.getElem?_cons_succ, -getElem?_pos, ts]
  omega
theorem span_ok {m : Nat} {l : Int} (hm : ls[m]? = some l) : D_Months_span_of [.p (Mo ls), .p (.int m)] S = .ok (.p (.tup [.int (sumN ls m), .int (sumN ls m + l)])) S := by
  have hml := (List.getElem?_eq_some_iff.mp hm).1
  have e1 : atI (ls.map PV.int) (m : Int) = some (.int l) := by rw [at_nat, List.getElem?_map, hm]; rfl
  have e2 : cutP (ls.map PV.int) none (some (m : Int)) = (ls.take m).map .int := by
    rw [cut_map, cutP, HT.sIx_none, HT.sIx_nat]
    simp [Nat.min_eq_left (Nat.le_of_lt hml)]
  unfold D_Months_span_of
  simp (disch := omega) [m_mul, m_div, envOf, fl_l, within_ok, e1, e2, List.getElem?_cons_zero, List.getElem?_cons_succ, -getElem?_pos, d_leT, LIM, -List.map_take]
  rfl
end
end Sh

set_option maxRecDepth 100000
set_option maxHeartbeats 1000000
namespace Sh
open PySem L2 Dn
variable [Own]
section
variable {ls : List Int} (h : Ls ls) (S : Sto)
include h
theorem stretch_ok {a b : Int} (h0 : 0 ≤ a) (h1 : a < ls.sum) (h2 : a ≤ b) (h3 : b ≤ ls.sum) : D_Months_stretch_of [.p (Mo ls), .p (.int a), .p (.int b)] S = .ok (.p (.tup [.int a, .int b])) S := by
  have ht := h.tot
  unfold D_Months_stretch_of
  simp (disch := omega) [envOf, fl_p, within_ok, List.getElem?_cons_zero, List.getElem?_cons_succ, -getElem?_pos, d_leT, LIM]
theorem stretch_ok2 : D_Months_stretch_of [.p (Mo ls), .p (.int 0), .p .non] S = .ok (.p (.tup [.int 0, .int ls.sum])) S := by
  have ht := h.tot
  have := h.few
  unfold D_Months_stretch_of
  simp (disch := omega) [envOf, fl_p, within_ok, List.getElem?_cons_zero, List.getElem?_cons_succ, -getElem?_pos, d_leT, LIM, ht]
theorem stretch_ok3 {b : Int} (h2 : 0 ≤ b) (h3 : b ≤ ls.sum) : D_Months_stretch_of [.p (Mo ls), .p .non, .p (.int b)] S = .ok (.p (.tup [.int 0, .int b])) S := by
  have ht := h.tot
  have := h.few
  unfold D_Months_stretch_of
  simp (disch := omega) [envOf, fl_p, within_ok, List.getElem?_cons_zero, List.getElem?_cons_succ, -getElem?_pos, d_leT, LIM, ht]
theorem stretch_ok4 {a : Int} (h0 : 0 ≤ a) (h1 : a < ls.sum) : D_Months_stretch_of [.p (Mo ls), .p (.int a), .p .non] S = .ok (.p (.tup [.int a, .int ls.sum])) S := by
  have ht := h.tot
  have := h.few
  unfold D_Months_stretch_of
  simp (disch := omega) [envOf, fl_p, within_ok, List.getElem?_cons_zero, List.getElem?_cons_succ, -getElem?_pos, d_leT, LIM, ht]
theorem stretch_ok5 : D_Months_stretch_of [.p (Mo ls), .p .non, .p .non] S = .ok (.p (.tup [.int 0, .int ls.sum])) S := by
  have ht := h.tot
  have := h.few
  unfold D_Months_stretch_of
  simp (disch := omega) [envOf, fl_p, within_ok, List.getElem?_cons_zero, List.getElem?_cons_succ, -getElem?_pos, d_leT, LIM, ht]
/-- shares of the days from a on -/
theorem sum_shares {p : Int} (hp : 0 ≤ p) {t : Tg} {env : En} {el : DE} (g : Int → PV) (f : Int → Int) (hf : ∀ x, 0 ≤ x → x < ls.sum → f x = Tt_ p ls (x + 1) - Tt_ p ls x) : ∀ (n : Nat) (a : Int), 0 ≤ a → a + n ≤ ls.sum → ((List.range n).map fun (i : Nat) => f (a + i)).sum = Tt_ p ls (a + n) - Tt_ p ls a
  | 0, a, _, _ => by simp
  | n + 1, a, h0, h1 => by
    rw [List.range_succ, List.map_append, List.sum_append, sum_shares hp (t := t) (env := env) (el := el) g f hf n a h0 (by omega)]
    have := hf (a + n) (by omega) (by omega)
    have e : a + ((n + 1 : Nat) : Int) = a + n + 1 := by omega
    rw [e, List.map_singleton, List.sum_singleton, this]; omega
theorem share_at {p x : Int} (hp : 0 ≤ p) (h0 : 0 ≤ x) (h1 : x < ls.sum) : D_Months_share [.p (Mo ls), .p (.int p), .p (.int x)] S = .ok (.p (.int (Tt_ p ls (x + 1) - Tt_ p ls x))) S := by
  obtain ⟨m, l, d, a, b, c, rfl⟩ := day_split ls x h.pos1 h0 h1
  rw [share_ok h S a b c hp, Tt_step p ls m l d h.pos1 a b c]
  congr 3; omega
theorem shares_at {p a b : Int} {x y : PV} (hp : 0 ≤ p) (h0 : 0 ≤ a) (h2 : a ≤ b) (h3 : b ≤ ls.sum) (hs : D_Months_stretch_of [.p (Mo ls), .p x, .p y] S = .ok (.p (.tup [.int a, .int b])) S) : D_Months_shares [.p (Mo ls), .p (.int p), .p x, .p y] S = .ok (.p (.int (Tt_ p ls b - Tt_ p ls a))) S := by
  have q1 := paid_ok h S (p := p) (x := a) (by omega) (by omega)
  have q2 := paid_ok h S (p := p) (x := b) (by omega) (by omega)
  unfold D_Months_shares
  simp (disch := omega) [envOf, pence_ok, hp, hs, is_5, is_7, q1, q2, List.getElem?_cons_zero, List.getElem?_cons_succ, -getElem?_pos, setAll]
end
end Sh


set_option maxRecDepth 100000
namespace Dn
open PySem PySem.Spec PyProof.Rows L2
/-! texts, of any signs, compared -/
def mEqS : M2 := fun v u _ => match v, u with
  | .p (.str a), .p (.str b) => some (.p (.bl (decide (a = b))))
  | _, _ => none
def mNeS : M2 := fun v u _ => match v, u with
  | .p (.str a), .p (.str b) => some (.p (.bl (!decide (a = b))))
  | _, _ => none
section
variable {X : Cx} {T : Tab}
theorem o_eqS : OpM X T (compareOp .Eq) mEqS := by
  intro pins s σ H x y v u Q I rx ry ⟨g, a, b, S, ra, rb, hS, hp⟩
  unfold mEqS at hp
  split at hp
  · rename_i p q
    cases ra; cases rb
    have hq : Q (.bl (decide (p = q))) H := PostE.val (v := .p (.bl (decide (p = q)))) hp rfl hS
    refine op_eq pins s σ H _ _ v u Q I rx ry ⟨rfl, ?_⟩
    have e : decide (V.str p = V.str q) = decide (p = q) := by simp
    rw [e]; exact hq
  · exact hp.elim
theorem o_neS : OpM X T (compareOp .NotEq) mNeS := by
  intro pins s σ H x y v u Q I rx ry ⟨g, a, b, S, ra, rb, hS, hp⟩
  unfold mNeS at hp
  split at hp
  · rename_i p q
    cases ra; cases rb
    have hq : Q (.bl (!decide (p = q))) H := PostE.val (v := .p (.bl (!decide (p = q)))) hp rfl hS
    refine op_ne pins s σ H _ _ v u Q I rx ry ⟨rfl, ?_⟩
    have e : (!decide (V.str p = V.str q)) = !decide (p = q) := by simp
    rw [e]; exact hq
  · exact hp.elim
end
end Dn

set_option maxRecDepth 100000
set_option maxHeartbeats 1000000
namespace Dn
open PySem PySem.Spec PyProof.Rows L2
/-! ### while -/
def dWhL (t : DB) (body : DS) : Nat → En → Sto → RS
  | 0, _, _ => .no
  | n + 1, env, S => match t env S with
    | .ok true S1 => match body env S1 with
      | .nx e2 S2 => dWhL t body n e2 S2
      | .ct e2 S2 => dWhL t body n e2 S2
      | .bk e2 S2 => .nx e2 S2
      | r => r
    | .ok false S1 => .nx env S1
    | .exc c fs S1 => .exc c fs S1
    | .no => .no
def FUEL : Nat := 1000000
def dWhile (t : DB) (body : DS) : DS := fun env S => dWhL t body FUEL env S
section
variable {X : Cx} {T : Tab} {E : XK} {e a b c o : Expr} {pos apos cpos : Pos} {ma mb mc mo me : DE}
theorem s_while {t : DB} {body : List Stmt} {m : DS} (hp : PassesOwn (model X.prog X.w) X.A X.env X.xe) (ht : PT X c (tB_ X.K T E t)) (hb : PSs X body (tS X.K T E m)) : PS X (.While c body [] pos) (tS X.K T E (dWhile t m)) :=
  (ps_while hp ht hb).imp fun D σ H ⟨g, env, S, hE, hS, h⟩ => by
    refine ⟨fun n σ H => ∃ g2 env2 S2, Re X.K T g2 env2 σ ∧ Rs X.K T g2 S2 H ∧ PostS X.K T E D g2 (dWhL t m n env2 S2), ⟨FUEL, g, env, S, hE, hS, h⟩, ?_⟩
    rintro n σ2 H2 ⟨g2, env2, S2, hE2, s2, p2⟩
    cases n with
    | zero => exact p2.elim
    | succ n =>
      unfold dWhL at p2
      refine ⟨g2, env2, S2, hE2, s2, ?_⟩
      cases q : t env2 S2 with
      | no => rw [q] at p2; exact p2
      | exc c fs S3 => rw [q] at p2; exact p2
      | ok k S3 =>
        rw [q] at p2
        intro g3 H3 l3 s3
        cases k with
        | false => exact iteF (p2 g3 σ2 H3 l3 (hE2.mono X.K T l3.s) s3)
        | true =>
          refine iteT ⟨fun σ' H' => ∃ g4 env4 S4, Re X.K T g4 env4 σ' ∧ Rs X.K T g4 S4 H' ∧ PostS X.K T E D g4 (dWhL t m n env4 S4), fun σ' H' z => ⟨n, Nat.lt_succ_self n, z⟩, g3, env2, S3, hE2.mono X.K T l3.s, s3, ?_⟩
          simp only at p2
          cases em : m env2 S3 with
          | nx e4 S4 => rw [em] at p2; exact fun g4 σ4 H4 l4 r4 s4 => ⟨g4, e4, S4, r4, s4, PostS.up (l3.trans l4) p2⟩
          | ct e4 S4 => rw [em] at p2; exact fun g4 σ4 H4 l4 r4 s4 => ⟨g4, e4, S4, r4, s4, PostS.up (l3.trans l4) p2⟩
          | bk e4 S4 => rw [em] at p2; exact fun g4 σ4 H4 l4 r4 s4 => p2 g4 σ4 H4 (l3.trans l4) r4 s4
          | rt v4 S4 => rw [em] at p2; exact fun g4 x4 H4 l4 => p2 g4 x4 H4 (l3.trans l4)
          | exc c4 f4 S4 => rw [em] at p2; exact fun g4 x4 H4 l4 => p2 g4 x4 H4 (l3.trans l4)
          | no => rw [em] at p2; exact p2
/-! ### l.pop(i) -/
theorem RvL.erase {K : PySem.W.Frag} {g : G} : ∀ {xs : List VV} {vs : List V} (k : Nat), RvL K T g xs vs → RvL K T g (xs.eraseIdx k) (vs.eraseIdx k)
  | [], _, _, r => by cases r; rfl
  | u :: us, _, 0, ⟨y, ys, e, h1, h2⟩ => by subst e; exact h2
  | u :: us, _, k + 1, ⟨y, ys, e, h1, h2⟩ => by subst e; exact ⟨y, _, rfl, h1, RvL.erase k h2⟩
def dPopAt (mo mi : DE) : DE := fun env S => (mo env S).bind fun l S1 => match l with
  | .ob i => match S1[i]? with
    | some (.lst _) => (mi env S1).bind fun v S2 => match v with
      | .p (.int k) => match S2[i]? with
        | some (.lst xs) => if 0 ≤ k ∧ k.natAbs < 2 ^ 62 then match xs[k.toNat]? with
          | some y => .ok y (S2.set i (.lst (xs.eraseIdx k.toNat)))
          | none => .no
          else .no
        | _ => .no
      | _ => .no
    | _ => .no
  | _ => .no
theorem r_popAt (ho : PE X o (tD X.K T E mo)) (he : PE X e (tD X.K T E me))
    (hbase : attributeBase o "pop" X.env (eval o X.env) = eval o X.env := by rfl)
    (hfew : ((backTo cpos (starEach [e] X.env)).all (fun x => !x.1) && (backToKw cpos (keywordEach [] X.env)).all (fun x => x.1.isSome) && decide ([e].length + ([] : List Keyword).length + (if ([] : List Keyword).isEmpty then 0 else 1) < 30)) = true := by rfl)
    (hline : (apos.endLine == cpos.line) = true := by rfl) (hs : starEach [e] X.env = (false, eval e X.env) :: starEach [] X.env := by rfl) :
    PE X (.Call (.Attribute o "pop" apos) [e] [] cpos) (tD X.K T E (dPopAt mo me)) :=
  (pe_bm PySem.F.plainAttrs_list PySem.F.slot_list_pop PySem.F.type_list_pop mt_popAt ho (pa_cons he pa_nil hs) hbase hfew hline hs (by rfl)).imp fun σ H Q ⟨g, env, S, hE, hS, h⟩ => by
    refine ⟨g, env, S, hE, hS, ?_⟩
    have p := PostE.bind h
    revert p
    cases mo env S with
    | no => exact fun p => p
    | exc c fs S1 => exact fun p => p
    | ok v S1 =>
      intro p g1 x H1 l1 r1 s1
      obtain ⟨g2, v2, S2, l2, rv, rs, q⟩ := p g1 x H1 l1 r1 s1
      cases v2 with
      | p v2 => exact q.elim
      | ob i =>
        obtain ⟨ad, ea, ex⟩ := id rv
        cases e1 : S2[i]? with
        | none => simp only [e1] at q; exact q.elim
        | some so =>
          cases so with
          | ins c fs => simp only [e1] at q; exact q.elim
          | tup _ => simp only [e1] at q; exact q.elim
          | dic _ _ => simp only [e1] at q; exact q.elim
          | lst ys =>
            simp only [e1] at q
            obtain ⟨vs, k1, _⟩ := rs.at_ i _ ad e1 ea
            refine ⟨by rw [ex]; exact .inl ⟨rfl, vs, .inl (.inl k1)⟩, g2, env, S2, hE.mono X.K T l2.s, rs, ?_⟩
            have p2 := PostE.bind q
            revert p2
            cases me env S2 with
            | no => exact fun p => p
            | exc c fs S3 => exact fun p => p
            | ok u S3 =>
              intro p2 g3 y H3 l3 r3 s3
              obtain ⟨g4, u2, S4, l4, ru, rs4, q4⟩ := p2 g3 y H3 l3 r3 s3
              have rv4 := rv.mono X.K T l4.s
              obtain ⟨bd, eb, ex2⟩ := id rv4
              cases u2 with
              | ob j => exact q4.elim
              | p u2 =>
                cases u2 with
                | int k =>
                  cases ru
                  cases e2 : S4[i]? with
                  | none => simp only [e2] at q4; exact q4.elim
                  | some so =>
                    cases so with
                    | ins c fs => simp only [e2] at q4; exact q4.elim
                    | tup _ => simp only [e2] at q4; exact q4.elim
                    | dic _ _ => simp only [e2] at q4; exact q4.elim
                    | lst zs =>
                      simp only [e2] at q4
                      by_cases hk : 0 ≤ k ∧ k.natAbs < 2 ^ 62
                      · rw [if_pos hk] at q4
                        cases e3 : zs[k.toNat]? with
                        | none => simp only [e3] at q4; exact q4.elim
                        | some z =>
                          simp only [e3] at q4
                          obtain ⟨ws, w1, w2⟩ := rs4.at_ i _ bd e2 eb
                          obtain ⟨zx, w3, w4⟩ := RvL.get w2 e3
                          have hlt : k.toNat < zs.length := (List.getElem?_eq_some_iff.mp e3).1
                          exact ⟨bd, ws, k, k.toNat, zx, ex2, rfl, w1, by omega, by omega, seqIndex_of hk.1 (by rw [RvL.length w2]; omega), w3, q4 g4 zx _ (G.le.refl _) w4 (rs4.write (so := .lst (zs.eraseIdx k.toNat)) eb ⟨ws.eraseIdx k.toNat, upd_same, RvL.erase k.toNat w2⟩)⟩
                      · rw [if_neg hk] at q4; exact q4.elim
                | _ => exact q4.elim
/-! ### l.extend(m) -/
def dExt (mo me : DE) : DE := fun env S => (mo env S).bind fun l S1 => match l with
  | .ob i => match S1[i]? with
    | some (.lst _) => (me env S1).bind fun v S2 => match asList S2 v with
      | some ys => match S2[i]? with
        | some (.lst xs) => if xs.length + ys.length ≤ LIM then .ok (.p .non) (S2.set i (.lst (xs ++ ys.map .p))) else .no
        | _ => .no
      | none => .no
    | _ => .no
  | _ => .no
theorem r_ext (ho : PE X o (tD X.K T E mo)) (he : PE X e (tD X.K T E me))
    (hbase : attributeBase o "extend" X.env (eval o X.env) = eval o X.env := by rfl)
    (hfew : ((backTo cpos (starEach [e] X.env)).all (fun x => !x.1) && (backToKw cpos (keywordEach [] X.env)).all (fun x => x.1.isSome) && decide ([e].length + ([] : List Keyword).length + (if ([] : List Keyword).isEmpty then 0 else 1) < 30)) = true := by rfl)
    (hline : (apos.endLine == cpos.line) = true := by rfl) (hs : starEach [e] X.env = (false, eval e X.env) :: starEach [] X.env := by rfl) :
    PE X (.Call (.Attribute o "extend" apos) [e] [] cpos) (tD X.K T E (dExt mo me)) :=
  (pe_bm PySem.F.plainAttrs_list PySem.F.slot_list_extend PySem.F.type_list_extend mt_extend ho (pa_cons he pa_nil hs) hbase hfew hline hs (by rfl)).imp fun σ H Q ⟨g, env, S, hE, hS, h⟩ => by
    refine ⟨g, env, S, hE, hS, ?_⟩
    have p := PostE.bind h
    revert p
    cases mo env S with
    | no => exact fun p => p
    | exc c fs S1 => exact fun p => p
    | ok v S1 =>
      intro p g1 x H1 l1 r1 s1
      obtain ⟨g2, v2, S2, l2, rv, rs, q⟩ := p g1 x H1 l1 r1 s1
      cases v2 with
      | p v2 => exact q.elim
      | ob i =>
        obtain ⟨ad, ea, ex⟩ := id rv
        cases e1 : S2[i]? with
        | none => simp only [e1] at q; exact q.elim
        | some so =>
          cases so with
          | ins c fs => simp only [e1] at q; exact q.elim
          | tup _ => simp only [e1] at q; exact q.elim
          | dic _ _ => simp only [e1] at q; exact q.elim
          | lst ys =>
            simp only [e1] at q
            obtain ⟨vs, k1, _⟩ := rs.at_ i _ ad e1 ea
            refine ⟨by rw [ex]; exact .inl ⟨rfl, vs, .inl (.inl k1)⟩, g2, env, S2, hE.mono X.K T l2.s, rs, ?_⟩
            have p2 := PostE.bind q
            revert p2
            cases me env S2 with
            | no => exact fun p => p
            | exc c fs S3 => exact fun p => p
            | ok u S3 =>
              intro p2 g3 y H3 l3 r3 s3
              obtain ⟨g4, u2, S4, l4, ru, rs4, q4⟩ := p2 g3 y H3 l3 r3 s3
              have rv4 := rv.mono X.K T l4.s
              obtain ⟨bd, eb, ex2⟩ := id rv4
              cases eu : asList S4 u2 with
              | none => simp only [eu] at q4; exact q4.elim
              | some ys2 =>
                simp only [eu] at q4
                cases e2 : S4[i]? with
                | none => simp only [e2] at q4; exact q4.elim
                | some so =>
                  cases so with
                  | ins c fs => simp only [e2] at q4; exact q4.elim
                  | tup _ => simp only [e2] at q4; exact q4.elim
                  | dic _ _ => simp only [e2] at q4; exact q4.elim
                  | lst zs =>
                    simp only [e2] at q4
                    by_cases hl : zs.length + ys2.length ≤ LIM
                    · rw [if_pos hl] at q4
                      obtain ⟨ws, w1, w2⟩ := rs4.at_ i _ bd e2 eb
                      obtain ⟨ay, vy, e3, h3, r3'⟩ := rs4.lst eu ru
                      exact ⟨bd, ay, ws, vy, ex2, by rw [e3], w1, h3, by rw [RvL.length w2, r3'.length]; exact lim_line hl, q4 g4 .non _ (G.le.refl _) rfl (rs4.write (so := .lst (zs ++ ys2.map .p)) eb ⟨ws ++ vy, upd_same, RvL.append w2 (RvL.ofP r3')⟩)⟩
                    · rw [if_neg hl] at q4; exact q4.elim
end
end Dn

set_option maxRecDepth 100000
set_option maxHeartbeats 1000000
namespace Dn
open PySem PySem.Spec PyProof.Rows L2
/-! ### t[::-1] -/
section
variable {prog : Program} {w : World} {A : Around} {E : Value → Shared → Prop} {s : Shared}
theorem fm_congr {α β : Type} {f g : α → Option β} : ∀ {l : List α}, (∀ x ∈ l, f x = g x) → l.filterMap f = l.filterMap g
  | [], _ => rfl
  | a :: l, h => by
    rw [List.filterMap_cons, List.filterMap_cons, h a List.mem_cons_self, fm_congr fun x hx => h x (List.mem_cons_of_mem _ hx)]
theorem back_applied {sl : Addr} {n : Nat} {vk : Value} {Q : Int × Int × Nat → Shared → Prop} (hs : s.heap.IsSliceOf sl .none .none vk) (pk : IsPart vk (some (-1)))
    (h : Q ((n : Int) - 1, -1, n) s) : wpAny (model prog w) A (Builtin.Slice.sliceApplied (.ref sl) (pure (n : Int))) Q E s := by
  have ⟨os, hos, hcs, hds⟩ := hs
  have e1 : Builtin.Slice.sliceAdjust none none (-1) (n : Int) = ((n : Int) - 1, -1) := rfl
  have e2 : Builtin.Slice.slicePlaces ((n : Int) - 1) (-1) (-1) = n := by
    unfold Builtin.Slice.slicePlaces
    rw [if_neg (by decide : ¬ ((-1 : Int) > 0))]
    by_cases hn : n = 0
    · subst hn; rfl
    · rw [if_pos (by omega), show (- -1 : Int) = 1 from rfl, Int.ediv_one]; omega
  unfold Builtin.Slice.sliceApplied
  unfold Builtin.Slice.sliceFields
  refine wpAny_bind (wpAny_bind (wpAny_field hos hds (x := Value.none) rfl (wpAny_bind ?_)))
  refine wpAny_field hos hds (x := Value.none) rfl (wpAny_bind (wpAny_field hos hds (x := vk) rfl (wpAny_pure ?_)))
  refine wpAny_bind (HT.slicePart_ pk ?_)
  show wpAny _ _ (if ((-1 : Int) == 0) = true then _ else _) _ _ _
  rw [if_neg (by decide : ¬ ((-1 : Int) == 0) = true)]
  refine wpAny_bind (HT.slicePart_ .none ?_)
  refine wpAny_bind (HT.slicePart_ .none (wpAny_bind (wpAny_pure ?_)))
  show wpAny _ _ (match Builtin.Slice.sliceAdjust none none (-1) (n : Int) with | (a, b) => pure (a, (-1 : Int), Builtin.Slice.slicePlaces a b (-1))) _ _ _
  rw [e1]
  show wpAny _ _ (pure ((n : Int) - 1, (-1 : Int), Builtin.Slice.slicePlaces ((n : Int) - 1) (-1) (-1))) _ _ _
  rw [e2]
  exact wpAny_pure h
theorem pick_back (xs : Array Value) : ((List.range xs.size).filterMap fun (m : Nat) => xs[((xs.size : Int) - 1 + (m : Int) * (-1)).toNat]?) = xs.toList.reverse := by
  have key : ∀ (l : List Value), ((List.range l.length).filterMap fun (m : Nat) => l[((l.length : Int) - 1 + (m : Int) * (-1)).toNat]?) = l.reverse := by
    intro l
    have e : (List.range l.length).filterMap (fun (m : Nat) => l[((l.length : Int) - 1 + (m : Int) * (-1)).toNat]?) = (List.range l.length).filterMap (fun m => l.reverse[m]?) := by
      refine fm_congr fun m hm => ?_
      have hm := List.mem_range.mp hm
      rw [List.getElem?_reverse hm]
      congr 1
      omega
    rw [e]
    have : ∀ (r : List Value) (n : Nat), n ≤ r.length → (List.range n).filterMap (fun m => r[m]?) = r.take n := by
      intro r n
      induction n with
      | zero => intro _; simp
      | succ n ih =>
        intro h
        rw [List.range_succ, List.filterMap_append, ih (by omega), List.take_succ]
        congr 1
    rw [this _ _ (by rw [List.length_reverse]; exact Nat.le_refl _)]
    rw [List.take_of_length_le (by rw [List.length_reverse]; exact Nat.le_refl _)]
  have := key xs.toList
  rw [Array.length_toList] at this
  rw [← this]
  refine fm_congr fun m _ => ?_
  exact (Array.getElem?_toList).symm
theorem back_tup {t sl : Addr} {items : Array Value} {vk : Value} {Q : Value → Shared → Prop} (ht : IsTup s.heap t items) (hs : s.heap.IsSliceOf sl .none .none vk) (pk : IsPart vk (some (-1)))
    (h : Q (.ref s.heap.objs.size) { s with heap := s.heap.push { cls := .type "tuple", data := .seq items.toList.reverse.toArray } }) (hz : items.size ≤ sizeLine) : wpAny (model prog w) A (getItem (.ref t) (.ref sl)) Q E s := by
  have hok : sizeOk (.seq items.toList.reverse.toArray) := by
    show items.toList.reverse.toArray.size ≤ sizeLine
    rw [List.size_toArray, List.length_reverse, Array.length_toList]; exact hz
  have ⟨os, hos, hcs, hds⟩ := hs
  have hT : s.TypeIs (.ref sl) "slice" := ⟨os, hos, hcs⟩
  unfold getItem
  with_reducible refine wpAny_holding ?_
  refine wpAny_bind (wpAny_sequenceKey ht.typeIs (by decide) ?_)
  refine wpAny_bind (wpAny_callSpecial?_slot (name := Str.ofString "__getitem__") ht.typeIs PyProof.Rows.slot_tuple_getitem (wpAny_call_entry PyProof.Rows.slot_tuple_getitem ht.typeIs PyProof.Rows.entry_tuple_getitem ?_ (PyProof.Rows.args_tuple_getitem _ _)))
  show wpAny _ _ (Builtin.Tuple.tupleItemsOf (.ref t) >>= _) _ _ s
  refine wpAny_bind (PyProof.Rows.tupleItemsOf_ ht ?_)
  refine wpAny_bind (wpAny_typeOf hT ?_)
  rw [if_pos (by decide)]
  refine wpAny_bind (back_applied hs pk ?_)
  have hno : ¬ ((((items.size : Int) - 1 == 0) && ((-1 : Int) == 1) && (items.size == items.size)) = true) := by
    rw [show ((-1 : Int) == 1) = false from rfl, Bool.and_false, Bool.false_and]; decide
  show wpAny _ _ (if (((items.size : Int) - 1 == 0) && ((-1 : Int) == 1) && (items.size == items.size)) = true then _ else _) _ _ s
  rw [if_neg hno, pick_back]
  first
    | exact wpAny_bind (m := Builtin.Tuple.tupleExact _) (wpAny_newObj_type (wpAny_pure ⟨_, rfl, wpAny_pure h⟩) hok)
    | exact wpAny_bind (wpAny_bind (m := Builtin.Tuple.tupleExact _) (wpAny_newObj_type (wpAny_pure ⟨_, rfl, wpAny_pure h⟩) hok))
    | exact wpAny_bind (wpAny_bind (m := Builtin.Tuple.tupleExact _) (wpAny_newObj_type (wpAny_pure (wpAny_pure ⟨_, rfl, wpAny_pure h⟩)) hok))
end
def dBack (mo : DE) : DE := fun env S => (mo env S).bind fun v S1 => match v with
  | .p (.tup xs) => .ok (.p (.tup xs.reverse)) S1
  | _ => .no
theorem RpL.reverse {K : PySem.W.Frag} {T : Tab} {F : Hp} : ∀ {xs : List PV} {vs : List V}, RpL K T F xs vs → RpL K T F xs.reverse vs.reverse
  | [], _, r => by cases r; rfl
  | x :: xs, _, ⟨v, r, e, h1, h2⟩ => by
    subst e
    rw [List.reverse_cons, List.reverse_cons]
    exact (RpL.reverse h2).append ⟨v, [], rfl, h1, rfl⟩
section
variable {X : Cx} {T : Tab} {E : XK} {e o : Expr} {mo me : DE} {pos p2 p3 p4 : Pos} {j : Nat}
theorem r_back (ho : PE X o (tD X.K T E mo)) : PE X (.Subscript o (.Slice none none (some (.UnaryOp .USub (.Constant (.int 1) j p4) p3)) p2) pos) (tD X.K T E (dBack mo)) := by
  refine ⟨fun pins s σ H Q I ⟨g, env, S, hE, hS, h⟩ => ?_⟩
  have h1 : tD X.K T E mo σ H (fun x H1 => ∃ g1 env S1 xs, Re X.K T g1 env σ ∧ Rs X.K T g1 S1 H1 ∧ Rv X.K T g1 (.p (.tup xs)) x ∧ PostE X.K T E g1 (.ok (.p (.tup xs.reverse)) S1) Q) := by
    refine ⟨g, env, S, hE, hS, ?_⟩
    have p := PostE.bind h
    revert p
    cases mo env S with
    | no => exact fun p => p
    | exc c fs S1 => exact fun p => p
    | ok v S1 =>
      intro p g1 x H1 l1 r1 s1
      obtain ⟨g2, v2, S2, l2, rv, rs, q⟩ := p g1 x H1 l1 r1 s1
      cases v2 with
      | ob i => exact q.elim
      | p v2 =>
        cases v2 with
        | tup xs => exact ⟨g2, env, S2, xs, hE.mono X.K T l2.s, rs, rv, q⟩
        | _ => exact q.elim
  refine Subscript_ (thn (ho.run pins s σ H _ I h1) fun v s1 ⟨x, H1, I1, r1, g1, env1, S1, xs, hE1, hS1, rv, q⟩ => ?_)
  refine wpAny_Slice ?_
  rw [evalPart_none]
  refine wpAny_pure (wpAny_pure ?_)
  rw [evalPart_some]
  have hk : PE X (.UnaryOp .USub (.Constant (.int 1) j p4) p3) (tD X.K T E (dNeg (dC (.int 1)))) := r_neg r_int
  refine thn (hk.run pins s1 σ H1 (fun y H2 => y = .int (-1) ∧ ∃ g2, g1.le g2 ∧ Rs X.K T g2 S1 H2) I1 ⟨g1, env1, S1, hE1, hS1, fun g2 y H2 l2 r2 s2 => ⟨r2, g2, l2, s2⟩⟩) fun vk s2 ⟨y, H2, I2, r2, ey, g2, l2, s2'⟩ => ?_
  subst ey
  obtain ⟨tk, rfl⟩ := r2
  have I4 : Inv X pins σ H2 { s2 with heap := s2.heap.push { cls := .type "slice", data := .fields #[.none, .none, .int (-1) tk] } } := I2.kept (t' := s2.toks) fun b ob q => Heap.get?_push_of_some _ q
  obtain ⟨a, vs, e1, h2, h3⟩ := (show Rp X.K T g2.F (.tup xs) x from Rp.mono X.K T l2.F (.tup xs) x rv)
  have hx : SqT X.K H2 a vs := .inl (.inl (s2'.fz _ _ h2))
  subst e1
  cases r1
  obtain ⟨its, r, ht, hz⟩ := I4.tuple hx
  have hlen : its.toArray.size = vs.length := by rw [List.size_toArray]; exact r.length.symm
  refine tail_any (ops := _) ht.typeIs PyProof.Rows.slot_tuple_getitem.lookup ?_ (by with_unfolding_all rfl)
  refine back_tup ht (Heap.IsSliceOf.new ..) (.int (-1) tk) ?_ (by rw [hlen]; exact hz)
  have qn := PostE.newT (PostE.up l2 q) s2' (RpL.reverse h3)
  refine ⟨.ref (s2.heap.push { cls := .type "slice", data := .fields #[.none, .none, .int (-1) tk] }).objs.size, _, I4.laid (t' := s2.toks) (o := .tup vs.reverse) (fun b ob q => Heap.get?_push_of_some _ q) (Nat.le_refl _) ?_, rfl, qn _ (I4.hok.fresh (Nat.le_refl _))⟩
  exact ⟨by rw [List.length_reverse]; exact hz, its.reverse, Vals.reverse r, IsTup.new _ _⟩
end
end Dn

set_option maxRecDepth 100000
set_option maxHeartbeats 1000000
namespace Dn
open PySem PySem.Spec PyProof.Rows L2
/-! ### {k: v for x in xs if ..}, plain keys and values -/
inductive RCD where
  | ok (acc : List (PV × PV)) (S : Sto)
  | no
def dDCL (t : Tg) (tt : DB) (mk mv : DE) (kp : Sto → Bool) (env : En) : List VV → List (PV × PV) → Sto → RCD
  | [], acc, S => if kp S then .ok acc S else .no
  | v :: vs, acc, S => if kp S then match t.put v env with
    | some env1 => match tt env1 S with
      | .ok true S1 => match mk env1 S1 with
        | .ok (.p k) S2 => match mv env1 S2 with
          | .ok (.p w) S3 => if (keyP k).isSome = true ∧ acc.length < LIM then dDCL t tt mk mv kp env vs (putD acc k w) S3 else .no
          | _ => .no
        | _ => .no
      | .ok false S1 => dDCL t tt mk mv kp env vs acc S1
      | _ => .no
    | none => .no
    else .no
def RCD.toE (r : RCD) : RE := match r with
  | .ok acc S => .ok (.p (.dic false acc)) S
  | .no => .no
@[simp] theorem RCD.toE_ok (acc) (S : Sto) : (RCD.ok acc S).toE = .ok (.p (.dic false acc)) S := rfl
def dDComp (vs : List Nat) (t : Tg) (it : DI) (tt : DB) (mk mv : DE) : DE := fun env S => (it env S).bindE fun xs kp S1 => (dDCL t tt mk mv kp (wipeE env vs) xs [] S1).toE

theorem getK_map (k : PV) : ∀ (kvs : List (PV × PV)), getK k (kvs.map fun e => (e.1, VV.p e.2)) = (getK k kvs).map VV.p
  | [] => rfl
  | (l, v) :: r => by
    show (if PV.beq l k = true then some (VV.p v) else getK k (r.map _)) = (if PV.beq l k = true then some v else getK k r).map VV.p
    split
    · rfl
    · exact getK_map k r
theorem putD_map (kvs : List (PV × PV)) (k v : PV) : putD (kvs.map fun e => (e.1, VV.p e.2)) k (VV.p v) = (putD kvs k v).map fun e => (e.1, VV.p e.2) := by
  unfold putD
  rw [getK_map]
  cases h : (getK k kvs) with
  | none => simp
  | some u =>
    simp only [Option.map_some, Option.isSome_some, if_true, List.map_map]
    apply List.map_congr_left
    intro e _
    show (if PV.beq e.1 k = true then (e.1, VV.p v) else (e.1, VV.p e.2)) = _
    by_cases hb : PV.beq e.1 k = true <;> simp [hb]
theorem putD_length {α : Type} (kvs : List (PV × α)) (k : PV) (v : α) : (putD kvs k v).length ≤ kvs.length + 1 := by
  unfold putD
  split
  · rw [List.length_map]; omega
  · rw [List.length_append]; exact Nat.le_refl _
section
variable {K : PySem.W.Frag} {T : Tab}
theorem RpK.ofRv {g : G} : ∀ {kvs : List (PV × PV)} {vs : List (L2.Key × V)}, RvK K T g (kvs.map fun e => (e.1, VV.p e.2)) vs → RpK K T g.F kvs vs
  | [], _, r => r
  | (_, _) :: _, _, ⟨q, v, r, e, hk, h1, h2⟩ => ⟨q, v, r, e, hk, h1, RpK.ofRv h2⟩
/-- the dict that is made, hidden -/
structure CD (K : PySem.W.Frag) (T : Tab) (g1 g2 : G) (D : Addr) (acc : List (PV × PV)) (H : Hp) (S : Sto) : Prop where
  sub : g1.sub g2
  hid : ∃ vs, g2.hid = (D, .dK vs) :: g1.hid ∧ RpK K T g2.F acc vs
  rs : Rs K T g2 S H
theorem CD.up {g1 g2 g3 D acc H H3 S S3} (h : CD K T g1 g2 D acc H S) (l : g2.le g3) (s : Rs K T g3 S3 H3) : CD K T g1 g3 D acc H3 S3 := by
  obtain ⟨vs, e, r⟩ := h.hid
  exact ⟨h.sub.trans l.s, ⟨vs, by rw [l.hid]; exact e, RpK.mono K T l.F acc vs r⟩, s⟩
theorem CD.app {g1 g2 D acc H S} (h : CD K T g1 g2 D acc H S) {k w : PV} {q : L2.Key} {y : V} (hk : keyP k = some q) (rw_ : Rp K T g2.F w y) (hl : acc.length < LIM) : ∃ vs, H D = some (.dK vs) ∧ vs.length < sizeLine ∧ ∃ g3, CD K T g1 g3 D (putD acc k w) (upd H D (.dK (putK vs q y))) S ∧ g3.F = g2.F ∧ g3.f = g2.f := by
  obtain ⟨vs, e, r⟩ := h.hid
  have h1 := (h.rs.hid (D, .dK vs) (by rw [e]; exact List.mem_cons_self)).1
  have r2 : RvK K T g2 (acc.map fun e => (e.1, VV.p e.2)) vs := RpK.toRv r
  have r3 := RvK.put hk (v := VV.p w) rw_ r2
  rw [putD_map] at r3
  refine ⟨vs, h1, by rw [RvK.length r2, List.length_map]; exact lim_lt (Nat.le_of_lt hl), { g2 with hid := (D, .dK (putK vs q y)) :: g1.hid }, ⟨⟨h.sub.F, h.sub.f⟩, ⟨_, rfl, RpK.ofRv (g := g2) r3⟩, h.rs.hidw e⟩, rfl, rfl⟩
theorem CD.fin {g1 g2 D acc H S} (h : CD K T g1 g2 D acc H S) {E : XK} {Q : VK} (p : PostE K T E g1 (.ok (.p (.dic false acc)) S) Q) : Q (.ref D) H := by
  obtain ⟨vs, e, r⟩ := h.hid
  have hD := (h.rs.hid (D, .dK vs) (by rw [e]; exact List.mem_cons_self)).2.1
  refine p { F := upd g2.F D (.dK vs), f := g2.f, hid := g1.hid } (.ref D) H ⟨⟨h.sub.F.trans (same_new hD), h.sub.f⟩, rfl⟩ ⟨D, vs, rfl, by show upd g2.F D _ D = _; exact upd_same, RpK.mono K T (same_new hD) acc vs r⟩ (h.rs.unhide e)
theorem CD.start {g1 : G} {H : Hp} {S : Sto} {D : Addr} (s : Rs K T g1 S H) (hD : H D = none) : ∃ g2, CD K T g1 g2 D [] (upd H D (.dK [])) S ∧ g2.F = g1.F ∧ g2.f = g1.f :=
  ⟨g1.hide D (.dK []), ⟨⟨Same.refl _, List.prefix_refl _⟩, ⟨[], rfl, rfl⟩, s.hide hD _⟩, rfl, rfl⟩
end
section
variable {X : Cx} {T : Tab} {E : XK} {e a b c o tg iter kx vx : Expr} {pos : Pos}
theorem tDc_of {vs : List Nat} {t : Tg} {it : DI} {tt : DB} {mk mv : DE} {σ H} {Q : VK} (hsl : ∀ i ∈ t.slots, i ∈ vs) (h : tD X.K T E (dDComp vs t it tt mk mv) σ H Q) :
    tDc (tI X.K T E it) (tTg X.K T t) (tB_ X.K T E0 tt) (tD X.K T E0 mk) (tD X.K T E0 mv) vs σ H Q := by
  obtain ⟨g, env, S, hE, hS, h⟩ := h
  refine ⟨g, env, S, hE, hS, ?_⟩
  unfold dDComp at h
  cases q : it env S with
  | no => rw [q] at h; exact h
  | exc c fs S1 => rw [q] at h; exact h
  | ok xs kp S1 =>
    rw [q, RI.bindE_ok] at h
    intro g1 H1 J l1 s1 ok D hD
    obtain ⟨g2, ci, hF, hf⟩ := CD.start s1 hD
    have hE1 := (hE.mono X.K T l1.s).wipe vs
    cases er : dDCL t tt mk mv kp (wipeE env vs) xs [] S1 with
    | no => rw [er] at h; exact h.elim
    | ok acc S2 =>
      rw [er, RCD.toE_ok] at h
      have sub12 : g1.sub g2 := ci.sub
      have okk := ok.up sub12
      refine ⟨fun i m H => ∃ g3 S3 acc3, m = xs.length - i ∧ i ≤ xs.length ∧ CD X.K T g1 g3 D acc3 H S3 ∧ g2.sub g3 ∧ dDCL t tt mk mv kp (wipeE env vs) (xs.drop i) acc3 S3 = .ok acc S2, ⟨xs.length, g2, S1, [], by simp, Nat.zero_le _, ci, ⟨Same.refl _, List.prefix_refl _⟩, by rw [List.drop_zero]; exact er⟩, ?_⟩
      rintro i m H3 ⟨g3, S3, acc3, rfl, hle, c3, l3, eq⟩
      by_cases hlt : i < xs.length
      · have hx : xs[i]? = some xs[i] := List.getElem?_eq_getElem hlt
        rw [List.drop_eq_getElem_cons hlt] at eq
        unfold dDCL at eq
        by_cases hk : kp S3 = true
        · rw [if_pos hk] at eq
          obtain ⟨hgo, hyl⟩ := okk.go g3 S3 H3 i _ l3 c3.rs hk hx
          refine .inr ⟨hgo, fun H' => ∃ g4 S4 acc4, CD X.K T g1 g4 D acc4 H' S4 ∧ g2.sub g4 ∧ dDCL t tt mk mv kp (wipeE env vs) (xs.drop (i + 1)) acc4 S4 = .ok acc S2, ?_, ?_⟩
          · rintro H' ⟨g4, S4, acc4, c4, l4, eq4⟩
            exact ⟨xs.length - (i + 1), by omega, g4, S4, acc4, rfl, hlt, c4, l4, eq4⟩
          · intro x H' hy
            obtain ⟨g4, l4, r4, s4⟩ := hyl x H' hy
            have c4 := c3.up l4 s4
            cases ep : t.put xs[i] (wipeE env vs) with
            | none => simp only [ep] at eq; cases eq
            | some env3 =>
              simp only [ep] at eq
              refine ⟨g4, wipeE env vs, S3, xs[i], env3, hE1.sub (sub12.trans (l3.trans l4.s)), s4, r4, ep, fun σ' rE hw => ?_⟩
              refine ⟨by rw [wipe_sub hsl hw, wipe_idem], ⟨g4, env3, S3, rE, s4, ?_⟩⟩
              cases et : tt env3 S3 with
              | no => simp only [et] at eq; cases eq
              | exc _ _ _ => simp only [et] at eq; cases eq
              | ok k S5 =>
                intro g5 H5 l5 s5
                have c5 := c4.up l5 s5
                cases k with
                | false =>
                  simp only [et] at eq
                  exact iteF ⟨g5, S5, acc3, c5, (l3.trans l4.s).trans l5.s, eq⟩
                | true =>
                  simp only [et] at eq
                  refine iteT ⟨g5, env3, S5, rE.mono X.K T l5.s, s5, ?_⟩
                  cases ek : mk env3 S5 with
                  | no => simp only [ek] at eq; cases eq
                  | exc _ _ _ => simp only [ek] at eq; cases eq
                  | ok kw S6 =>
                    cases kw with
                    | ob j => simp only [ek] at eq; cases eq
                    | p kw =>
                      simp only [ek] at eq
                      intro g6 yk H6 l6 r6 s6
                      have c6 := c5.up l6 s6
                      refine ⟨g6, env3, S6, rE.mono X.K T (l5.trans l6).s, s6, ?_⟩
                      cases ev : mv env3 S6 with
                      | no => simp only [ev] at eq; cases eq
                      | exc _ _ _ => simp only [ev] at eq; cases eq
                      | ok w S7 =>
                        cases w with
                        | ob j => simp only [ev] at eq; cases eq
                        | p w =>
                          simp only [ev] at eq
                          intro g7 y H7 l7 r7 s7
                          have c7 := c6.up l7 s7
                          by_cases hl : (keyP kw).isSome = true ∧ acc3.length < LIM
                          · rw [if_pos hl] at eq
                            obtain ⟨qk, hq⟩ := Option.isSome_iff_exists.mp hl.1
                            have ek2 : yk = kV qk := key_V hq (Rp.mono X.K T l7.F kw yk r6)
                            obtain ⟨vs', k1, k2, g8, c8, hF8, hf8⟩ := c7.app hq r7 hl.2
                            refine ⟨vs', qk, ek2, k1, k2, g8, S7, putD acc3 kw w, c8, ⟨?_, ?_⟩, eq⟩
                            · rw [hF8]; exact ((((l3.trans l4.s).trans l5.s).trans l6.s).trans l7.s).F
                            · rw [hf8]; exact ((((l3.trans l4.s).trans l5.s).trans l6.s).trans l7.s).f
                          · rw [if_neg hl] at eq; cases eq
        · rw [if_neg hk] at eq; cases eq
      · have e : i = xs.length := by omega
        subst e
        rw [List.drop_length] at eq
        unfold dDCL at eq
        by_cases hk : kp S3 = true
        · rw [if_pos hk] at eq
          cases eq
          exact .inl ⟨okk.stop g3 _ H3 _ l3 c3.rs hk (Nat.le_refl _), c3.fin (PostE.up l1 h)⟩
        · rw [if_neg hk] at eq; cases eq
theorem r_dcomp {ifs : List Expr} {scope : Scope} {own : List (Str × Nat)} {t : Tg} {it : DI} {tt : DB} {mk mv : DE} (hc : X.calm = true) (hN : X.N.Nodup) (hi : PI X tg iter (tI X.K T E it)) (ok : BlkOk X.N X.env.scope scope own)
    (hsl : ∀ i ∈ t.slots, i ∈ own.map (·.2))
    (hg : ∀ (s : Shared) (H : Hp) (C : Addr) (cl : List (Str × Addr)) (fp : List Addr), PG (X.blk s H scope (compEnvC scope cl C X.env) fp) tg (tTg X.K T t))
    (ht : ∀ (s : Shared) (H : Hp) (C : Addr) (cl : List (Str × Addr)) (fp : List Addr), PTs (X.blk s H scope (compEnvC scope cl C X.env) fp) ifs (tB_ X.K T E0 tt))
    (hk : ∀ (s : Shared) (H : Hp) (C : Addr) (cl : List (Str × Addr)) (fp : List Addr), PE (X.blk s H scope (compEnvC scope cl C X.env) fp) kx (tD X.K T E0 mk))
    (he : ∀ (s : Shared) (H : Hp) (C : Addr) (cl : List (Str × Addr)) (fp : List Addr), PE (X.blk s H scope (compEnvC scope cl C X.env) fp) vx (tD X.K T E0 mv)) (hs : ∀ x, foldedSetIterable iter X.env x = pure x := by intro _; rfl) :
    PE X (.DictComp kx vx [⟨tg, iter, ifs, 0⟩] scope pos) (tD X.K T E (dDComp (own.map (·.2)) t it tt mk mv)) :=
  (pe_dc hc hN hi ok hg ht hk he hs).imp fun σ H Q h => tDc_of hsl h
end
end Dn

set_option maxRecDepth 100000
set_option maxHeartbeats 1000000
namespace Dn
open PySem PySem.Spec PyProof.Rows L2
/-! ### {} that is never changed -/
def dDicE : DE := fun _ S => .ok (.p (.dic false [])) S
section
variable {X : Cx} {T : Tab} {E : XK} {e a b c o : Expr} {pos apos p : Pos} {ma mb mc mo me : DE}
theorem r_dicE : PE X (.Dict [] [] pos) (tD X.K T E dDicE) :=
  (pe_dnewK).imp fun σ H Q ⟨g, env, S, hE, hS, h⟩ => by
    intro d hd
    have hn := hS.new hd (.dK [])
    exact h _ (.ref d) _ hn.1 ⟨d, [], rfl, by show upd g.F d _ d = _; exact upd_same, rfl⟩ hn.2
/-- a block within a block -/
theorem blkOk_n {N : List Str} {sc0 sc1 scope : Scope} {own : List (Str × Nat)} (h : blkC N (relS sc1 sc0) scope own = true) : BlkOk N (relS sc1 sc0) scope own := blkOk_by h
theorem r_dcompV {tg iter kx vx : Expr} {ifs : List Expr} {scope : Scope} {own : List (Str × Nat)} {vs : List Nat} {t : Tg} {it : DI} {tt : DB} {mk mv : DE} (hc : X.calm = true) (hN : X.N.Nodup) (hi : PI X tg iter (tI X.K T E it)) (ok : BlkOk X.N X.env.scope scope own)
    (hvs : own.map (·.2) = vs) (hsl : ∀ i ∈ t.slots, i ∈ vs)
    (hg : ∀ (s : Shared) (H : Hp) (C : Addr) (cl : List (Str × Addr)) (fp : List Addr), PG (X.blk s H scope (compEnvC scope cl C X.env) fp) tg (tTg X.K T t))
    (ht : ∀ (s : Shared) (H : Hp) (C : Addr) (cl : List (Str × Addr)) (fp : List Addr), PTs (X.blk s H scope (compEnvC scope cl C X.env) fp) ifs (tB_ X.K T E0 tt))
    (hk : ∀ (s : Shared) (H : Hp) (C : Addr) (cl : List (Str × Addr)) (fp : List Addr), PE (X.blk s H scope (compEnvC scope cl C X.env) fp) kx (tD X.K T E0 mk))
    (he : ∀ (s : Shared) (H : Hp) (C : Addr) (cl : List (Str × Addr)) (fp : List Addr), PE (X.blk s H scope (compEnvC scope cl C X.env) fp) vx (tD X.K T E0 mv)) (hs : ∀ x, foldedSetIterable iter X.env x = pure x := by intro _; rfl) :
    PE X (.DictComp kx vx [⟨tg, iter, ifs, 0⟩] scope pos) (tD X.K T E (dDComp vs t it tt mk mv)) := by
  subst hvs
  exact r_dcomp hc hN hi ok hsl hg ht hk he hs
theorem r_compV {tg iter elt : Expr} {ifs : List Expr} {scope : Scope} {own : List (Str × Nat)} {vs : List Nat} {t : Tg} {it : DI} {tt : DB} {el : DE} (hc : X.calm = true) (hN : X.N.Nodup) (hi : PI X tg iter (tI X.K T E it)) (ok : BlkOk X.N X.env.scope scope own)
    (hvs : own.map (·.2) = vs) (hsl : ∀ i ∈ t.slots, i ∈ vs)
    (hg : ∀ (s : Shared) (H : Hp) (C : Addr) (cl : List (Str × Addr)) (fp : List Addr), PG (X.blk s H scope (compEnvC scope cl C X.env) fp) tg (tTg X.K T t))
    (ht : ∀ (s : Shared) (H : Hp) (C : Addr) (cl : List (Str × Addr)) (fp : List Addr), PTs (X.blk s H scope (compEnvC scope cl C X.env) fp) ifs (tB_ X.K T E0 tt))
    (he : ∀ (s : Shared) (H : Hp) (C : Addr) (cl : List (Str × Addr)) (fp : List Addr), PE (X.blk s H scope (compEnvC scope cl C X.env) fp) elt (tD X.K T E0 el)) (hs : ∀ x, foldedSetIterable iter X.env x = pure x := by intro _; rfl) :
    PE X (.ListComp elt [⟨tg, iter, ifs, 0⟩] scope pos) (tD X.K T E (dComp vs t it tt el)) := by
  subst hvs
  exact r_comp hc hN hi ok hsl hg ht he hs
/-! ### list(x) that will change -/
/-- what a list or a tuple holds -/
def seqOf (S : Sto) : VV → Option (List PV)
  | .p (.tup xs) => some xs
  | v => asList S v
theorem Rs.seqP {K : PySem.W.Frag} {g : G} {S : Sto} {H : Hp} {v : VV} {x : V} {xs : List PV} (s : Rs K T g S H) (e : seqOf S v = some xs) (r : Rv K T g v x) : ∃ q vs, x = .ref q ∧ (SqL K H q vs ∨ SqT K H q vs) ∧ RpL K T g.F xs vs := by
  have fin : asList S v = some xs → ∃ q vs, x = .ref q ∧ (SqL K H q vs ∨ SqT K H q vs) ∧ RpL K T g.F xs vs := fun e => by
    obtain ⟨q, vs, e1, h1, h2⟩ := s.lst e r
    exact ⟨q, vs, e1, .inl (.inl (.inl h1)), h2⟩
  cases v with
  | ob i => exact fin e
  | p v =>
    cases v with
    | tup ys =>
      cases e
      obtain ⟨q, vs, e1, h1, h2⟩ := r
      exact ⟨q, vs, e1, .inr (SqT.up s.fz (.inl (.inl h1))), h2⟩
    | _ => exact fin e
def dLstS (ma : DE) : DE := fun env S => (ma env S).bind fun v S1 => match seqOf S1 v with
  | some xs => .ok (.ob S1.length) (S1 ++ [.lst (xs.map .p)])
  | none => .no
theorem PostE.newS {K : PySem.W.Frag} {g : G} {S : Sto} {H : Hp} {xs : List PV} {vs : List V} {Q : VK} (p : PostE K T E g (.ok (.ob S.length) (S ++ [.lst (xs.map .p)])) Q) (s : Rs K T g S H) (r : RpL K T g.F xs vs) (q : Addr) (hq : H q = none) : Q (.ref q) (upd H q (.lst vs)) := by
  have l := G.le_alloc g q
  have s' := s.alloc (so := .lst (xs.map .p)) (o := .lst vs) hq ⟨vs, upd_same, RvL.mono K T l.s (RvL.ofP r)⟩
  refine p _ _ _ l ⟨q, ?_, rfl⟩ s'
  show (g.f ++ [q])[S.length]? = some q
  rw [s.len, List.getElem?_append_right (Nat.le_refl _), Nat.sub_self]
  rfl
theorem r_lstS (ha : PE X a (tD X.K T E ma)) (hm : X.mg "list" = none) (hg : Gl X "list" := by rfl) (he : starEach [a] X.env = (false, eval a X.env) :: starEach [] X.env := by rfl) (hpl : (backTo pos (starEach [] X.env)).any (·.1) = false := by rfl) :
    PE X (.Call (.Name "list" p) [a] [] pos) (tD X.K T E (dLstS ma)) :=
  (pe_callTy call_list_of hg hm (by decide +kernel) (pa_cons ha pa_nil he) (by decide) (by decide) he hpl).imp fun σ H Q ⟨g, env, S, hE, hS, h⟩ => by
    refine ⟨g, env, S, hE, hS, ?_⟩
    have p := PostE.bind h
    revert p
    cases ma env S with
    | no => exact fun p => p
    | exc c fs S1 => exact fun p => p
    | ok v S1 =>
      intro p g1 x H1 l1 r1 s1
      obtain ⟨g2, v2, S2, l2, rv, rs, q⟩ := p g1 x H1 l1 r1 s1
      cases e1 : seqOf S2 v2 with
      | none => simp only [e1] at q; exact q.elim
      | some xs =>
        simp only [e1] at q
        obtain ⟨ad, vs, e2, h1, h2⟩ := Rs.seqP rs e1 rv
        exact ⟨ad, vs, by rw [e2], h1, PostE.newS q rs h2⟩
/-! ### keywords in calls -/
/-- the values of the keywords -/
def tKw (K : PySem.W.Frag) (T : Tab) (E : XK) (ms : List DE) : TA := tA K T E ms
theorem w_nil : PK X [] (tA X.K T E []) := ⟨fun pos pins s σ H Q I ⟨g, env, S, hE, hS, k, Q', h, q⟩ => pk_nil.run pos pins s σ H Q I (q g [] S [] H rfl (G.le.refl g) rfl hS h)⟩
theorem w_cons {nm : Option Str} {kpos : Pos} {kws : List Keyword} {m : DE} {ms : List DE} (ha : PE X e (tD X.K T E m)) (hr : PK X kws (tA X.K T E ms)) : PK X (⟨nm, e, kpos⟩ :: kws) (tA X.K T E (m :: ms)) :=
  ⟨fun pos pins s σ H Q I ⟨g, env, S, hE, hS, k, Q', h, q⟩ => by
    refine (pk_cons ha hr).run pos pins s σ H Q I ⟨g, env, S, hE, hS, ?_⟩
    have p := PostE.bind h
    revert p
    cases m env S with
    | no => exact fun p => p
    | exc c fs S1 => exact fun p => p
    | ok v S1 =>
      intro p g1 x H1 l1 r1 s1
      obtain ⟨g2, v2, S2, l2, rv, rs, q2⟩ := p g1 x H1 l1 r1 s1
      exact ⟨g2, env, S2, hE.mono X.K T l2.s, rs, _, Q', q2, fun g3 vs S3 xs H3 hl l3 r3 s3 q3 => q g3 (v2 :: vs) S3 (x :: xs) H3 (by rw [List.length_cons, List.length_cons, hl]) (l2.trans l3) ⟨x, xs, rfl, rv.mono X.K T l3.s, r3⟩ s3 q3⟩⟩
/-- positional values, then the keywords' ones; gv puts them in the parameters' order -/
def dCallK (m : DF) (gv : List VV → List VV → List VV) (ms ks : List DE) : DE := fun env S => args ms env S fun vs S1 => args ks env S1 fun zs S2 => m (gv vs zs) S2
def dMethK (c : Nat) (mn : String) (m : DF) (gv : List VV → List VV → List VV) (mo : DE) (ms ks : List DE) : DE := fun env S => (mo env S).bind fun o S1 =>
  if isIns c mn S1 o then args ms env S1 fun vs S2 => args ks env S2 fun zs S3 => m (gv (o :: vs) zs) S3 else .no
/-- two rows of arguments, the second one behind the first -/
theorem tA2_of {ms ks : List DE} {k : List VV → List VV → Sto → RE} {σ H} {Q : VK} {R : List V → List V → Hp → Prop} (h : tD X.K T E (fun env S => args ms env S fun vs S1 => args ks env S1 fun zs S2 => k vs zs S2) σ H Q)
    (hR : ∀ g vs zs S xs ys H, vs.length = ms.length → zs.length = ks.length → RvL X.K T g vs xs → RvL X.K T g zs ys → Rs X.K T g S H → PostE X.K T E g (k vs zs S) Q → R xs ys H) :
    tA X.K T E ms σ H fun xs H1 => tA X.K T E ks σ H1 fun ys H2 => R xs ys H2 := by
  obtain ⟨g, env, S, hE, hS, h⟩ := h
  refine ⟨g, env, S, hE, hS, _, Q, h, fun g1 vs S1 xs H1 hl l1 r1 s1 p1 => ?_⟩
  exact ⟨g1, env, S1, hE.mono X.K T l1.s, s1, _, Q, p1, fun g2 zs S2 ys H2 hl2 l2 r2 s2 p2 => hR g2 vs zs S2 xs ys H2 hl hl2 (r1.mono X.K T l2.s) r2 s2 p2⟩
def FnKE (P : Program) (w : World) (K : PySem.W.Frag) (mg : Str → Option Value) (base : Heap) (T : Tab) (x : Str) (k np n : Nat) (ks : List Str) (gv : List VV → List VV → List VV) (m : DF) : Prop :=
  ∃ f fd ps g gV, ps.length = np ∧ FnOk P w K mg base (L2.CX P w) k f fd ps (spD K T np m) ∧ mg x = some (.ref f) ∧ PySem.W.keepIn K (.ref f) = true ∧ KBn K fd ps n ks g gV ∧
    ∀ (g0 : G) (vs zs : List VV) (xs ys : List V), vs.length = n → zs.length = ks.length → RvL K T g0 vs xs → RvL K T g0 zs ys → RvL K T g0 (gv vs zs) (gV xs ys) ∧ (gv vs zs).length = np
def MtKE (P : Program) (w : World) (K : PySem.W.Frag) (mg : Str → Option Value) (base : Heap) (T : Tab) (c : Nat) (x : Str) (k np n : Nat) (ks : List Str) (gv : List VV → List VV → List VV) (m : DF) : Prop :=
  ∃ f fd ps g gV, ps.length = np ∧ FnOk P w K mg base (L2.CX P w) k f fd ps (spD K T np m) ∧ Cls K (T.C c) ∧ Meth K (T.C c) x f ∧ KBn K fd ps n ks g gV ∧
    ∀ (g0 : G) (vs zs : List VV) (xs ys : List V), vs.length = n → zs.length = ks.length → RvL K T g0 vs xs → RvL K T g0 zs ys → RvL K T g0 (gv vs zs) (gV xs ys) ∧ (gv vs zs).length = np
theorem c_fnK {x : Str} {k np n : Nat} {ks : List Str} {gv : List VV → List VV → List VV} {m : DF} {es : List Expr} {kws : List Keyword} {ms mks : List DE} (F : FnKE X.prog X.w X.K X.mg X.base T x k np n ks gv m) (tk : Tks X E) (hr : Room k X.A) (ha : PA X (e :: es) (tA X.K T E ms)) (hkw : PK X kws (tA X.K T E mks))
    (hg : Gl X x := by rfl) (hn : ms.length = n := by rfl) (hn2 : mks.length = ks.length := by rfl) (hall : (backToKw pos (keywordEach kws X.env)).all (·.1.isSome) = true := by rfl) (hks : (backToKw pos (keywordEach kws X.env)).filterMap (·.1) = ks := by rfl)
    (hdb : (x == ("__debug__" : Str)) = false := by decide) (he : starEach (e :: es) X.env = (false, eval e X.env) :: starEach es X.env := by rfl)
    (hpl : ((backTo pos (starEach (e :: es) X.env)).any (·.1) || (backToKw pos (keywordEach kws X.env)).any (·.1.isNone)) = false := by rfl) : PE X (.Call (.Name x p) (e :: es) kws pos) (tD X.K T E (dCallK m gv ms mks)) := by
  obtain ⟨f, fd, ps, gg, gV, hp, F, gm, hk, hb, hrel⟩ := F
  refine (pe_callN F hr hg gm hk hb tk.pass ha hkw hall hks hdb he hpl).imp fun σ H Q h => ?_
  refine tA2_of h fun g vs zs S xs ys H hl hl2 r1 r2 s q => ⟨by rw [r1.length, hl, hn], by rw [r2.length, hl2, hn2], ?_⟩
  obtain ⟨r3, hl3⟩ := hrel g vs zs xs ys (by rw [hl, hn]) (by rw [hl2, hn2]) r1 r2
  exact ⟨by rw [r3.length, hl3], g, _, S, r3, s, q⟩
theorem c_mtK0 {c : Nat} {mn : String} {k np : Nat} {ks : List Str} {gv : List VV → List VV → List VV} {m : DF} {kws : List Keyword} {mks : List DE} {pl : Sem Bool} (F : MtKE X.prog X.w X.K X.mg X.base T c (Str.ofString mn) k np 1 ks gv m) (tk : Tks X E) (hr : Room k X.A) (ho : PE X o (tD X.K T E mo)) (hkw : PK X kws (tA X.K T E mks))
    (hn2 : mks.length = ks.length := by rfl) (hall : (backToKw pos (keywordEach kws X.env)).all (·.1.isSome) = true := by rfl) (hks : (backToKw pos (keywordEach kws X.env)).filterMap (·.1) = ks := by rfl)
    (hpl : ((backTo pos (starEach [] X.env)).any (·.1) || (backToKw pos (keywordEach kws X.env)).any (·.1.isNone)) = false := by rfl)
    (ht : eval (.Call (.Attribute o (Str.ofString mn) apos) [] kws pos) X.env = (do
      let ov ← eval o X.env
      standAt apos.atName
      let (f, first) ← holding [ov] (getMethod ov (Str.ofString mn) pl)
      callWith pos f first (backTo pos (starEach [] X.env)) (backToKw pos (keywordEach kws X.env))) := by rfl) : PE X (.Call (.Attribute o (Str.ofString mn) apos) [] kws pos) (tD X.K T E (dMethK c mn m gv mo [] mks)) := by
  obtain ⟨f, fd, ps, gg, gV, hp, F, hc, hm, hb, hrel⟩ := F
  refine ⟨fun pins s σ H Q I ⟨g, env, S, hE, hS, h⟩ => ?_⟩
  have h1 : tD X.K T E mo σ H (fun x H1 => ∃ a dx fs, x = .ref a ∧ H1 a = some (.ins (T.C c) dx fs) ∧ fs.lookup (Str.ofString mn) = none ∧ tA X.K T E mks σ H1 fun ys H2 => spD X.K T np m (gV [.ref a] ys) H2 Q E ∧ ys.length = ks.length) := by
    refine ⟨g, env, S, hE, hS, ?_⟩
    have p := PostE.bind h
    revert p
    cases mo env S with
    | no => exact fun p => p
    | exc c fs S1 => exact fun p => p
    | ok v S1 =>
      intro p g1 x H1 l1 r1 s1
      obtain ⟨g2, v2, S2, l2, rv, rs, q⟩ := p g1 x H1 l1 r1 s1
      by_cases hi : isIns c mn S2 v2 = true
      · rw [if_pos hi] at q
        unfold isIns at hi
        cases e1 : insOf S2 v2 with
        | none => rw [e1] at hi; cases hi
        | some cf =>
          obtain ⟨c', fs⟩ := cf
          rw [e1] at hi
          simp only [Bool.and_eq_true, beq_iff_eq, Option.isNone_iff_eq_none] at hi
          obtain ⟨rfl, hi⟩ := hi
          obtain ⟨a, dx, vs, e2, h1, h2⟩ := rs.ins e1 rv
          refine ⟨a, dx, vs, e2, h1, (RvF.look h2).2 hi, ?_⟩
          refine ⟨g2, env, S2, hE.mono X.K T l2.s, rs, _, Q, q, fun g3 zs S3 ys H3 hl l3 r3 s3 q3 => ?_⟩
          obtain ⟨r4, hl4⟩ := hrel g3 [v2] zs [.ref a] ys rfl (by rw [hl, hn2]) ⟨.ref a, [], rfl, by rw [← e2]; exact rv.mono X.K T l3.s, rfl⟩ r3
          exact ⟨⟨by rw [r4.length, hl4], g3, _, S3, r4, s3, q3⟩, by rw [r3.length, hl, hn2]⟩
      · rw [if_neg hi] at q; exact q.elim
  refine PySem.W.methodCall_KW (pl := pl) (thn (ho.run pins s σ H _ I h1) fun u s1 ⟨x, H1, I1, rx, a, dx, fs, ex, ea, l, q⟩ => ?_) ht
  subst ex
  obtain rfl : u = Value.ref a := rx
  refine getmeth_ok I1 ea hc hm l ?_
  refine PySem.W.callWith_KW0 (first := [.ref a]) (h₀ := X.base) I.ok.mod.kin hm.kp hall ?_ hpl
  refine thn (hkw.run pos pins s1 σ H1 _ I1 q) fun ws s2 ⟨zs, H2, I2, rz, q2, l2⟩ => ⟨I2.kIn, ?_⟩
  rw [hks]
  exact run_fnN (us := [.ref a]) (vs := [.ref a]) F hr hb tk.pass I2 (.cons rfl .nil) rz rfl l2 (by subst hp; exact q2)
end
/-! ### the order of the parameters -/
/-- where each parameter's value comes from: (0, i) the i-th positional one, (1, i) the i-th default, (2, i) the i-th keyword -/
def selG {α : Type} (srcs : List (Nat × Nat)) (us its ws : List α) : List α := srcs.filterMap fun s => match s.1 with
  | 0 => us[s.2]?
  | 1 => its[s.2]?
  | _ => ws[s.2]?
def selV (srcs : List (Nat × Nat)) (ds : List PV) : List VV → List VV → List VV := fun vs zs => selG srcs vs (ds.map .p) zs
theorem Vals.ix {vs : List V} {us : List Value} (r : Vals vs us) (i : Nat) : (vs[i]? = none ∧ us[i]? = none) ∨ ∃ v u, vs[i]? = some v ∧ us[i]? = some u ∧ RelV v u := by
  induction r generalizing i with
  | nil => exact .inl ⟨rfl, rfl⟩
  | cons h1 h2 ih =>
    cases i with
    | zero => exact .inr ⟨_, _, rfl, rfl, h1⟩
    | succ i => simpa using ih i
theorem RvL.ix {K : PySem.W.Frag} {T : Tab} {g : G} : ∀ {vs : List VV} {us : List V} (r : RvL K T g vs us) (i : Nat), (vs[i]? = none ∧ us[i]? = none) ∨ ∃ v u, vs[i]? = some v ∧ us[i]? = some u ∧ Rv K T g v u
  | [], _, r, i => by cases r; exact .inl ⟨rfl, rfl⟩
  | v :: vs, _, ⟨u, us, e, h1, h2⟩, i => by
    subst e
    cases i with
    | zero => exact .inr ⟨_, _, rfl, rfl, h1⟩
    | succ i => simpa using RvL.ix h2 i
theorem Vals.sel : ∀ (srcs : List (Nat × Nat)) {vs ds zs : List V} {us its ws : List Value}, Vals vs us → Vals ds its → Vals zs ws → Vals (selG srcs vs ds zs) (selG srcs us its ws)
  | [], _, _, _, _, _, _, _, _, _ => .nil
  | (a, i) :: srcs, vs, ds, zs, us, its, ws, r1, r2, r3 => by
    have ih := Vals.sel srcs r1 r2 r3
    unfold selG at ih ⊢
    rw [List.filterMap_cons, List.filterMap_cons]
    rcases a with _ | _ | a
    · rcases Vals.ix r1 i with ⟨e1, e2⟩ | ⟨v, u, e1, e2, h⟩ <;> simp only [e1, e2]
      · exact ih
      · exact .cons h ih
    · rcases Vals.ix r2 i with ⟨e1, e2⟩ | ⟨v, u, e1, e2, h⟩ <;> simp only [e1, e2]
      · exact ih
      · exact .cons h ih
    · rcases Vals.ix r3 i with ⟨e1, e2⟩ | ⟨v, u, e1, e2, h⟩ <;> simp only [e1, e2]
      · exact ih
      · exact .cons h ih
theorem RvL.sel {K : PySem.W.Frag} {T : Tab} {g : G} : ∀ (srcs : List (Nat × Nat)) {vs ds zs : List VV} {us its ws : List V}, RvL K T g vs us → RvL K T g ds its → RvL K T g zs ws → RvL K T g (selG srcs vs ds zs) (selG srcs us its ws)
  | [], _, _, _, _, _, _, _, _, _ => rfl
  | (a, i) :: srcs, vs, ds, zs, us, its, ws, r1, r2, r3 => by
    have ih := RvL.sel srcs r1 r2 r3
    unfold selG at ih ⊢
    rw [List.filterMap_cons, List.filterMap_cons]
    rcases a with _ | _ | a
    · rcases RvL.ix r1 i with ⟨e1, e2⟩ | ⟨v, u, e1, e2, h⟩ <;> simp only [e1, e2]
      · exact ih
      · exact ⟨_, _, rfl, h, ih⟩
    · rcases RvL.ix r2 i with ⟨e1, e2⟩ | ⟨v, u, e1, e2, h⟩ <;> simp only [e1, e2]
      · exact ih
      · exact ⟨_, _, rfl, h, ih⟩
    · rcases RvL.ix r3 i with ⟨e1, e2⟩ | ⟨v, u, e1, e2, h⟩ <;> simp only [e1, e2]
      · exact ih
      · exact ⟨_, _, rfl, h, ih⟩
def selB (srcs : List (Nat × Nat)) (n nd nk : Nat) : Bool := srcs.all fun s => match s.1 with
  | 0 => decide (s.2 < n)
  | 1 => decide (s.2 < nd)
  | _ => decide (s.2 < nk)
theorem selG_length {α : Type} {us its ws : List α} : ∀ (srcs : List (Nat × Nat)), selB srcs us.length its.length ws.length = true → (selG srcs us its ws).length = srcs.length
  | [], _ => rfl
  | (a, i) :: srcs, h => by
    unfold selB at h
    rw [List.all_cons, Bool.and_eq_true] at h
    have ih := selG_length (us := us) (its := its) (ws := ws) srcs h.2
    unfold selG at ih ⊢
    rw [List.filterMap_cons]
    rcases a with _ | _ | a
    · have h1 : i < us.length := of_decide_eq_true h.1
      simp only [List.getElem?_eq_getElem h1, List.length_cons, ih]
    · have h1 : i < its.length := of_decide_eq_true h.1
      simp only [List.getElem?_eq_getElem h1, List.length_cons, ih]
    · have h1 : i < ws.length := of_decide_eq_true h.1
      simp only [List.getElem?_eq_getElem h1, List.length_cons, ih]
theorem sel_rel {K : PySem.W.Frag} {T : Tab} {srcs : List (Nat × Nat)} {n nk np : Nat} {ds : List PV} {dvs : List V} (hd : Dsv ds dvs) (hb : selB srcs n ds.length nk = true) (hl : srcs.length = np) (g0 : G) (vs zs : List VV) (xs ys : List V)
    (h1 : vs.length = n) (h2 : zs.length = nk) (r1 : RvL K T g0 vs xs) (r2 : RvL K T g0 zs ys) : RvL K T g0 (selV srcs ds vs zs) (selG srcs xs dvs ys) ∧ (selV srcs ds vs zs).length = np :=
  ⟨RvL.sel srcs r1 (RvL.ofP (hd K T g0.F)) r2, by
    rw [← hl]
    exact selG_length srcs (by rw [h1, h2, List.length_map]; exact hb)⟩
section
variable {K : PySem.W.Frag} {x qual : Str} {params : Arguments} {body : List Stmt} {scope : Scope} {dvs : List V} {kws : List (Str × V)} {f : Addr} {fd : FuncData} {ps : List Str}
/-- keywords, no defaults -/
theorem kbinds_n (F : FunD K x qual params body scope [] kws f fd) (n : Nat) (ks : List Str) (srcs : List (Nat × Nat))
    (h : ∀ (kV doc pm : Value) (an : Option Addr) (cdv ct : Value) (us ws : List Value), us.length = n → ws.length = ks.length → bindArgs (PySem.W.fnOf x qual params body scope .none kV doc pm an cdv ct) ⟨us, ks.zip ws⟩ = pure (ps.zip (selG srcs us [] ws))) :
    KBn K fd ps n ks (fun us ws => selG srcs us [] ws) (fun vs zs => selG srcs vs [] zs) := by
  have ⟨oc, od, dV, kV, doc, pm, an, cdv, ct, osl, e, lk, hcd, hD, hK⟩ := F.ex
  subst e
  rcases hD with ⟨_, e⟩ | ⟨e, _⟩
  · subst e
    exact ⟨fun s us ws X l1 l2 => .of_eq (h kV doc pm an cdv ct us ws l1 l2), fun r1 r2 => Vals.sel srcs r1 .nil r2⟩
  · exact absurd rfl e
/-- keywords, with defaults -/
theorem kbinds_d (F : FunD K x qual params body scope dvs kws f fd) (n : Nat) (ks : List Str) (srcs : List (Nat × Nat)) (hd : dvs ≠ [])
    (h : ∀ (T : Addr) (kV doc pm : Value) (an : Option Addr) (cdv ct : Value) (us its ws : List Value), us.length = n → its.length = dvs.length → ws.length = ks.length →
      ∃ k, bindArgs (PySem.W.fnOf x qual params body scope (.ref T) kV doc pm an cdv ct) ⟨us, ks.zip ws⟩ = seqItems? (.ref T) >>= k ∧ k (some its.toArray) = pure (ps.zip (selG srcs us its ws))) :
    ∃ its : List Value, KBn K fd ps n ks (fun us ws => selG srcs us its ws) (fun vs zs => selG srcs vs dvs zs) :=
  F.kbindsD n ks (fun us its ws => selG srcs us its ws) hd (fun r1 r2 r3 => Vals.sel srcs r1 r2 r3) h
end
end Dn

set_option maxRecDepth 100000
set_option maxHeartbeats 1000000
namespace Dn
open PySem PySem.Spec PyProof.Rows L2
open PySem.SeqAt PySem.MeetsSeq
open PySem.AutoSeq1 (wpAny_loadPart')
/-! ### a dict is in no list of texts -/
theorem str_dict0 (b : Str) (u : Tok) (l : Addr) (c : Value) (es : Array DictEntry) (n : Nat) (dd : Option Addr) (sl : Array (Option Value)) :
    Meets (Builtin.«str.__eq__» ⟨[.str b u, .ref l], []⟩) (fun _ R s => s.heap.get? l = some { cls := c, dict := dd, data := .dict es n, slots := sl } ∧ R (.ok (.ret .notImplemented)) s) :=
  .of_wp fun prog w A R s h => by
    obtain ⟨hp, g, d, tk, os⟩ := s
    obtain ⟨hl, h⟩ := h
    wp_walk using wpAny_loadPart' hl, wpAny_load hl
    exact ⟨_, rfl, h⟩
theorem dict_str0 (b : Str) (u : Tok) (l : Addr) (es : Array DictEntry) (n : Nat) (dd : Option Addr) (sl : Array (Option Value)) :
    Meets (Builtin.«dict.__eq__» ⟨[.ref l, .str b u], []⟩) (fun _ R s => s.heap.get? l = some { cls := .type "dict", dict := dd, data := .dict es n, slots := sl } ∧ R (.ok (.ret .notImplemented)) s) :=
  .of_wp fun prog w A R s h => by
    obtain ⟨hp, g, d, tk, os⟩ := s
    obtain ⟨hl, h⟩ := h
    have f1 := PySem.F.sub_str_dict
    wp_walk using wpAny_loadPart' hl, wpAny_load hl
    exact ⟨_, rfl, h⟩
section
variable {A : Around} {s : Shared}
theorem str_dict1 {l : Addr} {o : Obj} {es : Array DictEntry} {n : Nat} (ho : s.heap.get? l = some o) (hc : o.cls = .type "dict") (hd : o.data = .dict es n) (hu : A.units < cLine) (b : Str) (u : Tok) : RcAt A s (.str b u) (.ref l) false := fun prog w E Q h => by
  have ⟨cls, dd, data, sl⟩ := o
  simp only at hc hd
  subst hc hd
  have ho' : s.TypeIs (.ref l) "dict" := ⟨_, ho, rfl⟩
  refine rc_eq_decline_or (k := false) (Ta := "str") (Tb := "dict") rfl ho' (by decide) PySem.F.sub_dict_str PySem.F.slot_str_eq PySem.F.slot_dict_eq_refl (fun Q' hq => ?_) (fun Q' hq => ?_) (fun Q' hq => ?_) (.inr hu) h
  · exact call_meets PySem.F.slot_str_eq rfl PySem.F.entry_str_eq (PySem.F.args_str_eq_2 _ _) (str_dict0 b u l (.type "dict") es n dd sl) ⟨ho, hq⟩
  · exact call_meets PySem.F.slot_dict_eq_refl ho' PySem.F.entry_dict_eq (PySem.F.args_dict_eq_2 _ _) (dict_str0 b u l es n dd sl) ⟨ho, hq⟩
  · exact wpAny_of_eq (rfl : isSame (.str b u) (.ref l) = pure false) hq
theorem str_dict2 {l : Addr} {o : Obj} {es : Array DictEntry} {n : Nat} (ho : s.heap.get? l = some o) (hc : o.cls = .type "dict") (hd : o.data = .dict es n) (hu : A.units < cLine) (b : Str) (u : Tok) : EqAt A s (.str b u) (.ref l) false := fun prog w E Q h => by
  unfold eqBool
  refine wpAny_holding (wpAny_ite_split (fun hab => absurd (eq_of_beq hab) nofun) fun _ => ?_)
  exact wpAny_bind (str_dict1 ho hc hd hu b u prog w E _ (wpAny_truthy_bool h))
end
def allS : List PV → Bool
  | [] => true
  | .str _ :: r => allS r
  | _ :: _ => false
/-- a dict in a list of texts: never -/
def mInE (neg : Bool) : M2 := fun u v S => match u with
  | .p (.dic _ _) => (asList S v).bind fun xs => if allS xs = true then some (.p (.bl neg)) else none
  | _ => none
section
variable {X : Cx} {T : Tab}
theorem dict_stands {K : PySem.W.Frag} {g : G} {S : Sto} {H : Hp} {P : Program} {w : World} {h : Heap} (ok : HOk P w H h) (s : Rs K T g S H) {t : Bool} {kvs : List (PV × PV)} {x : V} (r : Rv K T g (.p (.dic t kvs)) x) : ∃ a o es n, x = .ref a ∧ h.get? a = some o ∧ o.cls = .type "dict" ∧ o.data = .dict es n := by
  cases t with
  | false =>
    obtain ⟨a, vs, e, hF, _⟩ := r
    obtain ⟨_, _, us, _, o, es, ep, h1, h2, h3, _⟩ := dk_of ok (s.fz _ _ hF)
    exact ⟨a, o, es, ep, e, h1, h2.1, h3⟩
  | true =>
    obtain ⟨a, vs, e, hF, _⟩ := r
    obtain ⟨_, _, us, _, o, es, ep, h1, h2, h3, _⟩ := dt_rd ok (.inl (s.fz _ _ hF))
    exact ⟨a, o, es, ep, e, h1, h2.1, h3⟩
theorem allS_strs {F : Hp} {K : PySem.W.Frag} : ∀ {xs : List PV} {vs : List V} {us : List Value}, allS xs = true → RpL K T F xs vs → Vals vs us → ∀ u ∈ us, ∃ z tk, u = Value.str z tk
  | [], _, _, _, r, v => by cases r; cases v; exact fun _ h => nomatch h
  | .str z :: xs, _, us, h, ⟨y, ys, e, h1, h2⟩, v => by
    have h : allS xs = true := h
    subst e
    cases v with
    | cons r1 r2 =>
      intro u hu
      rcases List.mem_cons.mp hu with e | hu
      · subst e
        cases h1
        obtain ⟨tk, rfl⟩ := r1
        exact ⟨z, tk, rfl⟩
      · exact allS_strs h h2 r2 u hu
  | .non :: _, _, _, h, _, _ => nomatch h
  | .bl _ :: _, _, _, h, _, _ => nomatch h
  | .int _ :: _, _, _, h, _, _ => nomatch h
  | .tup _ :: _, _, _, h, _, _ => nomatch h
  | .lst _ :: _, _, _, h, _, _ => nomatch h
  | .ins _ _ :: _, _, _, h, _, _ => nomatch h
  | .cls _ :: _, _, _, h, _, _ => nomatch h
  | .ty _ :: _, _, _, h, _, _ => nomatch h
  | .exn :: _, _, _, h, _, _ => nomatch h
  | .scr _ :: _, _, _, h, _, _ => nomatch h
  | .dic _ _ :: _, _, _, h, _, _ => nomatch h
theorem o_inE (hu : X.A.units + 128 < cLine) : OpM X T (compareOp .In) (mInE false) := by
  intro pins s σ H x y v u Q I rx ry ⟨g, a, b, S, ra, rb, hS, hp⟩
  unfold mInE at hp
  cases a with
  | ob i => exact hp.elim
  | p a =>
    cases a with
    | dic t kvs =>
      cases e : asList S b with
      | none => simp only [e, Option.bind_none] at hp; exact hp.elim
      | some xs =>
        simp only [e, Option.bind_some] at hp
        by_cases h : allS xs = true
        · rw [if_pos h] at hp
          obtain ⟨l, vs, rfl, h1, h2⟩ := hS.lst e rb
          obtain ⟨d, o, es, n, rfl, d1, d2, d3⟩ := dict_stands I.hok hS ra
          cases rx; cases ry
          obtain ⟨its, r, pl, hz⟩ := I.list (.inl (.inl h1))
          have q : Q (.bl false) H := PostE.val (v := .p (.bl false)) hp rfl hS
          refine SeqAt.in_listAt (fun _ => false) pl.isList (fun w hw => ?_) ⟨.bl _, H, I, rfl, ?_⟩
          · obtain ⟨z, tk, rfl⟩ := allS_strs h h2 r w (by simpa using hw)
            exact str_dict2 d1 d2 d3 (show X.A.in1.units < cLine by show X.A.units + 1 < cLine; omega) z tk
          · rw [show its.toArray.any (fun _ => false) = false by simp]; exact q
        · rw [if_neg h] at hp; exact hp.elim
    | _ => exact hp.elim
theorem o_notinE (hu : X.A.units + 128 < cLine) : OpM X T (compareOp .NotIn) (mInE true) := by
  intro pins s σ H x y v u Q I rx ry ⟨g, a, b, S, ra, rb, hS, hp⟩
  unfold mInE at hp
  cases a with
  | ob i => exact hp.elim
  | p a =>
    cases a with
    | dic t kvs =>
      cases e : asList S b with
      | none => simp only [e, Option.bind_none] at hp; exact hp.elim
      | some xs =>
        simp only [e, Option.bind_some] at hp
        by_cases h : allS xs = true
        · rw [if_pos h] at hp
          obtain ⟨l, vs, rfl, h1, h2⟩ := hS.lst e rb
          obtain ⟨d, o, es, n, rfl, d1, d2, d3⟩ := dict_stands I.hok hS ra
          cases rx; cases ry
          obtain ⟨its, r, pl, hz⟩ := I.list (.inl (.inl h1))
          have q : Q (.bl true) H := PostE.val (v := .p (.bl true)) hp rfl hS
          refine SeqAt.notIn_listAt (fun _ => false) pl.isList (fun w hw => ?_) ⟨.bl _, H, I, rfl, ?_⟩
          · obtain ⟨z, tk, rfl⟩ := allS_strs h h2 r w (by simpa using hw)
            exact str_dict2 d1 d2 d3 (show X.A.in1.units < cLine by show X.A.units + 1 < cLine; omega) z tk
          · rw [show its.toArray.any (fun _ => false) = false by simp]; exact q
        · rw [if_neg h] at hp; exact hp.elim
    | _ => exact hp.elim
def mInX : M2 := mIn.or (mInE false)
def mNotInX : M2 := mNotIn.or (mInE true)
theorem o_inX (hu : X.A.units + 128 < cLine) : OpM X T (compareOp .In) mInX := (o_in hu).or (o_inE hu)
theorem o_notinX (hu : X.A.units + 128 < cLine) : OpM X T (compareOp .NotIn) mNotInX := (o_notin hu).or (o_notinE hu)
end
/-! ### a, b, .. = a list -/
def dSetU (is : List Nat) (m : DE) : DS := fun env S => (m env S).bindS fun v S1 => match asList S1 v with
  | some xs => if xs.length = is.length then .nx (setAll is xs env) S1 else .no
  | none => .no
section
variable {X : Cx} {T : Tab} {E : XK} {e : Expr} {pos : Pos} {ma : DE}
theorem s_setU {es : List Expr} {k : Nat} {tp : Pos} {is : List Nat} (hc : X.calm = true) (he : PE X e (tD X.K T E ma)) (h : PGn X es is)
    (hn : (assignEach es X.env).length = is.length := by rfl) (hst : (assignEach es X.env).findIdx? (·.1) = none := by rfl)
    (hs : swapsWithSole [.Tuple es k tp] e pos.line X.env = pure false := by rfl) (hw : swappedStores [.Tuple es k tp] e X.env = pure none := by rfl) : PS X (.Assign [.Tuple es k tp] e pos) (tS X.K T E (dSetU is ma)) :=
  (ps_asg he (pg_unl hc h hn hst) hs hw).imp fun D σ H hh => tD_S (k := fun v S env => match asList S v with
    | some xs => if xs.length = is.length then .nx (setAll is xs env) S else .no
    | none => .no) hh fun g env v S x H hE rv rs p => by
    cases e1 : asList S v with
    | none => rw [e1] at p; exact p.elim
    | some xs =>
      rw [e1] at p
      by_cases hl : xs.length = is.length
      · simp only [if_pos hl] at p
        obtain ⟨a, vs, rfl, h1, h2⟩ := rs.lst e1 rv
        obtain ⟨k1, k2⟩ := setAll_re h2 hE hl
        exact ⟨a, vs, rfl, .inl (.inl h1), by rw [h2.length]; exact hl, by rw [h2.length]; exact hl, p g _ H (G.le.refl g) k1 rs⟩
      · simp only [if_neg hl] at p; exact p.elim
end
end Dn

set_option maxRecDepth 100000
set_option maxHeartbeats 4000000
namespace Dn
open PySem PySem.Spec PyProof.Rows L2
/-! ### set(a list of ints) -/
def mtS (w : World) : Obj := { cls := .type "set", dict := none, data := .set #[] 0 (.fresh 0 0 (!w.params.followText "set-order")) }
section
variable {P : Program} {w : World} {A : Around} {E : Value → Shared → Prop} {s : Shared}
/-- the empty set at p is filled from the list at l -/
theorem fill_ints {p l : Addr} {xs : Array Value} {ns : List Int} {R : PySem.Fin → Shared → Prop} (hh : A.handled = none) (hp : s.heap.get? p = some (mtS w)) (hl : s.heap.IsList l xs) (hpl : p ≠ l) (hi : IntsAre xs.toList ns) (hb : ns.length + 1 < scanBound)
    (h : ∀ h2 t2 c, (∀ b o, b ≠ p → s.heap.get? b = some o → h2.get? b = some o) → c ≤ ns.length → SetR w h2 p (fun j => decide (j ∈ ns)) c → R (.done (.ret .none)) { s with heap := h2, toks := t2 }) :
    wpAny (model P w) A (Builtin.«set.__init__» ⟨[.ref p, .ref l], []⟩) R E s := by
  obtain ⟨o, ho, hc, n, hd⟩ := id hl
  obtain ⟨c0, d0, e0, l0⟩ := o
  simp only at hc hd
  subst hc hd
  have f1 := F.sub_list_set
  have f2 := F.sub_list_frozenset
  have f3 : (Value.type "list" == Value.type "dict") = false := by decide
  unfold Builtin.«set.__init__» noKeywords Builtin.Frozenset.updateFrom
  generalize hPI : pyIter = PI
  wp_walk
  subst hPI
  have hlt : l < s.heap.objs.size := Heap.lt_size ho
  have hplt : p < s.heap.objs.size := Heap.lt_size hp
  have old : ∀ {b : Addr} {u : Obj} (it : Obj), s.heap.get? b = some u → (s.heap.push it).get? b = some u := fun it e => Heap.get?_push_of_some it e
  have few : xs.size = ns.length := by rw [← Array.length_toList]; exact IntsAre.length hi
  have val : ∀ (i : Nat) (v : Value), xs[i]? = some v → ∃ k t, ns[i]? = some k ∧ v = .int k t := fun i v hv => by
    have lt : i < ns.length := few ▸ (Array.getElem?_eq_some_iff.mp hv).1
    obtain ⟨t, e⟩ := IntsAre.int_at hi i v (by rw [Array.getElem?_toList]; exact hv)
    exact ⟨ns[i], t, List.getElem?_eq_getElem lt, by rw [e, List.getD_eq_getElem?_getD, List.getElem?_eq_getElem lt] <;> rfl⟩
  refine wpAny_pyIter_list hl (wpAny_bind (wpAny_runValue ?_))
  have walk := (Walks.list (prog := P) (w := w) (A := A.in1) (by simp [hh]) s.heap.objs.size l (Nat.ne_of_lt hlt) xs).toS
  have out : p ∉ [s.heap.objs.size, l] := fun hm => by
    rcases List.mem_cons.mp hm with e | hm
    · exact Nat.ne_of_lt hplt e
    · exact hpl (List.mem_singleton.mp hm)
  refine set_update_ints walk p out ns few hb val _ 0 _ rfl (Nat.zero_le _) ?_ ⟨0, Nat.le_refl _, ?_⟩ fun s2 c m hc hS => ?_
  · exact ⟨⟨_, Heap.get?_push_size _ rfl, rfl, rfl⟩, hl.push _⟩
  · exact setR_new_at (show _ = some (mtS w) from old _ hp)
  obtain ⟨h2, g2, d2, t2, os2⟩ := s2
  obtain rfl : g2 = s.gens := m.gens
  obtain rfl : d2 = s.drawn := m.drawn
  obtain rfl : os2 = s.os := m.os
  refine wpAny_pure (wpAny_pure (h h2 t2 c (fun b o hbp e => m.heap b o (fun hm => ?_) (old _ e)) (few ▸ hc) hS))
  rcases List.mem_cons.mp hm with rfl | hm
  · exact hbp rfl
  · exact Nat.lt_irrefl _ ((List.mem_singleton.mp hm) ▸ Heap.lt_size e)
/-- set(l) -/
theorem set_ints {l : Addr} {xs : Array Value} {ns : List Int} {Q : Value → Shared → Prop} (hh : A.handled = none) (hl : s.heap.IsList l xs) (hi : IntsAre xs.toList ns) (hb : ns.length + 1 < scanBound)
    (h : ∀ h2 t2 c, (∀ b o, s.heap.get? b = some o → h2.get? b = some o) → c ≤ ns.length → SetR w h2 s.heap.objs.size (fun j => decide (j ∈ ns)) c → Q (.ref s.heap.objs.size) { s with heap := h2, toks := t2 }) :
    wpAny (model P w) A (call (.type "set") [.ref l]) Q E s := by
  obtain ⟨c0, tl, hmro⟩ := F.called_set.mro
  have m1 := F.called_set.made
  have m2 := F.called_set.sub
  have m3 := F.called_set.notType
  have m4 := F.called_set.canCreate
  have m5 := F.typeCall_set_1 (.ref l)
  obtain ⟨o, ho, hc, n, hd⟩ := id hl
  have hlt : l < s.heap.objs.size := Heap.lt_size ho
  have hp : (s.heap.push (mtS w)).get? s.heap.objs.size = some (mtS w) := Heap.get?_push_size _ rfl
  refine wpAny_call (codeAny_of_tree ?_)
  show wpAny _ _ (callAny (.type "set") _) _ _ _
  refine wpAny_pure ⟨Code.quiet_builtin _ (by decide +kernel), codeAny_builtin F.entry_type_call ?_⟩
  rw [Around.under_plain (weight_type_call_type "set" [.ref l] []) rfl]
  repeat (any_goals (first | assumption | wp_step))
  refine codeAny_mono (code_set_led1 (.ref l) (E := E) (Q₁ := fun v s1 => v = .ref s.heap.objs.size ∧ s1 = { s with heap := s.heap.push (mtS w) }) ⟨rfl, rfl⟩) fun r s1 hr => ?_
  match r, hr with
  | .error e, hr => exact hr
  | .ok (.ret v), hr =>
    obtain ⟨rfl, rfl⟩ := hr
    have ty : Shared.TypeIs { s with heap := s.heap.push (mtS w) } (.ref s.heap.objs.size) "set" := ⟨_, hp, rfl⟩
    have k1 := F.called_set.init.lookup
    have k2 := F.called_set.init.bind (.ref s.heap.objs.size)
    repeat (any_goals (first | assumption | wp_step))
    refine codeAny_mono (codeAny_call_builtin (R := wants (fun v s2 => v = .none ∧ ∃ h2 t2 c, s2 = { s with heap := h2, toks := t2 } ∧ (∀ b o, s.heap.get? b = some o → h2.get? b = some o) ∧ c ≤ ns.length ∧ SetR w h2 s.heap.objs.size (fun j => decide (j ∈ ns)) c) E)
      F.called_set.init.plain F.entry_set_init (check_set_init_1 ty ?_)) fun r s2 hr => ?_
    · refine fill_ints (s := { s with heap := s.heap.push (mtS w) }) (by simp [hh]) hp (hl.push _) (Nat.ne_of_gt hlt) hi hb fun h2 t2 c kp hc hS => ?_
      exact ⟨rfl, h2, t2, c, rfl, fun b o e => kp b o (Nat.ne_of_lt (Heap.lt_size e)) (Heap.get?_push_of_some _ e), hc, hS⟩
    · match r, hr with
      | .error e, hr => exact hr
      | .ok (.ret v), hr =>
        obtain ⟨rfl, h2, t2, c, rfl, kp, hc, hS⟩ := hr
        repeat (any_goals (first | assumption | wp_step))
        exact h h2 t2 c kp hc hS
      | .ok .next, hr => exact hr.elim
      | .ok .brk, hr => exact hr.elim
      | .ok .cont, hr => exact hr.elim
  | .ok .next, hr => exact hr.elim
  | .ok .brk, hr => exact hr.elim
  | .ok .cont, hr => exact hr.elim
end
/-! ### sorted(set(a list of ints)) -/
def insI (x : Int) : List Int → List Int
  | [] => [x]
  | y :: ys => if x < y then x :: y :: ys else if x = y then y :: ys else y :: insI x ys
def srtSet (ns : List Int) : List Int := ns.foldr insI []
theorem insI_mem (x k : Int) : ∀ ys : List Int, k ∈ insI x ys ↔ k = x ∨ k ∈ ys
  | [] => by simp [insI]
  | y :: ys => by
    unfold insI
    split
    · simp
    · split
      · rename_i h; subst h; simp
      · simp only [List.mem_cons, insI_mem x k ys]
        constructor
        · rintro (h | h | h)
          · exact .inr (.inl h)
          · exact .inl h
          · exact .inr (.inr h)
        · rintro (h | h | h)
          · exact .inr (.inl h)
          · exact .inl h
          · exact .inr (.inr h)
theorem insI_rise (x : Int) : ∀ ys : List Int, ys.Pairwise (· < ·) → (insI x ys).Pairwise (· < ·)
  | [], _ => List.pairwise_singleton _ _
  | y :: ys, h => by
    obtain ⟨h1, h2⟩ := List.pairwise_cons.mp h
    unfold insI
    split
    · rename_i hxy
      refine List.pairwise_cons.mpr ⟨fun z hz => ?_, h⟩
      rcases List.mem_cons.mp hz with rfl | hz
      · exact hxy
      · exact Int.lt_trans hxy (h1 z hz)
    · split
      · exact h
      · rename_i n1 n2
        refine List.pairwise_cons.mpr ⟨fun z hz => ?_, insI_rise x ys h2⟩
        rcases (insI_mem x z ys).mp hz with rfl | hz
        · omega
        · exact h1 z hz
theorem srtSet_mem (k : Int) : ∀ ns : List Int, k ∈ srtSet ns ↔ k ∈ ns
  | [] => by simp [srtSet]
  | x :: ns => by
    show k ∈ insI x (srtSet ns) ↔ _
    rw [insI_mem, srtSet_mem k ns, List.mem_cons]
theorem srtSet_rise : ∀ ns : List Int, (srtSet ns).Pairwise (· < ·)
  | [] => List.Pairwise.nil
  | x :: ns => insI_rise x _ (srtSet_rise ns)
theorem rise_uniq : ∀ {a b : List Int}, a.Pairwise (· < ·) → b.Pairwise (· < ·) → (∀ k, k ∈ a ↔ k ∈ b) → a = b
  | [], [], _, _, _ => rfl
  | [], y :: ys, _, _, h => nomatch (h y).mpr List.mem_cons_self
  | x :: xs, [], _, _, h => nomatch (h x).mp List.mem_cons_self
  | x :: xs, y :: ys, ha, hb, h => by
    obtain ⟨a1, a2⟩ := List.pairwise_cons.mp ha
    obtain ⟨b1, b2⟩ := List.pairwise_cons.mp hb
    have e : x = y := by
      rcases List.mem_cons.mp ((h x).mp List.mem_cons_self) with e | h1
      · exact e
      · rcases List.mem_cons.mp ((h y).mpr List.mem_cons_self) with e | h2
        · exact e.symm
        · have := b1 x h1; have := a1 y h2; omega
    subst e
    rw [rise_uniq a2 b2 fun k => ⟨fun hk => ?_, fun hk => ?_⟩]
    · rcases List.mem_cons.mp ((h k).mp (List.mem_cons_of_mem _ hk)) with e | h1
      · have := a1 k hk; omega
      · exact h1
    · rcases List.mem_cons.mp ((h k).mpr (List.mem_cons_of_mem _ hk)) with e | h1
      · have := b1 k hk; omega
      · exact h1
theorem insI_len (x : Int) : ∀ ys : List Int, (insI x ys).length ≤ ys.length + 1
  | [] => Nat.le_refl _
  | y :: ys => by
    unfold insI
    split
    · simp
    · split
      · simp
      · have := insI_len x ys; simp; omega
theorem srtSet_len : ∀ ns : List Int, (srtSet ns).length ≤ ns.length
  | [] => Nat.le_refl _
  | x :: ns => by
    have h1 := insI_len x (srtSet ns)
    have h2 := srtSet_len ns
    show (insI x (srtSet ns)).length ≤ ns.length + 1
    omega
def dSrtSet (ma : DE) : DE := fun env S => (ma env S).bind fun v S1 => match intsOf S1 v with
  | some ns => if ns.length < 60 then .ok (.p (.lst ((srtSet ns).map .int))) S1 else .no
  | none => .no
section
variable {X : Cx} {T : Tab} {E : XK} {a e : Expr} {ma me : DE} {p p2 q pos : Pos}
def tSrtSet (K : PySem.W.Frag) (ta : TE) : TE := fun σ H Q => ta σ H fun x H1 => ∃ (l : Addr) (ns : List Int), x = V.ref l ∧ SqL K H1 l (ns.map V.int) ∧ ns.length < 60 ∧ ∀ b, H1 b = none → Q (.ref b) (upd H1 b (.lst ((srtSet ns).map V.int)))
theorem pe_srtSet {ta : TE} (hc : X.calm = true) (hg : Gl X "sorted") (hm : X.mg "sorted" = none) (hg2 : Gl X "set") (hm2 : X.mg "set" = none) (ha : PE X a ta)
    (na : starEach [a] X.env = (false, eval a X.env) :: starEach [] X.env := by rfl) : PE X (.Call (.Name "sorted" p) [.Call (.Name "set" p2) [a] [] q] [] pos) (tSrtSet X.K ta) := by
  refine ⟨fun pins s σ H Q I h => ?_⟩
  refine Call_ (ld_blt I hg hm boot_sorted ?_)
  refine PyProof.Rows.callWith_builtin1 (PyProof.Rows.args_cons ?_ rfl) rfl rfl
  refine Call_ (ld_blt I hg2 hm2 PyProof.Rows.boot_set ?_)
  refine PyProof.Rows.callWith_type1 (PyProof.Rows.args_cons (thn (ha.run pins s σ H _ I h) fun v s1 ⟨x, H1, I1, r1, q1⟩ => PyProof.Rows.args_nil ?_) na) na rfl
  obtain ⟨l, ns, rfl, hq, hl, q1⟩ := q1
  cases r1
  obtain ⟨its, r, pl, hz⟩ := I1.list hq
  refine set_ints (ns := ns) (I1.ok.hd hc) pl.isList (by simpa using r.ints) (by unfold scanBound; omega) fun h2 t2 c kp hc2 hS => PyProof.Rows.args_nil ?_
  have I2 : Inv X pins σ H1 { s1 with heap := h2, toks := t2 } := I1.kept kp
  refine sorted_set (s := { s1 with heap := h2, toks := t2 }) hS (I2.ok.hd hc) (by omega) fun s3 b out ep ms kp3 g3 o3 hb hgt hi hrise hmem hlen => ?_
  have e : ms = srtSet ns := rise_uniq hrise (srtSet_rise ns) fun k => by rw [hmem k, srtSet_mem, decide_eq_true_eq]
  subst e
  have hn : H1 b = none := I2.hok.fresh hb
  have ml : ((srtSet ns).map V.int).length ≤ sizeLine := by rw [List.length_map, hlen, sizeLine_eq]; omega
  have J : Inv X pins σ (upd H1 b (.lst ((srtSet ns).map V.int))) { ({ s1 with heap := h2, toks := t2 } : Shared) with heap := s3.heap, gens := s3.gens, drawn := s3.drawn, toks := s3.toks } :=
    I2.call (ch := []) (Un.laid kp3 hb hn) (I2.hok.laid kp3 hb ⟨ml, out.toList, ep, vals_of_ints hi, hgt⟩) (by rw [g3]; exact I2.bare) (fun _ z => nomatch z)
  have e3 : s3 = { ({ s1 with heap := h2, toks := t2 } : Shared) with heap := s3.heap, gens := s3.gens, drawn := s3.drawn, toks := s3.toks } := by
    cases s3
    cases o3
    rfl
  rw [e3]
  exact ⟨.ref b, _, J, rfl, q1 b hn⟩
theorem r_srtSet (hc : X.calm = true) (hm : X.mg "sorted" = none) (hm2 : X.mg "set" = none) (ha : PE X a (tD X.K T E ma)) (hg : Gl X "sorted" := by rfl) (hg2 : Gl X "set" := by rfl)
    (na : starEach [a] X.env = (false, eval a X.env) :: starEach [] X.env := by rfl) : PE X (.Call (.Name "sorted" p) [.Call (.Name "set" p2) [a] [] q] [] pos) (tD X.K T E (dSrtSet ma)) :=
  (pe_srtSet hc hg hm hg2 hm2 ha na).imp fun σ H Q ⟨g, env, S, hE, hS, h⟩ => by
    refine ⟨g, env, S, hE, hS, ?_⟩
    have p := PostE.bind h
    revert p
    cases ma env S with
    | no => exact fun p => p
    | exc c fs S1 => exact fun p => p
    | ok v S1 =>
      intro p g1 x H1 l1 r1 s1
      obtain ⟨g2, v2, S2, l2, rv, rs, q⟩ := p g1 x H1 l1 r1 s1
      cases e1 : intsOf S2 v2 with
      | none => simp only [e1] at q; exact q.elim
      | some ns =>
        simp only [e1] at q
        by_cases hl : ns.length < 60
        · rw [if_pos hl] at q
          obtain ⟨ad, e2, h1⟩ := rs.ints e1 rv
          exact ⟨ad, ns, e2, h1, hl, PostE.newL q rs (rpl_ints _)⟩
        · rw [if_neg hl] at q; exact q.elim
end
end Dn

set_option maxRecDepth 100000
set_option maxHeartbeats 1000000
namespace Dn
open PySem PySem.Spec PyProof.Rows L2
variable {X : Cx} {T : Tab} {E : XK} {e a b : Expr} {ma mb me : DE} {p pos : Pos}
/-! ### displays with what a list or a tuple holds in them -/
def argsX : List (Bool × DE) → En → Sto → (List VV → Sto → RE) → RE
  | [], _, S, k => k [] S
  | (false, m) :: ms, env, S, k => (m env S).bind fun v S1 => argsX ms env S1 fun vs S2 => k (v :: vs) S2
  | (true, m) :: ms, env, S, k => (m env S).bind fun v S1 => match seqOf S1 v with
    | some xs => argsX ms env S1 fun vs S2 => k (xs.map .p ++ vs) S2
    | none => .no
def PostX (K : PySem.W.Frag) (T : Tab) (E : XK) (g : G) (ms : List (Bool × DE)) (env : En) (S : Sto) (Q : List V → Hp → Prop) : Prop :=
  ∃ (k : List VV → Sto → RE) (Q' : VK), PostE K T E g (argsX ms env S k) Q' ∧
    ∀ g1 vs S1 xs H1, g.le g1 → RvL K T g1 vs xs → Rs K T g1 S1 H1 → PostE K T E g1 (k vs S1) Q' → Q xs H1
def tX (K : PySem.W.Frag) (T : Tab) (E : XK) (ms : List (Bool × DE)) : TA := fun σ H Q => ∃ g env S, Re K T g env σ ∧ Rs K T g S H ∧ PostX K T E g ms env S Q
theorem x_nil : PA X [] (tX X.K T E []) := pa_nil.imp fun σ H Q ⟨g, env, S, hE, hS, k, Q', h, q⟩ => q g [] S [] H (G.le.refl g) rfl hS h
theorem x_cons {es : List Expr} {m : DE} {ms : List (Bool × DE)} (ha : PE X e (tD X.K T E m)) (hr : PA X es (tX X.K T E ms)) (hs : starEach (e :: es) X.env = (false, eval e X.env) :: starEach es X.env := by rfl) : PA X (e :: es) (tX X.K T E ((false, m) :: ms)) :=
  (pa_cons ha hr hs).imp fun σ H Q ⟨g, env, S, hE, hS, k, Q', h, q⟩ => by
    refine ⟨g, env, S, hE, hS, ?_⟩
    have p := PostE.bind h
    revert p
    cases m env S with
    | no => exact fun p => p
    | exc c fs S1 => exact fun p => p
    | ok v S1 =>
      intro p g1 x H1 l1 r1 s1
      obtain ⟨g2, v2, S2, l2, rv, rs, q2⟩ := p g1 x H1 l1 r1 s1
      exact ⟨g2, env, S2, hE.mono X.K T l2.s, rs, _, Q', q2, fun g3 vs S3 xs H3 l3 r3 s3 q3 => q g3 (v2 :: vs) S3 (x :: xs) H3 (l2.trans l3) ⟨x, xs, rfl, rv.mono X.K T l3.s, r3⟩ s3 q3⟩
theorem RvL.app {K : PySem.W.Frag} {g : G} : ∀ {as bs : List VV} {xs ys : List V}, RvL K T g as xs → RvL K T g bs ys → RvL K T g (as ++ bs) (xs ++ ys)
  | [], _, _, _, r1, r2 => by cases r1; exact r2
  | a :: as, _, _, _, ⟨x, xs, e, h1, h2⟩, r2 => by subst e; exact ⟨x, xs ++ _, rfl, h1, RvL.app h2 r2⟩
theorem x_star {es : List Expr} {m : DE} {ms : List (Bool × DE)} (ha : PE X e (tD X.K T E m)) (hr : PA X es (tX X.K T E ms)) (hs : starEach (.Starred e p :: es) X.env = (true, eval e X.env) :: starEach es X.env := by rfl) : PA X (.Starred e p :: es) (tX X.K T E ((true, m) :: ms)) :=
  (StX.pa_star ha hr hs).imp fun σ H Q ⟨g, env, S, hE, hS, k, Q', h, q⟩ => by
    refine ⟨g, env, S, hE, hS, ?_⟩
    have p := PostE.bind h
    revert p
    cases m env S with
    | no => exact fun p => p
    | exc c fs S1 => exact fun p => p
    | ok v S1 =>
      intro p g1 x H1 l1 r1 s1
      obtain ⟨g2, v2, S2, l2, rv, rs, q2⟩ := p g1 x H1 l1 r1 s1
      cases e1 : seqOf S2 v2 with
      | none => simp only [e1] at q2; exact q2.elim
      | some xs =>
        simp only [e1] at q2
        obtain ⟨ad, us, e2, h1, h2⟩ := Rs.seqP rs e1 rv
        refine ⟨ad, us, e2, h1.symm, g2, env, S2, hE.mono X.K T l2.s, rs, _, Q', q2, fun g3 vs S3 ys H3 l3 r3 s3 q3 => q g3 (xs.map .p ++ vs) S3 (us ++ ys) H3 (l2.trans l3) (RvL.app (RvL.mono X.K T l3.s (RvL.ofP h2)) r3) s3 q3⟩
theorem tX_of {ms : List (Bool × DE)} {k : List VV → Sto → RE} {σ H} {Q : VK} {R : List V → Hp → Prop} (h : tD X.K T E (fun env S => argsX ms env S k) σ H Q)
    (hR : ∀ g vs S xs H, RvL X.K T g vs xs → Rs X.K T g S H → PostE X.K T E g (k vs S) Q → R xs H) : tX X.K T E ms σ H R := by
  obtain ⟨g, env, S, hE, hS, h⟩ := h
  exact ⟨g, env, S, hE, hS, k, Q, h, fun g1 vs S1 xs H1 _ r s p => hR g1 vs S1 xs H1 r s p⟩
def dLstX (ms : List (Bool × DE)) : DE := fun env S => argsX ms env S fun vs S1 => match allP vs with
  | some xs => if xs.length ≤ LIM then .ok (.p (.lst xs)) S1 else .no
  | none => .no
def dTupX (ms : List (Bool × DE)) : DE := fun env S => argsX ms env S fun vs S1 => match allP vs with
  | some xs => if xs.length ≤ LIM then .ok (.p (.tup xs)) S1 else .no
  | none => .no
theorem r_lstX {es : List Expr} {ms : List (Bool × DE)} (h : PA X es (tX X.K T E ms)) : PE X (.List es pos) (tD X.K T E (dLstX ms)) :=
  (pe_lst h).imp fun σ H Q hq => tX_of hq fun g vs S xs H r s p => by
    cases e1 : allP vs with
    | none => simp only [e1] at p; exact p.elim
    | some ys =>
      simp only [e1] at p
      by_cases hl : ys.length ≤ LIM
      · rw [if_pos hl] at p
        have r' := RvL.allP e1 r
        exact ⟨by rw [r'.length]; exact lim_line hl, PostE.newL p s r'⟩
      · rw [if_neg hl] at p; exact p.elim
theorem r_tupX {es : List Expr} {ms : List (Bool × DE)} {x1} (h : PA X es (tX X.K T E ms)) : PE X (.Tuple es x1 pos) (tD X.K T E (dTupX ms)) :=
  (pe_tup h).imp fun σ H Q hq => tX_of hq fun g vs S xs H r s p => by
    cases e1 : allP vs with
    | none => simp only [e1] at p; exact p.elim
    | some ys =>
      simp only [e1] at p
      by_cases hl : ys.length ≤ LIM
      · rw [if_pos hl] at p
        have r' := RvL.allP e1 r
        exact ⟨by rw [r'.length]; exact lim_line hl, PostE.newT p s r'⟩
      · rw [if_neg hl] at p; exact p.elim
/-! ### min(a list, default = a value) -/
def alikeB (ds : List PyData) : Bool := ds.all fun d => notNone d && ds.all fun e => PySem.W.alike d e
def minAt (ds : List PyData) : Nat := argBest (fun i j => PySem.W.dataLt (ds.getD i .none) (ds.getD j .none)) (ds.length - 1)
def mMinDf (v d : VV) (S : Sto) : Option VV := (asList S v).bind fun xs => match xs with
  | [] => some d
  | _ => (toDL 59 xs).bind fun ds => if alikeB ds = true then (xs[minAt ds]?).map .p else none
def dMinDf (ms ks : List DE) : DE := fun env S => args ms env S fun vs S1 => args ks env S1 fun zs S2 => match vs, zs with
  | [v], [d] => RE.of S2 (mMinDf v d S2)
  | _, _ => .no
theorem alike_all {ds : List PyData} (h : alikeB ds = true) : PySem.W.AlikeAll ds := by
  unfold alikeB at h
  rw [List.all_eq_true] at h
  refine ⟨fun d hd e he => ?_, fun d hd z => ?_⟩
  · have := h d hd
    rw [Bool.and_eq_true, List.all_eq_true] at this
    exact this.2 e he
  · have := h d hd
    rw [Bool.and_eq_true, z] at this
    exact nomatch this.1
def rMinDf (K : PySem.W.Frag) : List V → List V → Hp → VK → Prop := fun vs zs H Q => ∃ (a : Addr) (xs : List V) (d : V), vs = [V.ref a] ∧ zs = [d] ∧ SqL K H a xs ∧ ((xs = [] ∧ Q d H) ∨
  ∃ (ds : List PyData) (v : V), DpAll K H xs ds ∧ alikeB ds = true ∧ PyData.depthAll ds ≤ 64 ∧ xs[minAt ds]? = some v ∧ Q v H)
theorem cr_minDf (hc : X.calm = true) (hu : X.A.units + 128 < cLine) : CallRK X (.builtin "min") [Str.ofString "default"] (rMinDf X.K) := by
  intro pins s σ H vs zs us ws Q I r rz ⟨a, xs, d, e1, e2, hs, h⟩
  subst e1 e2
  obtain ⟨its, rv, pl, hz⟩ := I.list hs
  obtain ⟨u, rfl, ru⟩ := vals1 r
  obtain rfl : u = Value.ref a := ru
  obtain ⟨w, rfl, rw_⟩ := vals1 rz
  have hn : its.toArray.size = xs.length := by rw [List.size_toArray, rv.length]
  have hh := I.ok.hd hc
  refine PySem.call_min_walkD (PySem.W.iter_listW (A := X.A.in1) (by simp [hh]) pl.isList fun s2 e W st hfp hw hk => ?_)
  rcases h with ⟨rfl, q⟩ | ⟨ds, v, hd, hb, hdep, hv, q⟩
  · refine ⟨_, _, _, _, _, _, _, s.heap, (fun _ _ => false), rfl, W, st, hfp, hw, hk, fun hz s' m => ?_, fun hp => absurd hp (by rw [hn]; decide)⟩
    obtain ⟨h', tk, rfl, hk'⟩ := PySem.W.moved_old e rfl m
    exact ⟨d, H, I.kept hk', rw_, q⟩
  · obtain ⟨as, ra⟩ := Dp.readsAll I ds xs its hd rv
    have hL := dpAll_length hd
    refine ⟨_, _, _, _, _, _, _, s.heap, (fun i j => PySem.W.dataLt (ds.getD i .none) (ds.getD j .none)), rfl, W, st, hfp, hw, hk, fun hz s' m => ?_, fun hp => ⟨PySem.W.cmpIn_lt (A := X.A.in1) (as := as) (by simpa using ra) (alike_all hb) (by show X.A.units + 1 + _ < _; omega), fun w2 s' hP m => ?_⟩⟩
    · have : xs = [] := List.eq_nil_of_length_eq_zero (by omega)
      subst this
      exact nomatch hv
    · obtain ⟨h', tk, rfl, hk'⟩ := PySem.W.moved_old e rfl m
      have e3 : its.toArray.size - 1 = ds.length - 1 := by rw [hn, hL]
      rw [e3] at hP
      have hP : its.toArray[minAt ds]? = some w2 := hP
      have hP2 : its[minAt ds]? = some w2 := by simpa using hP
      rcases Vals.ix rv (minAt ds) with ⟨e4, _⟩ | ⟨v', u', e4, e5, rv'⟩
      · rw [hv] at e4; exact nomatch e4
      · rw [hv] at e4
        rw [hP2] at e5
        cases e4
        cases e5
        exact ⟨v, H, I.kept hk', rv', q⟩
theorem r_minDf {kws : List Keyword} {ms mks : List DE} (hc : X.calm = true) (hu : X.A.units + 128 < cLine) (hm : X.mg "min" = none) (ha : PA X (e :: []) (tA X.K T E ms)) (hkw : PK X kws (tA X.K T E mks)) (hg : Gl X "min" := by rfl)
    (he : backTo pos (starEach (e :: []) X.env) = (false, eval e X.env) :: backTo pos (starEach [] X.env) := by rfl) (hpl : (backTo pos (starEach (e :: []) X.env)).any (·.1) = false := by rfl)
    (hall : (backToKw pos (keywordEach kws X.env)).all (·.1.isSome) = true := by rfl) (hnone : (backToKw pos (keywordEach kws X.env)).any (·.1.isNone) = false := by rfl) (hks : (backToKw pos (keywordEach kws X.env)).filterMap (·.1) = [Str.ofString "default"] := by rfl) :
    PE X (.Call (.Name "min" p) (e :: []) kws pos) (tD X.K T E (dMinDf ms mks)) :=
  (pe_callBK (cr_minDf hc hu) hg hm (by decide +kernel) ha hkw (by decide) (by decide) he hpl hall hnone hks).imp fun σ H Q h => by
    refine tA2_of h fun g vs zs S xs ys H hl hl2 r1 r2 s q => ?_
    match vs, zs, q with
    | [v], [d], q =>
      obtain ⟨x, _, rfl, rx, e0⟩ := r1
      obtain rfl : _ = [] := e0
      obtain ⟨y, _, rfl, ry, e0⟩ := r2
      obtain rfl : _ = [] := e0
      unfold mMinDf at q
      cases e1 : asList S v with
      | none => simp only [e1, Option.bind_none] at q; exact q.elim
      | some xs =>
        obtain ⟨a, vs, rfl, h1, h2⟩ := s.lst e1 rx
        cases xs with
        | nil =>
          obtain rfl : vs = [] := h2
          simp only [e1, Option.bind_some] at q
          exact ⟨a, [], y, rfl, rfl, .inl (.inl h1), .inl ⟨rfl, PostE.val q ry s⟩⟩
        | cons x0 xs0 =>
          cases e2 : toDL 59 (x0 :: xs0) with
          | none => simp only [e1, e2, Option.bind_some, Option.bind_none] at q; exact q.elim
          | some ds =>
            simp only [e1, e2, Option.bind_some] at q
            by_cases hb : alikeB ds = true
            · rw [if_pos hb] at q
              cases e3 : (x0 :: xs0)[minAt ds]? with
              | none => rw [e3] at q; exact q.elim
              | some v0 =>
                rw [e3] at q
                obtain ⟨z, hz, rz⟩ := h2.get e3
                have hd := toDL_dp s.fz 59 _ vs ds e2 h2
                exact ⟨a, vs, y, rfl, rfl, .inl (.inl h1), .inr ⟨ds, z, hd, hb, Nat.le_trans (toDL_sh 59 _ ds e2).2 (by decide), hz, PostE.val q rz s⟩⟩
            · rw [if_neg hb] at q; exact q.elim
    | [], _, q => exact q.elim
    | _ :: _ :: _, _, q => exact q.elim
    | [_], [], q => exact q.elim
    | [_], _ :: _ :: _, q => exact q.elim
end Dn

set_option maxRecDepth 100000
set_option maxHeartbeats 1000000
namespace Dn
open PySem PySem.Spec PyProof.Rows L2
variable {X : Cx} {T : Tab} {E : XK}
/-! ### own == -/
/-- what an own == of two instances of c tells, where nothing is changed by it -/
def mEqO (c : Nat) (m : DF) : M2 := fun v u S => match insOf S v, insOf S u with
  | some (c1, _), some (c2, _) => if c1 = c ∧ c2 = c then match m [v, u] S with
    | .ok (.p (.bl b)) S2 => if Sto.same S S2 = true then some (.p (.bl b)) else none
    | _ => none
    else none
  | _, _ => none
theorem eqO_at {c k : Nat} {m : DF} (F : MtE X.prog X.w X.K X.mg X.base T c "__eq__" k 2 [] m) {A : Around} (hr : Room k A) {pins : List (Addr × Obj)} {s : Shared} {σ : L2.St} {H : Hp} {x y : V} {v u : Value} {Q : VK} (I : Inv X pins σ H s) (e0 : Env0 X.prog X.w X.K X.mg X.base A X.stack s H) (rx : RelV x v) (ry : RelV y u)
    {g : G} {a b : VV} {S : Sto} (ra : Rv X.K T g a x) (rb : Rv X.K T g b y) (hS : Rs X.K T g S H) (hp2 : PostE X.K T E0 g (RE.of S (mEqO c m a b S)) Q) :
    wpAny (model X.prog X.w) A (richCompare .Eq v u) (fun r s' => ∃ d H', r = .bool d ∧ Inv X pins σ H' s' ∧ Q (.bl d) H') X.xe s := by
  obtain ⟨f, fd, ps, dvs, dus, hp, F, hc, hM, hb, hd, hds⟩ := F
  have hds' : dvs = [] := hds X.K T fun _ => none
  subst hds'
  cases hd
  unfold mEqO at hp2
  cases e1 : insOf S a with
  | none => simp only [e1] at hp2; exact hp2.elim
  | some cf =>
    cases e2 : insOf S b with
    | none => simp only [e1, e2] at hp2; exact hp2.elim
    | some cg =>
      obtain ⟨c1, fs⟩ := cf
      obtain ⟨c2, gs⟩ := cg
      simp only [e1, e2] at hp2
      by_cases hcc : c1 = c ∧ c2 = c
      · rw [if_pos hcc] at hp2
        obtain ⟨rfl, rfl⟩ := hcc
        obtain ⟨ax, dx, vs, rfl, ha, hfs⟩ := hS.ins e1 ra
        obtain ⟨ay, dy, ws, rfl, hay, hgs⟩ := hS.ins e2 rb
        cases rx
        cases ry
        obtain ⟨mA, O, _⟩ := ins_get I.hok ha
        obtain ⟨od, J, _⟩ := O.look
        obtain ⟨mB, O2, _⟩ := ins_get I.hok hay
        obtain ⟨od2, J2, _⟩ := O2.look
        obtain ⟨mm, Fr'⟩ := I.fr
        refine PySem.W.cmp_K (op := .Eq) (tb := .ref (T.C c2)) hr.units0 Fr' I.ok.mod.kin J J2.type (by simp [PySem.W.notFirst]) hM.at_ hM.fn ?_
        have hsp : spD X.K T 2 m [.ref ax, .ref ay] H (fun z H2 => ∃ d : Bool, z = .bl d ∧ Q (.bl d) H2) E0 := by
          refine ⟨rfl, g, [a, b], S, ⟨.ref ax, _, rfl, ra, .ref ay, [], rfl, rb, rfl⟩, hS, ?_⟩
          revert hp2
          cases m [a, b] S with
          | no => exact fun p => p.elim
          | exc c fs S1 => exact fun p => p.elim
          | ok w S1 =>
            cases w with
            | ob i => exact fun p => p.elim
            | p w =>
              cases w with
              | bl d =>
                intro p
                simp only at p
                by_cases hn : Sto.same S S1 = true
                · rw [if_pos hn] at p
                  obtain rfl := Sto.same_eq hn
                  intro g2 y H2 l2 r2 s2
                  cases r2
                  exact ⟨d, rfl, p g2 _ H2 l2 rfl s2⟩
                · rw [if_neg hn] at p; exact p.elim
              | _ => exact fun p => p.elim
        have r2 : Vals [V.ref ax, V.ref ay] [Value.ref ax, Value.ref ay] := .cons rfl (.cons rfl .nil)
        refine wpAny_call (codeAny_mono (F.run A X.stack s H ⟨[.ref ax, .ref ay], []⟩ [.ref ax, .ref ay] [.ref ax, .ref ay] _ E0 hr e0 (by
          have := hb s [.ref ax, .ref ay] I.kIn (by rw [hp]; rfl)
          simpa using this) r2 hsp) fun r s' hq => ?_)
        cases r with
        | error e =>
          obtain ⟨_, _, _, _, _, _, _, _, _, _, _, _, z⟩ := hq
          exact z.elim
        | ok fl =>
          cases fl with
          | ret w =>
            obtain ⟨z, H', I', rz, d, rfl, q⟩ := I.after hq
            cases rz
            exact ⟨d, H', rfl, I', q⟩
          | next => exact False.elim hq
          | brk => exact False.elim hq
          | cont => exact False.elim hq
      · rw [if_neg hcc] at hp2; exact hp2.elim
theorem o_eqO {c k : Nat} {m : DF} (F : MtE X.prog X.w X.K X.mg X.base T c "__eq__" k 2 [] m) (hr : Room k X.A) : OpM X T (compareOp .Eq) (mEqO c m) := by
  intro pins s σ H x y v u Q I rx ry ⟨g, a, b, S, ra, rb, hS, hp2⟩
  show wpAny (model X.prog X.w) X.A (richCompare .Eq v u) (EP X pins σ Q) X.xe s
  exact wpAny_mono (eqO_at F hr I I.env0 rx ry ra rb hS hp2) (fun r s' ⟨d, H', e, I', q⟩ => ⟨.bl d, H', I', e, q⟩) fun _ _ e => e
/-- data, or own things -/
def mEqX (c : Nat) (m : DF) : M2 := mEq.or (mEqO c m)
theorem o_eqX {c k : Nat} {m : DF} (hu : X.A.units + 128 < cLine) (F : MtE X.prog X.w X.K X.mg X.base T c "__eq__" k 2 [] m) (hr : Room k X.A) : OpM X T (compareOp .Eq) (mEqX c m) := (o_eq hu).or (o_eqO F hr)
/-! ### an own thing that is == to the first thing of a list -/
open AutoSeq1 (wpAny_loadPart')
open MeetsSeq MeetsSeq2 MeetsSeq3 SeqRoads2
section
variable {P : Program} {w : World} {A : Around} {Ee : Value → Shared → Prop} {s : Shared}
theorem first_in {l : Addr} {items : Array Value} {x y : Value} {Q : Shared → Prop} (hl : s.heap.IsList l items) (hy : items[0]? = some y)
    (h : wpAny (model P w) A.in1 (eqBool y x) (fun r s' => r = true ∧ Q s') Ee s) : wpAny (model P w) A (contains (.ref l) x) (fun r s' => r = true ∧ Q s') Ee s := by
  obtain ⟨⟨cls, dd, data, sl⟩, ho, hc, n, hd⟩ := id hl
  simp only at hc hd
  subst hc hd
  have hT : s.TypeIs (.ref l) "list" := ⟨_, ho, rfl⟩
  refine wpAny_contains_slot hT F.slot_list_contains (wpAny_mono (Q := fun v s' => v = .bool true ∧ Q s') (GQ.call_here F.slot_list_contains hT F.entry_list_contains (F.args_list_contains_2 _ _) ?_) (fun v s' hv => ?_) fun _ _ e => e)
  · obtain ⟨hp, g, d, tk, os⟩ := s
    wp_walk using wpAny_loadPart' ho
    refine ⟨plainId_quiet plain_contains_loop _, codeAny_builtin entry_contains_loop ?_⟩
    rw [Around.under_plainId plain_contains_loop _]
    wp_walk using wpAny_loadPart' ho
    rw [show items[Int.toNat 0]? = some y from hy]
    refine wpAny_bind (wpAny_mono h (fun r s2 hr => ?_) fun _ _ e => e)
    obtain ⟨rfl, q⟩ := hr
    exact wpAny_pure ⟨rfl, q⟩
  · obtain ⟨rfl, q⟩ := hv
    exact wpAny_truthy_bool ⟨rfl, q⟩
end
def mInO (c : Nat) (m : DF) (neg : Bool) : M2 := fun v u S => match asList S u with
  | some (y :: _) => match mEqO c m (.p y) v S with
    | some (.p (.bl true)) => some (.p (.bl (!neg)))
    | _ => none
  | _ => none
theorem contO {c k : Nat} {m : DF} {neg : Bool} (F : MtE X.prog X.w X.K X.mg X.base T c "__eq__" k 2 [] m) (hr : Room (k + 1) X.A) {pins : List (Addr × Obj)} {s : Shared} {σ : L2.St} {H : Hp} {x y : V} {v u : Value} {Q : VK} (I : Inv X pins σ H s) (rx : RelV x v) (ry : RelV y u)
    (hq : ∃ g a b S, Rv X.K T g a x ∧ Rv X.K T g b y ∧ Rs X.K T g S H ∧ PostE X.K T E0 g (RE.of S (mInO c m neg a b S)) Q) :
    wpAny (model X.prog X.w) X.A (contains u v) (fun r s' => r = true ∧ ∃ H', Inv X pins σ H' s' ∧ Q (.bl (!neg)) H') X.xe s := by
  obtain ⟨g, a, b, S, ra, rb, hS, hp⟩ := hq
  unfold mInO at hp
  cases e1 : asList S b with
  | none => simp only [e1] at hp; exact hp.elim
  | some ys =>
    cases ys with
    | nil => simp only [e1] at hp; exact hp.elim
    | cons z zs =>
      simp only [e1] at hp
      obtain ⟨l, ws, rfl, h1, h2⟩ := hS.lst e1 rb
      cases ry
      obtain ⟨its, rv, pl, hz⟩ := I.list (.inl (.inl h1))
      obtain ⟨zv, ws', rfl, rz, r2⟩ := h2
      obtain ⟨w0, its', rfl, rw0, rv'⟩ : ∃ w0 its', its = w0 :: its' ∧ RelV zv w0 ∧ Vals ws' its' := by
        cases rv with
        | cons r t => exact ⟨_, _, rfl, r, t⟩
      cases e2 : mEqO c m (.p z) a S with
      | none => simp only [e2] at hp; exact hp.elim
      | some t =>
        simp only [e2] at hp
        match t, hp with
        | .p (.bl true), hp =>
          refine first_in pl.isList (y := w0) (by simp) ?_
          have key := eqO_at (Q := fun d H' => d = .bl true ∧ Q (.bl (!neg)) H') F hr.in1 I I.env0.in1 rw0 rx (a := .p z) (b := a) rz ra hS (by
            rw [e2]
            intro g2 y2 H2 l2 r3 s3
            cases r3
            exact ⟨rfl, hp g2 _ H2 l2 rfl s3⟩)
          have isz : ∃ c2 fs, insOf S (.p z) = some (c2, fs) := by
            unfold mEqO at e2
            cases e3 : insOf S (.p z) with
            | none => simp only [e3] at e2; cases e2
            | some cf => exact ⟨cf.1, cf.2, rfl⟩
          have isa : ∃ c2 fs, insOf S a = some (c2, fs) := by
            unfold mEqO at e2
            obtain ⟨c2, fs, e3⟩ := isz
            cases e4 : insOf S a with
            | none => simp only [e3, e4] at e2; cases e2
            | some cf => exact ⟨cf.1, cf.2, rfl⟩
          obtain ⟨c2, fs, e3⟩ := isz
          obtain ⟨c3, gs, e4⟩ := isa
          obtain ⟨az, dz, vz, ez, _, _⟩ := hS.ins e3 rz
          obtain ⟨aa, da, va, ea, _, _⟩ := hS.ins e4 ra
          subst ez ea
          cases rw0
          cases rx
          by_cases hab : az = aa
          · subst hab
            exact SeqAt.EqAt.same (A := X.A.in1) (s := s) (.ref az) X.prog X.w X.xe _ ⟨rfl, H, I, hp g _ H (G.le.refl g) rfl hS⟩
          · refine GQ.eqBool_refG hab (wpAny_mono key (fun r s' ⟨d, H', e, I', e5, q⟩ => ?_) fun _ _ e => e)
            cases e5
            exact ⟨true, e, rfl, H', I', q⟩
theorem o_inO {c k : Nat} {m : DF} (F : MtE X.prog X.w X.K X.mg X.base T c "__eq__" k 2 [] m) (hr : Room (k + 1) X.A) : OpM X T (compareOp .In) (mInO c m false) := by
  intro pins s σ H x y v u Q I rx ry hq
  show wpAny _ X.A (do return Value.bool (← contains u v)) _ _ s
  refine wpAny_bind (wpAny_mono (contO F hr I rx ry hq) (fun r s' ⟨e, H', I', q⟩ => ?_) fun _ _ e => e)
  subst e
  exact wpAny_pure ⟨.bl true, H', I', rfl, q⟩
theorem o_notinO {c k : Nat} {m : DF} (F : MtE X.prog X.w X.K X.mg X.base T c "__eq__" k 2 [] m) (hr : Room (k + 1) X.A) : OpM X T (compareOp .NotIn) (mInO c m true) := by
  intro pins s σ H x y v u Q I rx ry hq
  show wpAny _ X.A (do return Value.bool (!(← contains u v))) _ _ s
  refine wpAny_bind (wpAny_mono (contO F hr I rx ry hq) (fun r s' ⟨e, H', I', q⟩ => ?_) fun _ _ e => e)
  subst e
  exact wpAny_pure ⟨.bl false, H', I', rfl, q⟩
end Dn

set_option maxRecDepth 100000
set_option maxHeartbeats 1000000
namespace Dn
open PySem PySem.Spec PyProof.Rows L2
variable {X : Cx} {T : Tab} {E : XK} {e o : Expr} {mo me : DE} {pos p : Pos}
/-! ### what is never reached -/
def dNoS : DS := fun _ _ => .no
theorem s_no {st : Stmt} : PS X st (tS X.K T E dNoS) := ⟨fun pins s σ H D I ⟨_, _, _, _, _, h⟩ => h.elim⟩
/-! ### str of numbers and texts -/
def mStr : MB := mB1 fun v _ => match v with
  | .p (.int i) => if i.natAbs.log2 < 1920 then some (.p (.str (Str.ofString (toString i)))) else none
  | .p (.str a) => some (.p (.str a))
  | _ => none
theorem call_strX : CallR X (.type "str") (fun xs H Q => (∃ i, xs = [.int i] ∧ i.natAbs.log2 < 1920 ∧ Q (.str (toString i)) H) ∨ ∃ a, xs = [.str a] ∧ Q (.str a) H) := fun pins s σ H xs us Q I r h => by
  rcases h with h | h
  · exact call_str_int pins s σ H xs us Q I r h
  · exact SkE.call_str_str pins s σ H xs us Q I r h
theorem b_str : BiM X T (.type "str") mStr := biM_1 call_strX fun g v S x H w Q e r s p => by
  cases v with
  | ob i => cases e
  | p v =>
    cases v with
    | int i =>
      simp only at e
      split at e
      · rename_i hl
        cases e
        obtain rfl : x = .int i := r
        exact .inl ⟨i, rfl, hl, p.val rfl s⟩
      · cases e
    | str a =>
      cases e
      obtain rfl : x = .str a := r
      exact .inr ⟨a, rfl, p.val rfl s⟩
    | _ => cases e
/-! ### texts joined -/
def allStr : List PV → Option (List Str)
  | [] => some []
  | .str a :: r => (allStr r).map (a :: ·)
  | _ :: _ => none
theorem RpL.strs {K : PySem.W.Frag} {F : Hp} : ∀ {xs : List PV} {ys : List Str} {vs : List V}, allStr xs = some ys → RpL K T F xs vs → vs = ys.map V.str
  | [], ys, vs, h, r => by cases h; cases r; rfl
  | x :: xs, ys, vs, h, ⟨v, vs', e, h1, h2⟩ => by
    subst e
    cases x with
    | str a =>
      have h : (allStr xs).map (a :: ·) = some ys := h
      cases e2 : allStr xs with
      | none => rw [e2] at h; cases h
      | some zs =>
        rw [e2] at h
        cases h
        obtain rfl : v = .str a := h1
        rw [RpL.strs e2 h2]; rfl
    | _ => cases h
def dJoin (mo me : DE) : DE := fun env S => (mo env S).bind fun v S1 => match v with
  | .p (.str a) => (me env S1).bind fun u S2 => match (asList S2 u).bind allStr with
    | some ys => if (ys.map (·.length)).sum + ys.length * a.length ≤ 16000000 then .ok (.p (.str (Txt.join a ys))) S2 else .no
    | none => .no
  | _ => .no
theorem r_join {apos cpos : Pos} (ho : PE X o (tD X.K T E mo)) (he : PE X e (tD X.K T E me))
    (hbase : attributeBase o "join" X.env (eval o X.env) = eval o X.env := by rfl)
    (hfew : ((backTo cpos (starEach [e] X.env)).all (fun x => !x.1) && (backToKw cpos (keywordEach [] X.env)).all (fun x => x.1.isSome) && decide ([e].length + ([] : List Keyword).length + (if ([] : List Keyword).isEmpty then 0 else 1) < 30)) = true := by rfl)
    (hline : (apos.endLine == cpos.line) = true := by rfl) (hs : starEach [e] X.env = (false, eval e X.env) :: starEach [] X.env := by rfl) :
    PE X (.Call (.Attribute o "join" apos) [e] [] cpos) (tD X.K T E (dJoin mo me)) :=
  (pe_bm PySem.F.plainAttrs_str PySem.F.slot_str_join PySem.F.type_str_join mt_join ho (pa_cons he pa_nil hs) hbase hfew hline hs (by rfl)).imp fun σ H Q ⟨g, env, S, hE, hS, h⟩ => by
    refine ⟨g, env, S, hE, hS, ?_⟩
    have p := PostE.bind h
    revert p
    cases mo env S with
    | no => exact fun p => p
    | exc c fs S1 => exact fun p => p
    | ok v S1 =>
      intro p g1 x H1 l1 r1 s1
      obtain ⟨g2, v2, S2, l2, rv, rs, q⟩ := p g1 x H1 l1 r1 s1
      cases v2 with
      | ob i => exact q.elim
      | p v2 =>
        cases v2 with
        | str a =>
          obtain rfl : x = .str a := rv
          have q : PostE X.K T E g2 ((me env S2).bind fun u S3 => match (asList S3 u).bind allStr with
            | some ys => if (ys.map (·.length)).sum + ys.length * a.length ≤ 16000000 then .ok (.p (.str (Txt.join a ys))) S3 else .no
            | none => .no) Q := q
          refine ⟨rfl, g2, env, S2, hE.mono X.K T l2.s, rs, ?_⟩
          have p2 := PostE.bind q
          revert p2
          cases me env S2 with
          | no => exact fun p => p
          | exc c fs S3 => exact fun p => p
          | ok u S3 =>
            intro p2 g3 y H3 l3 r3 s3
            obtain ⟨g4, u2, S4, l4, ru, rs4, q4⟩ := p2 g3 y H3 l3 r3 s3
            cases e1 : asList S4 u2 with
            | none => simp only [e1, Option.bind_none] at q4; exact q4.elim
            | some xs =>
              cases e2 : allStr xs with
              | none => simp only [e1, e2, Option.bind_some] at q4; exact q4.elim
              | some ys =>
                simp only [e1, e2, Option.bind_some] at q4
                by_cases hl : (ys.map (·.length)).sum + ys.length * a.length ≤ 16000000
                · rw [if_pos hl] at q4
                  obtain ⟨ad, vs, rfl, h1, h2⟩ := rs4.lst e1 ru
                  have hv := RpL.strs e2 h2
                  exact ⟨a, ad, ys, rfl, rfl, .inl (.inl (.inl (by rw [← hv]; exact h1))), by omega, PostE.val (v := .p (.str _)) q4 rfl rs4⟩
                · rw [if_neg hl] at q4; exact q4.elim
        | _ => exact q.elim
/-! ### str of an own instance -/
def dStrO (c : Nat) (m : DF) (mo : DE) : DE := fun env S => (mo env S).bind fun o S1 => match insOf S1 o with
  | some (c', _) => if c' = c then match m [o] S1 with
    | .ok (.p (.str a)) S2 => .ok (.p (.str a)) S2
    | _ => .no
    else .no
  | none => .no
theorem c_strO {c k : Nat} {m : DF} {p : Pos} (F : MtE X.prog X.w X.K X.mg X.base T c "__str__" k 1 [] m) (hr : Room (k + 2) X.A) (ho : PE X o (tD X.K T E mo)) (hm : X.mg "str" = none) (hg : Gl X "str" := by rfl) (h1 : starEach [o] X.env = (false, eval o X.env) :: starEach [] X.env := by rfl) (hpl : (backTo pos (starEach [] X.env)).any (·.1) = false := by rfl) :
    PE X (.Call (.Name "str" p) [o] [] pos) (tD X.K T E (dStrO c m mo)) := by
  obtain ⟨f, fd, ps, dvs, dus, hp, F, hc, hM, hb, hd, hds⟩ := F
  have hds' : dvs = [] := hds X.K T fun _ => none
  subst hds'
  cases hd
  have hC : CallR X (.type "str") (fun xs H Q => ∃ g v S fs, RvL X.K T g [v] xs ∧ Rs X.K T g S H ∧ insOf S v = some (c, fs) ∧ PostE X.K T E0 g (match m [v] S with
    | .ok (.p (.str a)) S2 => .ok (.p (.str a)) S2
    | _ => .no) Q) := by
    intro pins s σ H xs us Q I r ⟨g, v, S, fs, rv, rs, hi, p⟩
    obtain ⟨x, rfl, r1⟩ := rv.one
    obtain ⟨u, rfl, ru⟩ := vals1 r
    obtain ⟨a, dx, vs, rfl, ha, hfs⟩ := rs.ins hi r1
    cases ru
    obtain ⟨mA, O, _⟩ := ins_get I.hok ha
    obtain ⟨od, J, _⟩ := O.look
    refine PySem.W.kso_call hr.in1.in1.units0 I.kIn J hM.at_ hM.fn ?_
    have hsp : spD X.K T 1 m [.ref a] H (fun y H2 => ∃ z : Str, y = .str z ∧ Q (.str z) H2) E0 := by
      refine ⟨rfl, g, [v], S, rv, rs, ?_⟩
      revert p
      cases m [v] S with
      | no => exact fun p => p
      | exc c fs S1 => exact fun p => p.elim
      | ok w S1 =>
        cases w with
        | ob i => exact fun p => p.elim
        | p w =>
          cases w with
          | str z =>
            intro p g2 y H2 l2 r2 s2
            obtain rfl : y = .str z := r2
            exact ⟨z, rfl, p g2 _ H2 l2 rfl s2⟩
          | _ => exact fun p => p.elim
    refine wpAny_call (codeAny_mono (F.run X.A.in1.in1 X.stack s H ⟨[.ref a], []⟩ ([Value.ref a] ++ []) [V.ref a] _ E0 hr.in1.in1 I.env0.in1.in1 (hb s [.ref a] I.kIn (by rw [hp]; rfl)) (show Vals [V.ref a] [Value.ref a] from .cons (show RelV (V.ref a) (Value.ref a) from rfl) .nil) hsp) fun r s' hq => ?_)
    cases r with
    | error e =>
      obtain ⟨_, _, _, _, _, _, _, _, _, _, _, _, z⟩ := hq
      exact z.elim
    | ok fl =>
      cases fl with
      | ret u =>
        obtain ⟨y, H', I', ry, z, rfl, q⟩ := I.after hq
        obtain ⟨tk, rfl⟩ := ry
        exact ⟨.str z, H', I', ⟨_, rfl⟩, q⟩
      | next => exact False.elim hq
      | brk => exact False.elim hq
      | cont => exact False.elim hq
  refine (pe_callTy hC hg hm (by decide +kernel) (pa_cons ho pa_nil h1) (by decide) (by decide) h1 hpl).imp fun σ H Q ⟨g, env, S, hE, hS, h⟩ => ?_
  refine ⟨g, env, S, hE, hS, ?_⟩
  have p := PostE.bind h
  revert p
  cases mo env S with
  | no => exact fun p => p
  | exc c fs S1 => exact fun p => p
  | ok v S1 =>
    intro p g1 x H1 l1 r1 s1
    obtain ⟨g2, v2, S2, l2, rv, rs, q⟩ := p g1 x H1 l1 r1 s1
    cases e1 : insOf S2 v2 with
    | none => simp only [e1] at q; exact q.elim
    | some cf =>
      obtain ⟨c', fs⟩ := cf
      simp only [e1] at q
      by_cases hcc : c' = c
      · subst hcc
        rw [if_pos rfl] at q
        refine ⟨g2, v2, S2, fs, ⟨x, [], rfl, rv, rfl⟩, rs, e1, ?_⟩
        revert q
        cases m [v2] S2 with
        | no => exact fun q => q
        | exc c fs S1 => exact fun q => q
        | ok w S3 =>
          cases w with
          | ob i => exact fun q => q
          | p w => cases w <;> exact fun q => q
      · rw [if_neg hcc] at q; exact q.elim
end Dn

set_option maxRecDepth 100000
set_option maxHeartbeats 1000000
namespace Dn
open PySem PySem.Spec PyProof.Rows L2
/-! ### own == and != against anything -/
section
open PySem.SeqAt
variable {prog : Program} {w : World} {A : Around} {Ee : Value → Shared → Prop} {s : Shared} {K : PySem.W.Frag} {x C f : Addr} {ox : Obj} {od : Option Obj} {b tb : Value}
theorem ifBoundB_K {M : Model} {id : String} {name : Str} {args : List Value} {Q : Option Value → Shared → Prop} (X : K.In s.heap) (I : PySem.W.InstAt s.heap x ox C od) (hs : PySem.W.findIn K (.ref C) name = some (some (.builtin id)))
    (hb : ∀ self, bindSpecial (.builtin id) self = pure (.builtin id, [self])) (h : wpAny M A (call (.builtin id) (.ref x :: args)) (fun v => Q (some v)) Ee s) : wpAny M A (callSpecialIfBound? (.ref x) name args) Q Ee s := by
  simp only [callSpecialIfBound?, bindSpecialIfBound?]
  refine wpAny_holding (wpAny_bind (wpAny_bind (wpAny_bind (I.type.here ((PySem.W.looks_findIn X hs).here ?_)))))
  refine wpAny_bind (wpAny_askSetting (wpAny_ite ?_))
  have fin : wpAny M A (call (.builtin id) ([.ref x] ++ args) >>= fun v => pure (some v)) Q Ee s := wpAny_bind (wpAny_mono h (fun v s' h' => wpAny_pure h') fun _ _ h' => h')
  split
  · exact wpAny_bind (wpAny_of_eq (hb _) (wpAny_pure (by exact fin)))
  · exact wpAny_tryCatch (wpAny_bind (wpAny_of_eq (hb _) (wpAny_pure (by exact fin))))
theorem ne_K {Q : Value → Shared → Prop} (hu : A.units + 1 < cLine) (X : K.In s.heap) (I : PySem.W.InstAt s.heap x ox C od) (hb : PySem.W.Looks (model prog w) s.heap (typeOf b) tb) (hn : PySem.W.notFirst K C tb = true)
    (hs : PySem.W.findIn K (.ref C) "__eq__" = some (some (.ref f))) (hf : PySem.W.isFn K (.ref f) = true) (hne : PySem.W.findIn K (.ref C) "__ne__" = some (some (.builtin "object.__ne__"))) (hm : PySem.W.mroIn K C (.type "object") = some true)
    (h : wpAny (model prog w) A.in1 (call (.ref f) [.ref x, b]) (fun r s' => ∃ k, r = .bool k ∧ Q (.bool (!k)) s') Ee s) : wpAny (model prog w) A (richCompare .NotEq (.ref x) b) Q Ee s := by
  have one : wpAny (model prog w) A (tryCompare (.ref x) "__ne__" b) (fun r s' => ∃ v, r = some v ∧ Q v s') Ee s := by
    unfold tryCompare
    refine wpAny_bind (ifBoundB_K X I hne F.cmp_object.ne.bind ?_)
    refine wpAny_call (codeAny_call_builtin F.cmp_object.ne.plain F.cmpEntry_ne (PySem.W.check_slot F.cmpKind_ne F.cmpSplit_ne (I.type.andThen (PySem.W.looks_mroIn X hm)) (F.cmpArgs_ne _ _) ?_))
    unfold Builtin.«object.__ne__»
    refine wpAny_bind (m := PySem.slotArgs "__ne__" 1 _) (wpAny_pure ?_)
    refine wpAny_bind (m := cRoomFor _ _) (wpAny_cRoomFor hu ?_)
    refine wpAny_bind (m := callSpecialIfBound? (.ref x) (Str.ofString "__eq__") _) (PySem.W.ifBound_K X I hs hf (wpAny_mono h (fun r s' hr => ?_) fun _ _ e => e))
    obtain ⟨k, rfl, q⟩ := hr
    refine wpAny_bind (m := truthy (.bool k)) (wpAny_truthy_bool ?_)
    exact wpAny_pure (by first | exact wpAny_pure ⟨_, rfl, q⟩ | exact ⟨_, rfl, q⟩)
  unfold richCompare
  simp only [oneThing_ref]
  refine wpAny_holding (wpAny_bind (wpAny_cRoomFor (by omega) ?_))
  refine wpAny_bind (I.type.here (wpAny_bind (hb.here ?_)))
  split
  · rename_i q
    have e : PySem.W.subIn K tb (.ref C) = some false := by
      rcases Bool.or_eq_true_iff.mp hn with e | e
      · rw [beq_iff_eq.mp e] at q; simp at q
      · exact beq_iff_eq.mp e
    refine wpAny_bind ((PySem.W.looks_subIn X e).here ?_)
    simp only [Bool.false_eq_true, if_false]
    refine wpAny_bind (wpAny_mono one (fun r s' z => ?_) fun _ _ e => e)
    obtain ⟨v, rfl, hq⟩ := z
    exact wpAny_pure hq
  · refine wpAny_bind (wpAny_pure ?_)
    simp only [Bool.false_eq_true, if_false]
    refine wpAny_bind (wpAny_mono one (fun r s' z => ?_) fun _ _ e => e)
    obtain ⟨v, rfl, hq⟩ := z
    exact wpAny_pure hq
theorem int_eq_declines_inst (k : Int) (u : Tok) (dx : Addr) {Q : Fin → Shared → Prop} {M : Model} (hl : s.heap.get? x = some (PySem.W.instObj C dx)) (h : Q (.done (.ret .notImplemented)) s) :
    wpAny M A (Builtin.«int.__eq__» ⟨[.int k u, .ref x], []⟩) Q Ee s := by
  obtain ⟨hp, g, d, tk, os⟩ := s
  simp only [PySem.W.instObj] at hl
  wp_walk using AutoSeq1.wpAny_loadPart' hl, wpAny_load hl
  exact h
/-- None, or a number, against an own thing: told by the own == -/
theorem rc_back {y : Value} {Ty : String} {id : String} {Q : Value → Shared → Prop} (hu : A.units < cLine) (X : K.In s.heap) (I : PySem.W.InstAt s.heap x ox C od) (hT : s.TypeIs y Ty)
    (hno : PySem.W.mroIn K C (.type Ty) = some false) (slot : Slot Ty "__eq__" id) (hc : wpAny (model prog w) A (call (.builtin id) [y, .ref x]) (fun v s' => v = .notImplemented ∧ s' = s) Ee s)
    (hs : PySem.W.findIn K (.ref C) "__eq__" = some (some (.ref f))) (hf : PySem.W.isFn K (.ref f) = true)
    (h : wpAny (model prog w) A (call (.ref f) [.ref x, y]) (PySem.W.CmpBack Q) Ee s) : wpAny (model prog w) A (richCompare .Eq y (.ref x)) Q Ee s := by
  have two : wpAny (model prog w) A (tryCompare y "__eq__" (.ref x)) (fun r s' => r = none ∧ s' = s) Ee s :=
    wpAny_tryCompare_declines hT slot (wpAny_mono hc (fun v s' z => ⟨z.1, rfl, z.2⟩) fun _ _ e => e)
  have one : wpAny (model prog w) A (tryCompare (.ref x) "__eq__" y) (fun r s' => ∃ v, r = some v ∧ Q v s') Ee s := by
    unfold tryCompare
    refine wpAny_bind (PySem.W.ifBound_K X I hs hf (wpAny_mono h (fun v s' hv => ?_) fun _ _ e => e))
    cases v <;> first | exact hv.elim | exact wpAny_pure ⟨_, rfl, hv⟩
  simp only [richCompare, cmpInfo_Eq, hT.oneThing_none]
  refine wpAny_holding (wpAny_bind (wpAny_cRoomFor hu ?_))
  refine wpAny_bind (wpAny_typeOf hT ?_)
  refine wpAny_bind (I.type.here ?_)
  split
  · refine wpAny_bind ((PySem.W.looks_mroIn X hno).here ?_)
    simp only [Bool.false_eq_true, if_false, Bool.not_false, if_true]
    refine wpAny_bind (m := tryCompare y _ (.ref x)) (wpAny_mono two (fun r s1 z => ?_) fun _ _ e => e)
    obtain ⟨z1, z2⟩ := z
    subst z1
    subst z2
    refine wpAny_bind (m := tryCompare (.ref x) _ y) (wpAny_mono one (fun r s2 z => ?_) fun _ _ e => e)
    obtain ⟨v, rfl, hq⟩ := z
    exact wpAny_pure hq
  · rename_i q
    exact absurd (by simp) q
end

variable {X : Cx} {T : Tab} {E : XK}
/-- what an own def of one or two things, called at a place of the interpreter's own, tells: a truth, nothing changed -/
theorem own_bool {c k : Nat} {mn : String} {m : DF} {f : Addr} {fd : FuncData} {ps : List Str} (F : FnOk X.prog X.w X.K X.mg X.base (CX X.prog X.w) k f fd ps (spD X.K T 2 m)) (hps : ps.length = 2) {A : Around} (hr : Room k A) (hb : Binds X.K fd ps []) {pins : List (Addr × Obj)} {s : Shared} {σ : L2.St} {H : Hp} {x y : V} {v u : Value} {Q : VK} (I : Inv X pins σ H s) (e0 : Env0 X.prog X.w X.K X.mg X.base A X.stack s H) (rx : RelV x v) (ry : RelV y u)
    {g : G} {a b : VV} {S : Sto} {d : Bool} (ra : Rv X.K T g a x) (rb : Rv X.K T g b y) (hS : Rs X.K T g S H) (hm : m [a, b] S = .ok (.p (.bl d)) S) (hq : ∀ g2 H2, g.le g2 → Rs X.K T g2 S H2 → Q (.bl d) H2) :
    wpAny (model X.prog X.w) A (call (.ref f) [v, u]) (fun r s' => ∃ H', r = .bool d ∧ Inv X pins σ H' s' ∧ Q (.bl d) H') X.xe s := by
  have hsp : spD X.K T 2 m [x, y] H (fun z H2 => z = .bl d ∧ Q (.bl d) H2) E0 := by
    refine ⟨rfl, g, [a, b], S, ⟨x, _, rfl, ra, y, [], rfl, rb, rfl⟩, hS, ?_⟩
    rw [hm]
    intro g2 z H2 l2 r2 s2
    cases r2
    exact ⟨rfl, hq g2 H2 l2 s2⟩
  have r2 : Vals [x, y] [v, u] := .cons rx (.cons ry .nil)
  refine wpAny_call (codeAny_mono (F.run A X.stack s H ⟨[v, u], []⟩ ([v, u] ++ []) [x, y] _ E0 hr e0 (hb s [v, u] I.kIn (by rw [hps]; rfl)) r2 hsp) fun r s' hq => ?_)
  cases r with
  | error e =>
    obtain ⟨_, _, _, _, _, _, _, _, _, _, _, _, z⟩ := hq
    exact z.elim
  | ok fl =>
    cases fl with
    | ret w =>
      obtain ⟨z, H', I', rz, rfl, q⟩ := I.after hq
      cases rz
      exact ⟨H', rfl, I', q⟩
    | next => exact False.elim hq
    | brk => exact False.elim hq
    | cont => exact False.elim hq
/-- the type of u is asked of: no class of c's below c -/
def okTag (isi : Tt → Tt → Option Bool) (c : Nat) : Option Tt → Bool
  | some t => match isi t (.cls c) with
    | some b => !b || t == .cls c
    | none => false
  | none => false
/-- what an own == of a thing of c tells of anything -/
def eqAb (isi : Tt → Tt → Option Bool) (c : Nat) (m : DF) (v u : VV) (S : Sto) : Option Bool := match insOf S v with
  | some (c1, _) => if c1 = c ∧ okTag isi c (tagOf S u) = true then match m [v, u] S with
    | .ok (.p (.bl b)) S2 => if Sto.same S S2 = true then some b else none
    | _ => none
    else none
  | none => none
theorem eqAb_of {isi : Tt → Tt → Option Bool} {c : Nat} {m : DF} {v u : VV} {S : Sto} {b : Bool} (h : eqAb isi c m v u S = some b) : ∃ fs, insOf S v = some (c, fs) ∧ okTag isi c (tagOf S u) = true ∧ m [v, u] S = .ok (.p (.bl b)) S := by
  unfold eqAb at h
  cases e1 : insOf S v with
  | none => simp only [e1] at h; cases h
  | some cf =>
    obtain ⟨c1, fs⟩ := cf
    simp only [e1] at h
    split at h
    · rename_i hc
      obtain ⟨rfl, ht⟩ := hc
      refine ⟨fs, rfl, ht, ?_⟩
      revert h
      cases m [v, u] S with
      | no => exact nofun
      | exc c fs S1 => exact nofun
      | ok w S1 =>
        cases w with
        | ob i => exact nofun
        | p w =>
          cases w with
          | bl d =>
            intro h
            simp only at h
            by_cases hn : Sto.same S S1 = true
            · rw [if_pos hn] at h
              obtain rfl := Sto.same_eq hn
              cases h; rfl
            · rw [if_neg hn] at h; cases h
          | _ => exact nofun
    · cases h
theorem looks_tag {isi : Tt → Tt → Option Bool} (hi : IsiOk X.K T isi) {c : Nat} {pins : List (Addr × Obj)} {s : Shared} {σ : L2.St} {H : Hp} {y : V} {u : Value} (I : Inv X pins σ H s) (ry : RelV y u) {g : G} {b : VV} {S : Sto} (rb : Rv X.K T g b y) (hS : Rs X.K T g S H)
    (h : okTag isi c (tagOf S b) = true) : ∃ tb, PySem.W.Looks (model X.prog X.w) s.heap (typeOf u) tb ∧ PySem.W.notFirst X.K (T.C c) tb = true := by
  cases e : tagOf S b with
  | none => rw [e] at h; cases h
  | some t =>
    rw [e] at h
    simp only [okTag] at h
    cases e2 : isi t (.cls c) with
    | none => simp only [e2] at h; cases h
    | some d =>
      simp only [e2] at h
      obtain ⟨P, kx, hp, _⟩ := kit_of I ry (tag_ty hi hS e e2 rb)
      refine ⟨t.v T, kx.ty _ _ I.kIn hp, ?_⟩
      unfold PySem.W.notFirst
      by_cases ht : t = .cls c
      · subst ht
        simp [Tt.v]
      · have hd : d = false := by
          cases d with
          | false => rfl
          | true => simp at h; exact absurd h ht
        subst hd
        have hk := hi.kit t (.cls c) false e2
        unfold PySem.W.kitOne at hk
        split at hk
        · cases hk
        · unfold PySem.W.kitCls at hk
          simp only [Tt.v] at hk ⊢
          split at hk
          · rw [Bool.or_eq_true]; exact .inr (beq_iff_eq.mpr hk)
          · cases hk
theorem eqA_at {isi : Tt → Tt → Option Bool} (hi : IsiOk X.K T isi) {c k : Nat} {m : DF} (F : MtE X.prog X.w X.K X.mg X.base T c "__eq__" k 2 [] m) {A : Around} (hr : Room k A) {pins : List (Addr × Obj)} {s : Shared} {σ : L2.St} {H : Hp} {x y : V} {v u : Value} {Q : VK} (I : Inv X pins σ H s) (e0 : Env0 X.prog X.w X.K X.mg X.base A X.stack s H) (rx : RelV x v) (ry : RelV y u)
    {g : G} {a b : VV} {S : Sto} {d : Bool} (ra : Rv X.K T g a x) (rb : Rv X.K T g b y) (hS : Rs X.K T g S H) (h : eqAb isi c m a b S = some d) (hq : ∀ g2 H2, g.le g2 → Rs X.K T g2 S H2 → Q (.bl d) H2) :
    wpAny (model X.prog X.w) A (richCompare .Eq v u) (fun r s' => ∃ H', r = .bool d ∧ Inv X pins σ H' s' ∧ Q (.bl d) H') X.xe s := by
  obtain ⟨f, fd, ps, dvs, dus, hp, F, hc, hM, hb, hd, hds⟩ := F
  have hds' : dvs = [] := hds X.K T fun _ => none
  subst hds'
  cases hd
  obtain ⟨fs, e1, ht, hm⟩ := eqAb_of h
  obtain ⟨ax, dx, vs, rfl, ha, hfs⟩ := hS.ins e1 ra
  obtain ⟨tb, L, nf⟩ := looks_tag hi I ry rb hS ht
  cases rx
  obtain ⟨mA, O, _⟩ := ins_get I.hok ha
  obtain ⟨od, J, _⟩ := O.look
  obtain ⟨mm, Fr'⟩ := I.fr
  refine PySem.W.cmp_K (op := .Eq) hr.units0 Fr' I.ok.mod.kin J L nf hM.at_ hM.fn ?_
  exact wpAny_mono (own_bool (c := c) (mn := "__eq__") F (by simpa using hp) hr hb I e0 (show RelV (V.ref ax) (Value.ref ax) from rfl) ry ra rb hS hm hq) (fun r s' ⟨H', e, I', q⟩ => by subst e; exact ⟨H', rfl, I', q⟩) fun _ _ e => e
def mEqA (isi : Tt → Tt → Option Bool) (c : Nat) (m : DF) : M2 := fun v u S => (eqAb isi c m v u S).map fun b => .p (.bl b)
theorem o_eqA {isi : Tt → Tt → Option Bool} (hi : IsiOk X.K T isi) {c k : Nat} {m : DF} (F : MtE X.prog X.w X.K X.mg X.base T c "__eq__" k 2 [] m) (hr : Room k X.A) : OpM X T (compareOp .Eq) (mEqA isi c m) := by
  intro pins s σ H x y v u Q I rx ry ⟨g, a, b, S, ra, rb, hS, hp2⟩
  show wpAny (model X.prog X.w) X.A (richCompare .Eq v u) (EP X pins σ Q) X.xe s
  unfold mEqA at hp2
  cases e : eqAb isi c m a b S with
  | none => rw [e] at hp2; exact hp2.elim
  | some d =>
    rw [e] at hp2
    exact wpAny_mono (eqA_at hi F hr I I.env0 rx ry ra rb hS e (Q := Q) fun g2 H2 l2 s2 => hp2 g2 _ H2 l2 rfl s2) (fun r s' ⟨H', e, I', q⟩ => ⟨.bl d, H', I', e, q⟩) fun _ _ e => e
def mNeA (isi : Tt → Tt → Option Bool) (c : Nat) (m : DF) : M2 := fun v u S => (eqAb isi c m v u S).map fun b => .p (.bl (!b))
/-- a class that has no != of its own -/
def NoNe (K : PySem.W.Frag) (C : Addr) : Prop := PySem.W.findIn K (.ref C) "__ne__" = some (some (.builtin "object.__ne__")) ∧ PySem.W.mroIn K C (.type "object") = some true ∧ PySem.W.mroIn K C (.type "NoneType") = some false ∧ PySem.W.mroIn K C (.type "int") = some false
theorem o_neA {isi : Tt → Tt → Option Bool} (hi : IsiOk X.K T isi) {c k : Nat} {m : DF} (hN : NoNe X.K (T.C c)) (F : MtE X.prog X.w X.K X.mg X.base T c "__eq__" k 2 [] m) (hr : Room (k + 1) X.A) : OpM X T (compareOp .NotEq) (mNeA isi c m) := by
  intro pins s σ H x y v u Q I rx ry ⟨g, a, b, S, ra, rb, hS, hp2⟩
  show wpAny (model X.prog X.w) X.A (richCompare .NotEq v u) (EP X pins σ Q) X.xe s
  unfold mNeA at hp2
  cases e : eqAb isi c m a b S with
  | none => rw [e] at hp2; exact hp2.elim
  | some d =>
    rw [e] at hp2
    obtain ⟨f, fd, ps, dvs, dus, hp, F, hc, hM, hb, hd, hds⟩ := F
    have hds' : dvs = [] := hds X.K T fun _ => none
    subst hds'
    cases hd
    obtain ⟨fs, e1, ht, hm⟩ := eqAb_of e
    obtain ⟨ax, dx, vs, rfl, ha, hfs⟩ := hS.ins e1 ra
    obtain ⟨tb, L, nf⟩ := looks_tag hi I ry rb hS ht
    cases rx
    obtain ⟨mA, O, _⟩ := ins_get I.hok ha
    obtain ⟨od, J, _⟩ := O.look
    refine ne_K (by have := hr.in1.units0; exact this) I.kIn J L nf hM.at_ hM.fn hN.1 hN.2.1 ?_
    exact wpAny_mono (own_bool (c := c) (mn := "__eq__") F (by simpa using hp) hr.in1 hb I I.env0.in1 (show RelV (V.ref ax) (Value.ref ax) from rfl) ry ra rb hS hm (Q := fun _ H2 => Q (.bl (!d)) H2) fun g2 H2 l2 s2 => hp2 g2 _ H2 l2 rfl s2) (fun r s' ⟨H', e, I', q⟩ => by subst e; exact ⟨d, rfl, .bl (!d), H', I', rfl, q⟩) fun _ _ e => e
end Dn

set_option maxRecDepth 100000
set_option maxHeartbeats 1000000
namespace Dn
open PySem PySem.Spec PyProof.Rows L2
/-! ### a thing in a list some things of which are own -/
section
open AutoSeq1 (wpAny_loadPart')
open MeetsSeq MeetsSeq2 MeetsSeq3 SeqRoads2
variable {P : Program} {w : World} {A : Around} {Ee : Value → Shared → Prop}
/-- at each turn the list is read anew -/
def InI (P : Program) (w : World) (A : Around) (Ee : Value → Shared → Prop) (l : Addr) (x : Value) (N : Nat) (J : Nat → Shared → Prop) (Qt : Shared → Prop) : Prop :=
  ∀ i s, J i s → ∃ (items : Array Value), s.heap.IsList l items ∧ items.size = N ∧
    ∀ (h1 : i < items.size), wpAny (model P w) A.in1 (eqBool items[i] x) (fun r s' => (r = true ∧ Qt s') ∨ (r = false ∧ J (i + 1) s')) Ee s
theorem in_loop (l : Addr) (x : Value) (N : Nat) (J : Nat → Shared → Prop) {Qt Qf : Shared → Prop} (hl : InI P w A Ee l x N J Qt) (fin : ∀ s, J N s → Qf s) (k : Nat) :
    ∀ i : Nat, N - i = k → i ≤ N → ∀ s, J i s →
      wpAny (model P w) A.in1 (Builtin.«list.__contains__.loop» ⟨[.ref l, x, rawInt i], []⟩) (GQ.FinOf P w A (wants (fun v s' => (v = .bool true ∧ Qt s') ∨ (v = .bool false ∧ Qf s')) Ee)) (fun e s' => wants (fun v s' => (v = .bool true ∧ Qt s') ∨ (v = .bool false ∧ Qf s')) Ee (.error e) s') s := by
  induction k with
  | zero =>
    intro i hk hi s h
    obtain ⟨items, hl0, hs1, _⟩ := hl _ _ h
    obtain ⟨⟨cls, dd, data, sl⟩, hl1, hc0, n, hd0⟩ := id hl0
    simp only at hc0 hd0
    subst hc0 hd0
    have hi' : i = N := by omega
    have hR : Qf s := fin s (hi' ▸ h)
    obtain ⟨hp, g, d, tk, os⟩ := s
    wp_walk using wpAny_loadPart' hl1
    have hi1 : items[((i : Nat) : Int).toNat]? = none := by simp; omega
    rw [hi1]
    wp_walk using wpAny_loadPart' hl1
    exact .inr ⟨rfl, hR⟩
  | succ k ih =>
    intro i hk hi s h
    obtain ⟨items, hl0, hs1, turn⟩ := hl _ _ h
    obtain ⟨⟨cls, dd, data, sl⟩, hl1, hc0, n, hd0⟩ := id hl0
    simp only at hc0 hd0
    subst hc0 hd0
    have hlt : i < items.size := by omega
    have ht := turn hlt
    obtain ⟨hp, g, d, tk, os⟩ := s
    wp_walk using wpAny_loadPart' hl1
    have hi1 : items[((i : Nat) : Int).toNat]? = some items[i] := by simp [hlt]
    have hc : ((i : Int) + 1) = ((i + 1 : Nat) : Int) := by omega
    rw [hi1]
    refine wpAny_bind (wpAny_mono ht (fun r s2 h2 => ?_) fun _ _ x => x)
    rcases h2 with ⟨hr, h2⟩ | ⟨hr, h2⟩
    · subst hr
      exact wpAny_pure (.inl ⟨rfl, h2⟩)
    · subst hr
      have hrec := ih (i + 1) (by omega) (by omega) s2 h2
      obtain ⟨hp2, g2, d2, tk2, os2⟩ := s2
      wp_walk
      rw [hc]
      exact ⟨plainId_quiet plain_contains_loop _, codeAny_builtin entry_contains_loop (by
        rw [Around.under_plainId plain_contains_loop _]
        exact hrec)⟩
theorem in_list (l : Addr) (x : Value) (N : Nat) (J : Nat → Shared → Prop) {Qt Qf : Shared → Prop} (hl : InI P w A Ee l x N J Qt) (fin : ∀ s, J N s → Qf s) {s : Shared} (h : J 0 s) :
    wpAny (model P w) A (contains (.ref l) x) (fun r s' => (r = true ∧ Qt s') ∨ (r = false ∧ Qf s')) Ee s := by
  obtain ⟨items, hl0, hs1, _⟩ := hl _ _ h
  obtain ⟨⟨cls, dd, data, sl⟩, hl1, hc0, n, hd0⟩ := id hl0
  simp only at hc0 hd0
  subst hc0 hd0
  have hT : s.TypeIs (.ref l) "list" := ⟨_, hl1, rfl⟩
  have hrec := in_loop (A := A) l x N J hl fin _ 0 rfl (Nat.zero_le _) s h
  refine wpAny_contains_slot hT F.slot_list_contains (wpAny_mono (Q := fun v s' => (v = .bool true ∧ Qt s') ∨ (v = .bool false ∧ Qf s')) (GQ.call_here F.slot_list_contains hT F.entry_list_contains (F.args_list_contains_2 _ _) ?_) (fun v s' hv => ?_) fun _ _ e => e)
  · obtain ⟨hp, g, d, tk, os⟩ := s
    wp_walk using wpAny_loadPart' hl1
    refine ⟨plainId_quiet plain_contains_loop _, codeAny_builtin entry_contains_loop ?_⟩
    rw [Around.under_plainId plain_contains_loop _]
    exact hrec
  · rcases hv with ⟨rfl, q⟩ | ⟨rfl, q⟩
    · exact wpAny_truthy_bool (.inl ⟨rfl, q⟩)
    · exact wpAny_truthy_bool (.inr ⟨rfl, q⟩)
end

/-! ### things that cannot be one -/
mutual
def dif : PV → PV → Bool
  | .int a, .int b => a != b
  | .str a, .str b => a != b
  | .tup xs, .tup ys => difL xs ys
  | .ins _ fs, .ins _ gs => difF fs gs
  | _, _ => false
def difL : List PV → List PV → Bool
  | [], [] => false
  | x :: xs, y :: ys => dif x y || difL xs ys
  | _, _ => true
def difF : List (String × PV) → List (String × PV) → Bool
  | (n, x) :: fs, (m, y) :: gs => (n == m && dif x y) || difF fs gs
  | _, _ => false
end
section
variable {K : PySem.W.Frag} {T : Tab} {F : Hp}
mutual
theorem dif_no : ∀ (v u : PV) (x : V), dif v u = true → Rp K T F v x → Rp K T F u x → False
  | .int a, .int b, x, h, h1, h2 => by
    obtain rfl : x = .int a := h1
    have : V.int a = V.int b := h2
    cases this
    simp [dif] at h
  | .str a, .str b, x, h, h1, h2 => by
    obtain rfl : x = .str a := h1
    have : V.str a = V.str b := h2
    cases this
    simp [dif] at h
  | .tup xs, .tup ys, x, h, ⟨a, vs, e, q, r⟩, ⟨a2, ws, e2, q2, r2⟩ => by
    subst e
    cases e2
    rw [q] at q2
    cases q2
    exact difL_no xs ys vs h r r2
  | .ins c fs, .ins c2 gs, x, h, ⟨a, dx, vs, e, q, r⟩, ⟨a2, dx2, ws, e2, q2, r2⟩ => by
    subst e
    cases e2
    rw [q] at q2
    injection (Option.some.inj q2) with _ _ e3
    subst e3
    exact difF_no fs gs vs h r r2
theorem difL_no : ∀ (xs ys : List PV) (vs : List V), difL xs ys = true → RpL K T F xs vs → RpL K T F ys vs → False
  | [], [], vs, h, _, _ => by simp [difL] at h
  | [], y :: ys, vs, _, h1, ⟨v, r, e, _, _⟩ => by cases h1; cases e
  | x :: xs, [], vs, _, ⟨v, r, e, _, _⟩, h2 => by cases h2; cases e
  | x :: xs, y :: ys, vs, h, ⟨v, r, e, h1, h2⟩, ⟨v2, r2, e2, h3, h4⟩ => by
    subst e
    cases e2
    rw [difL, Bool.or_eq_true] at h
    rcases h with h | h
    · exact dif_no x y v h h1 h3
    · exact difL_no xs ys r h h2 h4
theorem difF_no : ∀ (xs ys : List (String × PV)) (vs : List (Str × V)), difF xs ys = true → RpF K T F xs vs → RpF K T F ys vs → False
  | [], _, vs, h, _, _ => by simp [difF] at h
  | (n, x) :: xs, [], vs, h, _, _ => by simp [difF] at h
  | (n, x) :: xs, (m, y) :: ys, vs, h, ⟨v, r, e, h1, h2⟩, ⟨v2, r2, e2, h3, h4⟩ => by
    subst e
    injection e2 with e3 e4
    injection e3 with _ e5
    subst e4 e5
    rw [difF, Bool.or_eq_true] at h
    rcases h with h | h
    · rw [Bool.and_eq_true] at h
      exact dif_no x y v h.2 h1 h3
    · exact difF_no xs ys r h h2 h4
end
end
/-- y, own, and v are two things -/
def twoOf (S : Sto) (y : PV) (v : VV) : Bool := match v with
  | .p (.scr _) => false
  | _ => match tagOf S v with
  | some (.ty _) => true
  | _ => match v with
    | .p v => dif y v
    | .ob _ => false
variable {X : Cx} {T : Tab} {E : XK}
theorem two_no {S : Sto} {c : Nat} {fs : List (String × PV)} {v : VV} {g : G} {H : Hp} (h : twoOf S (.ins c fs) v = true) {x : V} (h1 : Rp X.K T g.F (.ins c fs) x) (hS : Rs X.K T g S H) (h2 : Rv X.K T g v x) : False := by
  obtain ⟨a, dx, vs, rfl, q, r⟩ := id h1
  have q := hS.fz _ _ q
  unfold twoOf at h
  split at h
  · cases h
  rename_i hsc
  split at h
  · rename_i n et
    cases v with
    | p v =>
      cases v with
      | non => cases h2
      | bl k => cases h2
      | int k => cases h2
      | str k => cases h2
      | tup xs => obtain ⟨a2, ws, e2, q2, _⟩ := h2; cases e2; rw [hS.fz _ _ q2] at q; cases q
      | lst xs => obtain ⟨a2, ws, e2, q2, _⟩ := h2; cases e2; rw [hS.fz _ _ q2] at q; cases q
      | scr xs => exact (hsc xs rfl).elim
      | ins c2 gs => cases et
      | cls c => cases et
      | ty n => cases et
      | exn => cases et
      | dic t kvs => cases t <;> (obtain ⟨a2, ws, e2, q2, _⟩ := h2; cases e2; rw [hS.fz _ _ q2] at q; cases q)
    | ob i =>
      obtain ⟨a2, ea, e2⟩ := h2
      cases e2
      unfold tagOf at et
      cases q1 : S[i]? with
      | none => simp [q1] at et
      | some so =>
        have h0 := hS.at_ i so a q1 ea
        cases so with
        | lst xs => obtain ⟨vs, h1, _⟩ := h0; rw [h1] at q; cases q
        | ins c fs => simp [q1] at et
        | tup xs => obtain ⟨vs, h1, _⟩ := h0; rw [h1] at q; cases q
        | dic t kvs => cases t <;> (obtain ⟨vs, h1, _⟩ := h0; rw [h1] at q; cases q)
  · cases v with
    | p v => exact dif_no _ v _ h h1 h2
    | ob i => cases h
end Dn

set_option maxRecDepth 100000
set_option maxHeartbeats 1000000
namespace Dn
open PySem PySem.Spec PyProof.Rows L2
variable {X : Cx} {T : Tab} {E : XK} {e o : Expr} {mo me : DE} {pos p : Pos}
/-- a thing y of a list, == v? -/
def eqI (isi : Tt → Tt → Option Bool) (c : Nat) (m : DF) (v : VV) (S : Sto) : PV → Option Bool
  | .ins c1 fs => (eqAb isi c m (.p (.ins c1 fs)) v S).bind fun b => if b = true ∨ twoOf S (.ins c1 fs) v = true then some b else none
  | .non => eqAb isi c m v (.p .non) S
  | .int i => eqAb isi c m v (.p (.int i)) S
  | _ => none
def inAb (isi : Tt → Tt → Option Bool) (c : Nat) (m : DF) (v : VV) (S : Sto) : List PV → Option Bool
  | [] => some false
  | y :: ys => (eqI isi c m v S y).bind fun b => if b = true then some true else inAb isi c m v S ys
theorem eqBool_of {P : Program} {w : World} {A : Around} {Ee : Value → Shared → Prop} {s : Shared} {a : Value} {x : Addr} {Q : Bool → Shared → Prop} (hne : (a == .ref x) = false) (h : wpAny (model P w) A (richCompare .Eq a (.ref x)) (fun v s' => ∃ r, v = .bool r ∧ Q r s') Ee s) : wpAny (model P w) A (eqBool a (.ref x)) Q Ee s := by
  unfold eqBool
  refine wpAny_holding ?_
  refine wpAny_ite_split (fun hab => absurd hab (by rw [hne]; decide)) (fun _ => ?_)
  cases a <;> (refine wpAny_bind (wpAny_mono h (fun v s' hv => ?_) fun _ _ x => x); obtain ⟨r, rfl, q⟩ := hv; exact wpAny_truthy_bool q)
theorem eqBool_ofL {P : Program} {w : World} {A : Around} {Ee : Value → Shared → Prop} {s : Shared} {b : Value} {x : Addr} {Q : Bool → Shared → Prop} (hne : (Value.ref x == b) = false) (h : wpAny (model P w) A (richCompare .Eq (.ref x) b) (fun v s' => ∃ r, v = .bool r ∧ Q r s') Ee s) : wpAny (model P w) A (eqBool (.ref x) b) Q Ee s := by
  unfold eqBool
  refine wpAny_holding ?_
  refine wpAny_ite_split (fun hab => absurd hab (by rw [hne]; decide)) (fun _ => ?_)
  refine wpAny_bind (wpAny_mono h (fun v s' hv => ?_) fun _ _ x => x)
  obtain ⟨r, rfl, q⟩ := hv
  exact wpAny_truthy_bool q
theorem back_at {isi : Tt → Tt → Option Bool} {c k : Nat} {m : DF} (hN : NoNe X.K (T.C c)) (F : MtE X.prog X.w X.K X.mg X.base T c "__eq__" k 2 [] m) {A : Around} (hr : Room k A) {pins : List (Addr × Obj)} {s : Shared} {σ : L2.St} {H : Hp} {x y : V} {v u : Value} {Q : VK} (I : Inv X pins σ H s) (e0 : Env0 X.prog X.w X.K X.mg X.base A X.stack s H) (rx : RelV x v) (ry : RelV y u)
    {g : G} {a : VV} {b : PV} {S : Sto} {d : Bool} (ra : Rv X.K T g a x) (rb : Rp X.K T g.F b y) (hS : Rs X.K T g S H) (hb0 : b = .non ∨ ∃ i, b = .int i) (h : eqAb isi c m a (.p b) S = some d) (hq : ∀ g2 H2, g.le g2 → Rs X.K T g2 S H2 → Q (.bl d) H2) :
    wpAny (model X.prog X.w) A (eqBool u v) (fun r s' => r = d ∧ ∃ H', Inv X pins σ H' s' ∧ Q (.bl d) H') X.xe s := by
  obtain ⟨f, fd, ps, dvs, dus, hp, F, hc, hM, hb, hd, hds⟩ := F
  have hds' : dvs = [] := hds X.K T fun _ => none
  subst hds'
  cases hd
  obtain ⟨fs, e1, ht, hm⟩ := eqAb_of h
  obtain ⟨ax, dx, vs, rfl, ha, hfs⟩ := hS.ins e1 ra
  cases rx
  obtain ⟨mA, O, _⟩ := ins_get I.hok ha
  obtain ⟨od, J, _⟩ := O.look
  have key : wpAny (model X.prog X.w) A (call (.ref f) [.ref ax, u]) (PySem.W.CmpBack fun r s' => ∃ b, r = .bool b ∧ b = d ∧ ∃ H', Inv X pins σ H' s' ∧ Q (.bl d) H') X.xe s :=
    wpAny_mono (own_bool (c := c) (mn := "__eq__") F (by simpa using hp) hr hb I e0 (show RelV (V.ref ax) (Value.ref ax) from rfl) ry ra (b := .p b) rb hS hm hq) (fun r s' ⟨H', e, I', q⟩ => by subst e; exact ⟨d, rfl, rfl, H', I', q⟩) fun _ _ e => e
  rcases hb0 with rfl | ⟨i, rfl⟩
  · obtain rfl : y = .non := rb
    cases ry
    refine eqBool_of rfl (rc_back hr.units0 I.kIn J rfl hN.2.2.1 PySem.F.slot_NoneType_eq ?_ hM.at_ hM.fn key)
    exact call_gives PySem.F.slot_NoneType_eq rfl PySem.F.entry_NoneType_eq (PySem.F.args_NoneType_eq_2 _ _) (SeqAt.NoneType___eq___none_ref_0 ax) ⟨rfl, rfl⟩
  · obtain rfl : y = .int i := rb
    obtain ⟨tk, rfl⟩ := ry
    refine eqBool_of rfl (rc_back hr.units0 I.kIn J (typeIs_int s i tk) hN.2.2.2 PySem.F.slot_int_eq ?_ hM.at_ hM.fn key)
    exact wpAny_call (codeAny_call_builtin PySem.F.slot_int_eq.plain PySem.F.entry_int_eq (PySem.F.slot_int_eq.check _ _ _ _ _ _ _ _ (typeIs_int s i tk) (PySem.F.args_int_eq_2 _ _) (int_eq_declines_inst i tk dx O.obj ⟨rfl, rfl⟩)))

theorem item_at {isi : Tt → Tt → Option Bool} (hi : IsiOk X.K T isi) {c k : Nat} {m : DF} (hN : NoNe X.K (T.C c)) (F : MtE X.prog X.w X.K X.mg X.base T c "__eq__" k 2 [] m) {A : Around} (hr : Room k A) {pins : List (Addr × Obj)} {s : Shared} {σ : L2.St} {H : Hp} {x y : V} {v u : Value} {Q : VK} (I : Inv X pins σ H s) (e0 : Env0 X.prog X.w X.K X.mg X.base A X.stack s H) (rx : RelV x v) (ry : RelV y u)
    {g : G} {a : VV} {b : PV} {S : Sto} {d : Bool} (ra : Rv X.K T g a x) (rb : Rp X.K T g.F b y) (hS : Rs X.K T g S H) (h : eqI isi c m a S b = some d) (hq : ∀ g2 H2, g.le g2 → Rs X.K T g2 S H2 → Q (.bl d) H2) :
    wpAny (model X.prog X.w) A (eqBool u v) (fun r s' => r = d ∧ ∃ H', Inv X pins σ H' s' ∧ Q (.bl d) H') X.xe s := by
  unfold eqI at h
  split at h
  · rename_i c1 fs
    cases e : eqAb isi c m (.p (.ins c1 fs)) a S with
    | none => rw [e] at h; cases h
    | some b0 =>
      rw [e] at h
      have h : (if b0 = true ∨ twoOf S (.ins c1 fs) a = true then some b0 else none) = some d := h
      split at h
      · rename_i hor
        cases h
        obtain ⟨ay, dy, vy, rfl, hy, _⟩ := id rb
        cases ry
        have key := eqA_at hi F hr I e0 (show RelV (V.ref ay) (Value.ref ay) from rfl) rx (a := .p (.ins c1 fs)) (b := a) rb ra hS e hq
        by_cases hv : v = Value.ref ay
        · subst hv
          have hx : x = .ref ay := by
            cases x <;> first | (cases rx; rfl) | (obtain ⟨_, z⟩ := rx; cases z) | cases rx
          subst hx
          have hd : d = true := by
            rcases hor with h | h
            · exact h
            · exact (two_no h rb hS ra).elim
          subst hd
          exact SeqAt.EqAt.same (A := A) (s := s) (.ref ay) X.prog X.w X.xe _ ⟨rfl, H, I, hq g H (G.le.refl g) hS⟩
        · exact eqBool_ofL (by simpa using fun z => hv z.symm) (wpAny_mono key (fun r s' ⟨H', e, I', q⟩ => ⟨_, e, rfl, H', I', q⟩) fun _ _ e => e)
      · cases h
  · exact back_at hN F hr I e0 rx ry ra rb hS (.inl rfl) h hq
  · exact back_at hN F hr I e0 rx ry ra rb hS (.inr ⟨_, rfl⟩) h hq
  · cases h

theorem inA_at {isi : Tt → Tt → Option Bool} (hi : IsiOk X.K T isi) {c k : Nat} {m : DF} (hN : NoNe X.K (T.C c)) (F : MtE X.prog X.w X.K X.mg X.base T c "__eq__" k 2 [] m) (hr : Room (k + 1) X.A) {pins : List (Addr × Obj)} {s : Shared} {σ : L2.St} {H : Hp} {x y : V} {v u : Value} (I : Inv X pins σ H s) (rx : RelV x v) (ry : RelV y u)
    {g : G} {a b : VV} {S : Sto} {ys : List PV} {d : Bool} {Q : Hp → Prop} (ra : Rv X.K T g a x) (rb : Rv X.K T g b y) (hS : Rs X.K T g S H) (hl : asList S b = some ys) (h : inAb isi c m a S ys = some d) (hq : ∀ g2 H2, g.le g2 → Rs X.K T g2 S H2 → Q H2) :
    wpAny (model X.prog X.w) X.A (contains u v) (fun r s' => r = d ∧ ∃ H', Inv X pins σ H' s' ∧ Q H') X.xe s := by
  obtain ⟨l, ws, rfl, h1, h2⟩ := hS.lst hl rb
  cases ry
  let J : Nat → Shared → Prop := fun i s' => inAb isi c m a S (ys.drop i) = some d ∧ ∃ g2 H2, g.le g2 ∧ Inv X pins σ H2 s' ∧ Rs X.K T g2 S H2
  refine wpAny_mono (in_list l v ys.length J (Qt := fun s' => d = true ∧ ∃ H', Inv X pins σ H' s' ∧ Q H') (Qf := fun s' => d = false ∧ ∃ H', Inv X pins σ H' s' ∧ Q H') ?_ ?_ ⟨by rw [List.drop_zero]; exact h, g, H, G.le.refl g, I, hS⟩) (fun r s' z => ?_) fun _ _ e => e
  · intro i s1 ⟨hi1, g2, H2, l2, I2, s2⟩
    obtain ⟨l', ws', e', h1', h2'⟩ := s2.lst hl (Rv.mono X.K T l2.s rb)
    cases e'
    obtain ⟨its, rv, pl, hz⟩ := I2.list (.inl (.inl h1'))
    refine ⟨its.toArray, pl.isList, by rw [List.size_toArray, ← rv.length, h2'.length], fun hlt => ?_⟩
    have hiL : i < ys.length := by rw [List.size_toArray, ← rv.length, h2'.length] at hlt; exact hlt
    obtain ⟨w0, e0, r0⟩ := h2'.get (i := i) (v := ys[i]) (List.getElem?_eq_getElem hiL)
    obtain ⟨u0, e1, rr⟩ := paired_get rv e0
    have eu : its.toArray[i] = u0 := by
      have : its[i]? = some its[i] := List.getElem?_eq_getElem (by simpa using hlt)
      rw [this] at e1
      simpa using e1
    rw [eu]
    rw [List.drop_eq_getElem_cons hiL, inAb] at hi1
    cases e : eqI isi c m a S ys[i] with
    | none => rw [e] at hi1; cases hi1
    | some b0 =>
      rw [e] at hi1
      have key := item_at hi hN F hr.in1 I2 I2.env0.in1 rx rr (Q := fun _ H3 => ∃ g3, g.le g3 ∧ Rs X.K T g3 S H3) (Rv.mono X.K T l2.s ra) r0 s2 e (fun g3 H3 l3 s3 => ⟨g3, l2.trans l3, s3⟩)
      refine wpAny_mono key (fun r s' ⟨er, H3, I3, g3, l3, s3⟩ => ?_) fun _ _ e => e
      subst er
      cases r with
      | true =>
        have hi1 : (some true : Option Bool) = some d := hi1
        cases hi1
        exact .inl ⟨rfl, rfl, H3, I3, hq g3 H3 l3 s3⟩
      | false => exact .inr ⟨rfl, hi1, g3, H3, l3, I3, s3⟩
  · intro s1 ⟨hi1, g2, H2, l2, I2, s2⟩
    rw [List.drop_length] at hi1
    cases hi1
    exact ⟨rfl, H2, I2, hq g2 H2 l2 s2⟩
  · rcases z with ⟨e, e2, q⟩ | ⟨e, e2, q⟩
    · exact ⟨by rw [e, e2], q⟩
    · exact ⟨by rw [e, e2], q⟩
def mInA (isi : Tt → Tt → Option Bool) (c : Nat) (m : DF) (neg : Bool) : M2 := fun v u S => (asList S u).bind fun ys => (inAb isi c m v S ys).map fun b => .p (.bl (if neg then !b else b))
theorem o_inA {isi : Tt → Tt → Option Bool} (hi : IsiOk X.K T isi) {c k : Nat} {m : DF} (hN : NoNe X.K (T.C c)) (F : MtE X.prog X.w X.K X.mg X.base T c "__eq__" k 2 [] m) (hr : Room (k + 1) X.A) : OpM X T (compareOp .In) (mInA isi c m false) := by
  intro pins s σ H x y v u Q I rx ry ⟨g, a, b, S, ra, rb, hS, hp⟩
  show wpAny _ X.A (do return Value.bool (← contains u v)) _ _ s
  unfold mInA at hp
  cases e1 : asList S b with
  | none => rw [e1] at hp; exact hp.elim
  | some ys =>
    rw [e1, Option.bind_some] at hp
    cases e2 : inAb isi c m a S ys with
    | none => rw [e2] at hp; exact hp.elim
    | some d =>
      rw [e2] at hp
      refine wpAny_bind (wpAny_mono (inA_at hi hN F hr I rx ry ra rb hS e1 e2 (Q := fun H2 => Q (.bl d) H2) fun g2 H2 l2 s2 => hp g2 _ H2 l2 rfl s2) (fun r s' ⟨e, H', I', q⟩ => ?_) fun _ _ e => e)
      subst e
      exact wpAny_pure ⟨.bl r, H', I', rfl, q⟩
theorem o_notinA {isi : Tt → Tt → Option Bool} (hi : IsiOk X.K T isi) {c k : Nat} {m : DF} (hN : NoNe X.K (T.C c)) (F : MtE X.prog X.w X.K X.mg X.base T c "__eq__" k 2 [] m) (hr : Room (k + 1) X.A) : OpM X T (compareOp .NotIn) (mInA isi c m true) := by
  intro pins s σ H x y v u Q I rx ry ⟨g, a, b, S, ra, rb, hS, hp⟩
  show wpAny _ X.A (do return Value.bool (!(← contains u v))) _ _ s
  unfold mInA at hp
  cases e1 : asList S b with
  | none => rw [e1] at hp; exact hp.elim
  | some ys =>
    rw [e1, Option.bind_some] at hp
    cases e2 : inAb isi c m a S ys with
    | none => rw [e2] at hp; exact hp.elim
    | some d =>
      rw [e2] at hp
      refine wpAny_bind (wpAny_mono (inA_at hi hN F hr I rx ry ra rb hS e1 e2 (Q := fun H2 => Q (.bl (!d)) H2) fun g2 H2 l2 s2 => hp g2 _ H2 l2 rfl s2) (fun r s' ⟨e, H', I', q⟩ => ?_) fun _ _ e => e)
      subst e
      exact wpAny_pure ⟨.bl (!r), H', I', rfl, q⟩
end Dn

set_option maxRecDepth 100000
set_option maxHeartbeats 1000000
namespace Dn
open PySem PySem.Spec PyProof.Rows L2
variable {X : Cx} {T : Tab} {E : XK} {e o : Expr} {mo me : DE} {pos p : Pos}
/-! ### repr of an own instance -/
def dReprO (c : Nat) (m : DF) (mo : DE) : DE := fun env S => (mo env S).bind fun o S1 => match insOf S1 o with
  | some (c', _) => if c' = c then match m [o] S1 with
    | .ok (.p (.str a)) S2 => .ok (.p (.str a)) S2
    | _ => .no
    else .no
  | none => .no
theorem c_reprO {c k : Nat} {m : DF} {p : Pos} (F : MtE X.prog X.w X.K X.mg X.base T c "__repr__" k 1 [] m) (hr : Room (k + 1) X.A) (ho : PE X o (tD X.K T E mo)) (hm : X.mg "repr" = none) (hg : Gl X "repr" := by rfl) (h1 : starEach [o] X.env = (false, eval o X.env) :: starEach [] X.env := by rfl) (hpl : (backTo pos (starEach [] X.env)).any (·.1) = false := by rfl) :
    PE X (.Call (.Name "repr" p) [o] [] pos) (tD X.K T E (dReprO c m mo)) := by
  obtain ⟨f, fd, ps, dvs, dus, hp, F, hc, hM, hb, hd, hds⟩ := F
  have hds' : dvs = [] := hds X.K T fun _ => none
  subst hds'
  cases hd
  have hC : CallR X (.builtin "repr") (fun xs H Q => ∃ g v S fs, RvL X.K T g [v] xs ∧ Rs X.K T g S H ∧ insOf S v = some (c, fs) ∧ PostE X.K T E0 g (match m [v] S with
    | .ok (.p (.str a)) S2 => .ok (.p (.str a)) S2
    | _ => .no) Q) := by
    intro pins s σ H xs us Q I r ⟨g, v, S, fs, rv, rs, hi, p⟩
    obtain ⟨x, rfl, r1⟩ := rv.one
    obtain ⟨u, rfl, ru⟩ := vals1 r
    obtain ⟨a, dx, vs, rfl, ha, hfs⟩ := rs.ins hi r1
    cases ru
    obtain ⟨mA, O, _⟩ := ins_get I.hok ha
    obtain ⟨od, J, _⟩ := O.look
    obtain ⟨mm, Fr'⟩ := I.fr
    refine PySem.W.repr_K hr.in1.units0 Fr' I.ok.mod.kin J hM.at_ hM.fn ?_
    have hsp : spD X.K T 1 m [.ref a] H (fun y H2 => ∃ z : Str, y = .str z ∧ Q (.str z) H2) E0 := by
      refine ⟨rfl, g, [v], S, rv, rs, ?_⟩
      revert p
      cases m [v] S with
      | no => exact fun p => p
      | exc c fs S1 => exact fun p => p.elim
      | ok w S1 =>
        cases w with
        | ob i => exact fun p => p.elim
        | p w =>
          cases w with
          | str z =>
            intro p g2 y H2 l2 r2 s2
            obtain rfl : y = .str z := r2
            exact ⟨z, rfl, p g2 _ H2 l2 rfl s2⟩
          | _ => exact fun p => p.elim
    refine wpAny_call (codeAny_mono (F.run X.A.in1 X.stack s H ⟨[.ref a], []⟩ ([Value.ref a] ++ []) [V.ref a] _ E0 hr.in1 I.env0.in1 (hb s [.ref a] I.kIn (by rw [hp]; rfl)) (show Vals [V.ref a] [Value.ref a] from .cons (show RelV (V.ref a) (Value.ref a) from rfl) .nil) hsp) fun r s' hq => ?_)
    cases r with
    | error e =>
      obtain ⟨_, _, _, _, _, _, _, _, _, _, _, _, z⟩ := hq
      exact z.elim
    | ok fl =>
      cases fl with
      | ret u =>
        obtain ⟨y, H', I', ry, z, rfl, q⟩ := I.after hq
        obtain ⟨tk, rfl⟩ := ry
        exact ⟨.str z, H', I', ⟨_, rfl⟩, q⟩
      | next => exact False.elim hq
      | brk => exact False.elim hq
      | cont => exact False.elim hq
  refine (pe_callB hC hg hm (by decide +kernel) (pa_cons ho pa_nil h1) (by decide) (by decide) h1 hpl).imp fun σ H Q ⟨g, env, S, hE, hS, h⟩ => ?_
  refine ⟨g, env, S, hE, hS, ?_⟩
  have p := PostE.bind h
  revert p
  cases mo env S with
  | no => exact fun p => p
  | exc c fs S1 => exact fun p => p
  | ok v S1 =>
    intro p g1 x H1 l1 r1 s1
    obtain ⟨g2, v2, S2, l2, rv, rs, q⟩ := p g1 x H1 l1 r1 s1
    cases e1 : insOf S2 v2 with
    | none => simp only [e1] at q; exact q.elim
    | some cf =>
      obtain ⟨c', fs⟩ := cf
      simp only [e1] at q
      by_cases hcc : c' = c
      · subst hcc
        rw [if_pos rfl] at q
        refine ⟨g2, v2, S2, fs, ⟨x, [], rfl, rv, rfl⟩, rs, e1, ?_⟩
        revert q
        cases m [v2] S2 with
        | no => exact fun q => q
        | exc c fs S1 => exact fun q => q
        | ok w S3 =>
          cases w with
          | ob i => exact fun q => q
          | p w => cases w <;> exact fun q => q
      · rw [if_neg hcc] at q; exact q.elim
/-! ### f-strings of texts and numbers -/
def fmtOf : VV → Option Str
  | .p (.str a) => if a.length ≤ 16000000 then some a else none
  | .p (.int i) => if i.natAbs.log2 < 1920 then some (Str.ofString (toString i)) else none
  | _ => none
def dFmt (me : DE) : DE := fun env S => (me env S).bind fun v S1 => match fmtOf v with
  | some a => .ok (.p (.str a)) S1
  | none => .no
theorem r_fmt (he : PE X e (tD X.K T E me)) : PE X (.FormattedValue e (-1) none pos) (tD X.K T E (dFmt me)) :=
  (pe_fmt he).imp fun σ H Q ⟨g, env, S, hE, hS, h⟩ => by
    refine ⟨g, env, S, hE, hS, ?_⟩
    have p := PostE.bind h
    revert p
    cases me env S with
    | no => exact fun p => p
    | exc c fs S1 => exact fun p => p
    | ok v S1 =>
      intro p g1 x H1 l1 r1 s1
      obtain ⟨g2, v2, S2, l2, rv, rs, q⟩ := p g1 x H1 l1 r1 s1
      cases v2 with
      | ob i => exact q.elim
      | p v2 =>
        cases v2 with
        | str a =>
          obtain rfl : x = .str a := rv
          simp only [fmtOf] at q
          split at q
          · rename_i z hz
            split at hz
            · rename_i hl
              cases hz
              exact .inl ⟨a, rfl, by rw [sizeLine_eq]; omega, q.val rfl rs⟩
            · cases hz
          · exact q.elim
        | int i =>
          obtain rfl : x = .int i := rv
          simp only [fmtOf] at q
          split at q
          · rename_i z hz
            split at hz
            · rename_i hl
              cases hz
              exact .inr ⟨i, rfl, hl, q.val rfl rs⟩
            · cases hz
          · exact q.elim
        | _ => exact q.elim
def dJs : List DE → Str → DE
  | [], acc => fun _ S => .ok (.p (.str acc)) S
  | m :: ms, acc => fun env S => (m env S).bind fun v S1 => match v with
    | .p (.str a) => if (acc ++ a).length ≤ 16000000 then dJs ms (acc ++ a) env S1 else .no
    | _ => .no
inductive PJd (X : Cx) (T : Tab) (E : XK) : List Expr → List DE → Prop where
  | nil : PJd X T E [] []
  | cons {e : Expr} {t : DE} {es : List Expr} {ts : List DE} (h : PE X e (tD X.K T E t)) (r : PJd X T E es ts) : PJd X T E (e :: es) (t :: ts)
theorem PJd.pj {es : List Expr} {ms : List DE} (h : PJd X T E es ms) : PJ X es (ms.map (tD X.K T E)) := by
  induction h with
  | nil => exact .nil
  | cons h _ ih => exact .cons h ih
theorem tJs_of : ∀ {ms : List DE} {acc : Str} {g : G} {env : En} {S : Sto} {σ : L2.St} {H : Hp} {Q : VK}, Re X.K T g env σ → Rs X.K T g S H → PostE X.K T E g (dJs ms acc env S) Q → tJs (ms.map (tD X.K T E)) acc σ H fun out H1 => Q (.str out) H1
  | [], acc, g, env, S, σ, H, Q, hE, hS, h => PostE.val (v := .p (.str acc)) h rfl hS
  | m :: ms, acc, g, env, S, σ, H, Q, hE, hS, h => by
    refine ⟨g, env, S, hE, hS, ?_⟩
    have p := PostE.bind h
    revert p
    cases m env S with
    | no => exact fun p => p
    | exc c fs S1 => exact fun p => p
    | ok v S1 =>
      intro p g1 x H1 l1 r1 s1
      obtain ⟨g2, v2, S2, l2, rv, rs, q⟩ := p g1 x H1 l1 r1 s1
      cases v2 with
      | ob i => exact q.elim
      | p v2 =>
        cases v2 with
        | str a =>
          obtain rfl : x = .str a := rv
          simp only at q
          by_cases hl : (acc ++ a).length ≤ 16000000
          · rw [if_pos hl] at q
            exact ⟨a, rfl, by rw [sizeLine_eq]; omega, tJs_of (hE.mono X.K T l2.s) rs q⟩
          · rw [if_neg hl] at q; exact q.elim
        | _ => exact q.elim
def dFStr (ms : List DE) : DE := dJs ms Str.empty
theorem r_fstr {v1 v2 : Expr} {rest : List Expr} {ms : List DE} (h : PJd X T E (v1 :: v2 :: rest) ms) : PE X (.JoinedStr (v1 :: v2 :: rest) pos) (tD X.K T E (dFStr ms)) :=
  (pe_joined h.pj).imp fun σ H Q ⟨g, env, S, hE, hS, h⟩ => tJs_of hE hS h
end Dn

set_option maxRecDepth 100000
set_option maxHeartbeats 4000000
namespace Dn
open PySem PySem.Spec PyProof.Rows L2
open AutoSeq1 (wpAny_loadPart')
open MeetsSeq MeetsSeq2 MeetsSeq3 SeqRoads2
/-! ### tuple * number -/
theorem tuple_mul1 (l : Addr) (items : Array Value) (n : Nat) (dd : Option Addr) (sl : Array (Option Value)) (u : Tok) :
    Meets (Builtin.«tuple.__mul__» ⟨[.ref l, .int 1 u], []⟩) (fun _ R s => s.heap.get? l = some { cls := .type "tuple", dict := dd, data := .seq items n, slots := sl } ∧
      R (.ok (.ret (Value.ref l))) s) :=
  .of_wp fun prog w A R s h => by
    obtain ⟨hp, g, d, tk, os⟩ := s
    obtain ⟨hl, h⟩ := h
    have f1 := AutoSeq1.idx_int
    have c1 : (items.isEmpty || (1 : Int) == 1) = true := by simp
    wp_walk using wpAny_loadPart' hl
    repeat (first
      | (refine wpAny_ite_true (decide_eq_true c1) ?_; wp_walk using wpAny_loadPart' hl)
      | (refine wpAny_ite_false (by decide) ?_; wp_walk using wpAny_loadPart' hl))
    exact ⟨_, rfl, h⟩

variable {X : Cx} {T : Tab} {E : XK}
theorem op_rep1 : OpR X (binaryOp .Mult) (fun x y H Q => ∃ l xs, x = .ref l ∧ y = .int 1 ∧ SqT X.K H l xs ∧ Q (.ref l) H) := by
  intro pins s σ H x y v u Q I rx ry h
  obtain ⟨l, xs, rfl, rfl, hT, q⟩ := h
  cases rx
  obtain ⟨t, rfl⟩ := ry
  obtain ⟨its, r, ⟨⟨cls, dd, data, sl⟩, ho, hc, n, hd⟩, hs⟩ := I.tuple hT
  simp only at hc hd
  subst hc hd
  refine wpAny_binaryOp_repeat_ref (T := "tuple") (U := "int") (by decide) ⟨_, ho, rfl⟩ (fun s' => typeIs_int s' 1 t) noFill_tuple_mul PySem.F.fills_int_mul PySem.F.slot_int_rmul repeat_tuple PySem.F.slot_int_index.lookup
    (call_meets PySem.F.slot_int_rmul (typeIs_int s 1 t) PySem.F.entry_int_rmul (PySem.F.args_int_rmul_2 _ _) (int_rmul_tuple 1 t l its.toArray n dd sl)
      ⟨ho, rfl, ⟨_, ho, rfl⟩, call_meets PySem.F.slot_tuple_mul ⟨_, ho, rfl⟩ PySem.F.entry_tuple_mul (PySem.F.args_tuple_mul_2 _ _) (tuple_mul1 l its.toArray n dd sl t) ⟨ho, ?_⟩⟩)
  exact ⟨.ref l, H, I, rfl, q⟩
def mMulB : M2 := fun v u S => match v, u with
  | .p (.tup xs), .p (.int k) => if k = 1 then some (.p (.tup xs)) else if xs ≠ [] ∧ 2 ≤ k ∧ k ≤ 1000 ∧ xs.length ≤ 1000 then some (.p (.tup (List.replicate k.toNat xs).flatten)) else none
  | _, _ => mMulA v u S
theorem o_mulB : OpM X T (binaryOp .Mult) mMulB := by
  intro pins s σ H x y v u Q I rx ry ⟨g, a, b, S, ra, rb, hS, hp⟩
  unfold mMulB at hp
  split at hp
  · rename_i xs k
    obtain rfl : y = .int k := rb
    have ra0 := ra
    obtain ⟨l, vs, rfl, h1, r1⟩ := ra
    have h2 := hS.fz _ _ h1
    by_cases hk : k = 1
    · subst hk
      rw [if_pos rfl] at hp
      exact op_rep1 pins s σ H _ _ v u Q I rx ry ⟨l, vs, rfl, rfl, .inl (.inl h2), PostE.val (v := .p (.tup xs)) hp ra0 hS⟩
    · rw [if_neg hk] at hp
      by_cases hl : xs ≠ [] ∧ 2 ≤ k ∧ k ≤ 1000 ∧ xs.length ≤ 1000
      · rw [if_pos hl] at hp
        exact op_repT pins s σ H _ _ v u Q I rx ry ⟨l, k, vs, rfl, rfl, .inl (.inl h2), fun z => hl.1 (by have := r1.length; rw [z] at this; exact List.eq_nil_of_length_eq_zero this.symm), hl.2.1, hl.2.2.1, by rw [r1.length]; exact hl.2.2.2, PostE.newT hp hS (RpL.rep r1 _)⟩
      · rw [if_neg hl] at hp; exact hp.elim
  · exact o_mulA pins s σ H x y v u Q I rx ry ⟨g, a, b, S, ra, rb, hS, hp⟩

/-! ### is of truths -/
def mIsB : M2 := fun v u S => match v, u with
  | .p (.bl a), .p (.bl b) => some (.p (.bl (a == b)))
  | _, _ => mIs v u S
def mIsNotB : M2 := fun v u S => match v, u with
  | .p (.bl a), .p (.bl b) => some (.p (.bl (!(a == b))))
  | _, _ => mIsNot v u S
theorem same_bool {M : Model} {A : Around} {Ee : Value → Shared → Prop} {s : Shared} (a b : Bool) {R : Bool → Shared → Prop} (h : R (a == b) s) : wpAny M A (isSame (.bool a) (.bool b)) R Ee s := by
  refine wpAny_of_eq (show isSame (.bool a) (.bool b) = pure (a == b) from ?_) h
  cases a <;> cases b <;> rfl
theorem o_isB : OpM X T (compareOp .Is) mIsB := by
  intro pins s σ H x y v u Q I rx ry ⟨g, a, b, S, ra, rb, hS, hp⟩
  unfold mIsB at hp
  split at hp
  · rename_i a b
    obtain rfl : x = .bl a := ra
    obtain rfl : y = .bl b := rb
    cases rx
    cases ry
    show wpAny _ X.A (do return Value.bool (← isSame (.bool a) (.bool b))) _ _ s
    exact wpAny_bind (same_bool a b (wpAny_pure ⟨.bl (a == b), H, I, rfl, hp.val rfl hS⟩))
  · exact o_is pins s σ H x y v u Q I rx ry ⟨g, a, b, S, ra, rb, hS, hp⟩
theorem o_isnotB : OpM X T (compareOp .IsNot) mIsNotB := by
  intro pins s σ H x y v u Q I rx ry ⟨g, a, b, S, ra, rb, hS, hp⟩
  unfold mIsNotB at hp
  split at hp
  · rename_i a b
    obtain rfl : x = .bl a := ra
    obtain rfl : y = .bl b := rb
    cases rx
    cases ry
    show wpAny _ X.A (do return Value.bool (!(← isSame (.bool a) (.bool b)))) _ _ s
    exact wpAny_bind (same_bool a b (wpAny_pure ⟨.bl (!(a == b)), H, I, rfl, hp.val rfl hS⟩))
  · exact o_isnot pins s σ H x y v u Q I rx ry ⟨g, a, b, S, ra, rb, hS, hp⟩
end Dn

set_option maxRecDepth 100000
set_option maxHeartbeats 4000000
namespace Sh
open PySem PySem.Spec PyProof.Rows L2 Dn
variable [Own]
def C_Months___repr___1 : DE :=
 (dBi mStr [(dVar 1)])
def D_Months___repr__ : DF := (dFn 1 2
 (dRet (dFStr [(dC (.str (Str.ofString "Months("))), (dFmt (dJoin (dC (.str (Str.ofString ", "))) (dComp [1] (.nm 1) (dIT (dFld 22 "lengths" (dVar 0))) dYes
 C_Months___repr___1))), (dC (.str (Str.ofString ")")))])))

def C_Months___str___1 : DE :=
 (dBi mStr [(dVar 1)])
def D_Months___str__ : DF := (dFn 1 2
 (dRet (dJoin (dC (.str (Str.ofString " "))) (dComp [1] (.nm 1) (dIT (dFld 22 "lengths" (dVar 0))) dYes
 C_Months___str___1))))

def D_Months___eq__ : DF := (dFn 2 2
 (dRet (dAndV (dBi (mIsi isi) [(dVar 1), (dC (.cls 22))]) (dOp mEq (dFld 22 "lengths" (dVar 0)) (dFld 22 "lengths" (dVar 1))))))

def C__law_right_1 : DE :=
 (dBi mStr [(dVar 6)])
def B__law_right_1 : DS :=
 (dIfS (dOr (dT (dOp (mEqA isi 22 D_Months___eq__) (dVar 1) (dVar 5))) (dOr (dT (dOp mIsNotB (dOp (mNeA isi 22 D_Months___eq__) (dVar 1) (dVar 5)) (dC (.bl true)))) (dT (dOp (mInA isi 22 D_Months___eq__ false) (dVar 5) (dLst [(dVar 1)]))))) (dRet (dC (.bl false)))
 dNil)
def D__law_right : DF := (dFn 1 7
 (dSeq (dPar 1 2 (dMake 22 D_Months___init__ [(dVar 0)] []) (dMake 22 D_Months___init__ [(dVar 0)] []))
 (dSeq (dSet (.nm 3) (dComp [6] (.nm 6) (dIT (dVar 0)) dYes
 C__law_right_1))
 (dSeq (dIfS (dT (dOp mNe (dLst [(dLenO 22 D_Months___len__ (dVar 1)), (dReprO 22 D_Months___repr__ (dVar 1)), (dStrO 22 D_Months___str__ (dVar 1))]) (dLst [(dBi mSum [(dVar 0)]), (dOp mAdd (dOp mAdd (dC (.str (Str.ofString "Months("))) (dJoin (dC (.str (Str.ofString ", "))) (dVar 3))) (dC (.str (Str.ofString ")")))), (dJoin (dC (.str (Str.ofString " "))) (dVar 3))]))) (dRet (dC (.bl false)))
 dNil)
 (dSeq (dIfS (dOr (dT (dOp mNe (dMeth 22 "all_lengths" D_Months_all_lengths (dVar 1) [] []) (dVar 0))) (dOr (dT (dOp mIsNotB (dOp (mEqA isi 22 D_Months___eq__) (dVar 1) (dVar 2)) (dC (.bl true)))) (dOr (dT (dOp (mNeA isi 22 D_Months___eq__) (dVar 1) (dVar 2))) (dT (dOp (mInA isi 22 D_Months___eq__ true) (dVar 1) (dLst [(dC (.int 0)), (dVar 2)])))))) (dRet (dC (.bl false)))
 dNil)
 (dSeq (dSet (.nm 4) (dLst [(dMake 22 D_Months___init__ [(dOp mAdd (dSl mSlT (dVar 0) none (some (dNeg (dC (.int 1))))) (dTup [(dOp mSub (dC (.int 59)) (dOp mIx (dVar 0) (dNeg (dC (.int 1)))))]))] []), (dMake 22 D_Months___init__ [(dOp mMulB (dTup [(dC (.int 28))]) (dOp mAdd (dC (.int 1)) (dOp mMod (dBi mLen [(dVar 0)]) (dC (.int 12)))))] []), (dVar 0), (dLenO 22 D_Months___len__ (dVar 1))]))
 (dSeq (dIfS (dT (dOp mNe (dOp (mEqA isi 22 D_Months___eq__) (dVar 1) (dMake 22 D_Months___init__ [(dBack (dVar 0))] [])) (dOp mEq (dVar 0) (dBack (dVar 0))))) (dRet (dC (.bl false)))
 dNil)
 (dSeq (dFor (.nm 5) (dIL (dOp mAdd (dVar 4) (dLst [(dC .non), (dStrO 22 D_Months___str__ (dVar 1)), (dReprO 22 D_Months___repr__ (dVar 1))]))) B__law_right_1)
 (dRet (dC (.bl true)))))))))))


end Sh

set_option maxRecDepth 100000
set_option maxHeartbeats 4000000
namespace Q_k01
open PySem PySem.Spec PyProof.Rows L2 Dn Sh
instance own : Own := ⟨fun c => c == 22, [9]⟩
def topS (i : Nat) : Stmt := PySem.Challenge.pw_dayshares_k01_months_known.main.body.getD i (.Pass ⟨0, 0, 0, 0⟩)
def B_law_1 : DS :=
 (dDo (dApp (dVar 5) (dOp mAdd (dOp mAdd (dSl mSlT (dVar 3) none (some (dVar 4))) (dTup [(dVar 6)])) (dSl mSlT (dVar 3) (some (dOp mAdd (dVar 4) (dC (.int 1)))) none))))
def B_law_2 : DS :=
 (dIfS (dT (dOp mNe (dWord true FL (dMake 22 D_Months___init__ [(dVar 7)] [])) (dTup [(dC (.str (Str.ofString "months")))]))) (dRet (dC (.bl false)))
 dNil)
def B_law_3 : DS :=
 (dSeq (dSet (.nm 2) (dCall D__law_pen_of [(dVar 1)] []))
 (dSeq (dSet (.nm 3) (dCall D__law_lengths [(dVar 2)] []))
 (dSeq (dIfS (dOr (dNot (dT (dCall D__law_right [(dVar 3)] []))) (dOr (dNot (dT (dCall D__law_right [(dSl mSlT (dVar 3) none (some (dC (.int 1))))] []))) (dNot (dT (dCall D__law_right [(dOp mMulB (dTup [(dC (.int 31))]) (dC (.int 12)))] []))))) (dRet (dC (.bl false)))
 dNil)
 (dSeq (dSet (.nm 4) (dCall D__law_draw [(dVar 2), (dBi mLen [(dVar 3)])] []))
 (dSeq (dSet (.nm 5) (dNew [(dC .non), (dTup []), (dOp mMulB (dVar 3) (dC (.int 13))), (dOp mMulB (dTup [(dC (.int 30))]) (dC (.int 13))), (dBi mLst [(dVar 3)]), (dC (.int 30)), (dC (.str (Str.ofString "30"))), (dTup [(dVar 3)]), dDicE, (dC (.bl true))]))
 (dSeq (dFor (.nm 6) (dIL (dLst [(dC (.int 27)), (dC (.int 32)), (dC (.bl true)), (dC .non), (dC (.str (Str.ofString "30"))), (dTup [(dC (.int 30))]), (dC (.int 0)), (dNeg (dC (.int 30))), (dOp mPow (dC (.int 10)) (dC (.int 29)))])) B_law_1)
 (dFor (.nm 7) (dIL (dVar 5)) B_law_2)))))))
def D_law : DF := (dFn 1 8
 (dSeq (dFor (.nm 1) (dIL (dOp mAdd (dLst [(dCall D__law_cell_at [(dVar 0), (dC (.int 0))] [])]) (dSl mSlL (dVar 0) (some (dC (.int 1))) (some (dC (.int 3)))))) B_law_3)
 (dRet (dC (.bl true)))))

end Q_k01

set_option maxRecDepth 100000
set_option maxHeartbeats 4000000
namespace Q_k01
open PySem PySem.Spec PyProof.Rows L2 Dn Sh
abbrev st__law_cell_at : Stmt := topS 33
abbrev N__law_cell_at : List Str := ["_law_script", "_law_k"]
theorem nd__law_cell_at : (N__law_cell_at).Nodup := by decide +kernel
theorem sc__law_cell_at : FnScope N__law_cell_at ["_law_script", "_law_k"] (defScope st__law_cell_at) := ⟨rfl, rfl, rfl, nd__law_cell_at, rfl, by decide +kernel, by decide +kernel⟩

theorem ok__law_cell_at {P : Program} {w : World} {K : PySem.W.Frag} {mg : Str → Option Value} {base : Heap} {T : Tab} {dvs : List V} {f : Addr} {fd : FuncData} (F : FunD K "_law_cell_at" "_law_cell_at" (defArgs st__law_cell_at) (defBody st__law_cell_at) (defScope st__law_cell_at) dvs [] f fd) (z_len : mg "len" = none) :
    FnOk P w K mg base (L2.CX P w) 1 f fd ["_law_script", "_law_k"] (spD K T 2 D__law_cell_at) := by
  refine fn_okD (k := 0) F sc__law_cell_at rfl rfl fun cdv A outer s H E hr tk hp hu nd => ?_
  exact (s_cons (s_if (kt_ o_lt (v_ 1) (r_bi (id := "len") b_len (by rfl) z_len (by decide +kernel) (a_cons (v_ 0) a_nil))) (s_one (s_ret (r_ix x_seq (v_ 0) (v_ 1))))
 s_nil)
 (s_one (s_ret r_int)))

abbrev st__law_pen_of : Stmt := topS 35
abbrev N__law_pen_of : List Str := ["_law_cell", "_law_left"]
theorem nd__law_pen_of : (N__law_pen_of).Nodup := by decide +kernel
theorem sc__law_pen_of : FnScope N__law_pen_of ["_law_cell"] (defScope st__law_pen_of) := ⟨rfl, rfl, rfl, nd__law_pen_of, rfl, by decide +kernel, by decide +kernel⟩

theorem ok__law_pen_of {P : Program} {w : World} {K : PySem.W.Frag} {mg : Str → Option Value} {base : Heap} {T : Tab} {dvs : List V} {f : Addr} {fd : FuncData} (F : FunD K "_law_pen_of" "_law_pen_of" (defArgs st__law_pen_of) (defBody st__law_pen_of) (defScope st__law_pen_of) dvs [] f fd) (z_max : mg "max" = none) (z_int : mg "int" = none) :
    FnOk P w K mg base (L2.CX P w) 1 f fd ["_law_cell"] (spD K T 1 D__law_pen_of) := by
  refine fn_okD (k := 0) F sc__law_pen_of rfl rfl fun cdv A outer s H E hr tk hp hu nd => ?_
  exact (s_cons (s_set (r_bi (id := "max") (b_max2 rfl) (by rfl) z_max (by decide +kernel) (a_cons (v_ 0) (a_cons (r_op o_sub r_int (v_ 0)) a_nil))) (gn_ 1 nd))
 (s_one (s_ret (r_new (a_cons (v_ 1) (a_cons (r_bty (ty := "int") b_int (by rfl) z_int (by decide +kernel) (a_cons (ki_ o_ge (v_ 1) (r_op o_pow r_int r_int)) a_nil)) (a_cons (r_op o_mod (v_ 1) r_int) a_nil)))))))

abbrev st__law_next : Stmt := topS 34
abbrev N__law_next : List Str := ["_law_seed"]
theorem nd__law_next : (N__law_next).Nodup := by decide +kernel
theorem sc__law_next : FnScope N__law_next ["_law_seed"] (defScope st__law_next) := ⟨rfl, rfl, rfl, nd__law_next, rfl, by decide +kernel, by decide +kernel⟩

theorem ok__law_next {P : Program} {w : World} {K : PySem.W.Frag} {mg : Str → Option Value} {base : Heap} {T : Tab} {dvs : List V} {f : Addr} {fd : FuncData} (F : FunD K "_law_next" "_law_next" (defArgs st__law_next) (defBody st__law_next) (defScope st__law_next) dvs [] f fd)  :
    FnOk P w K mg base (L2.CX P w) 1 f fd ["_law_seed"] (spD K T 1 D__law_next) := by
  refine fn_okD (k := 0) F sc__law_next rfl rfl fun cdv A outer s H E hr tk hp hu nd => ?_
  exact (s_cons (s_set (r_op o_mod (r_op o_add (v_ 0) r_int) r_int) (gn_ 0 nd))
 (s_one (s_ret (r_op o_mod (r_op o_add (r_op o_add (r_op o_mulA (v_ 0) (v_ 0)) (r_op o_mulA r_int (v_ 0))) r_int) r_int))))

abbrev st__law_draw : Stmt := topS 36
abbrev N__law_draw : List Str := ["_law_pen", "_law_many", "_law_found"]
theorem nd__law_draw : (N__law_draw).Nodup := by decide +kernel
theorem sc__law_draw : FnScope N__law_draw ["_law_pen", "_law_many"] (defScope st__law_draw) := ⟨rfl, rfl, rfl, nd__law_draw, rfl, by decide +kernel, by decide +kernel⟩

theorem ok__law_draw {P : Program} {w : World} {K : PySem.W.Frag} {mg : Str → Option Value} {base : Heap} {T : Tab} {dvs : List V} {f : Addr} {fd : FuncData} (F : FunD K "_law_draw" "_law_draw" (defArgs st__law_draw) (defBody st__law_draw) (defScope st__law_draw) dvs [] f fd) (e__law_next : FnE P w K mg base T "_law_next" 1 1 [] D__law_next) :
    FnOk P w K mg base (L2.CX P w) 2 f fd ["_law_pen", "_law_many"] (spD K T 2 D__law_draw) := by
  refine fn_okD (k := 1) F sc__law_draw rfl rfl fun cdv A outer s H E hr tk hp hu nd => ?_
  exact (s_cons (s_if (PW.pt (q_and (kt_ (o_eq hu) (r_ix x_seq (v_ 0) r_int) r_int) (q_and1 (kt_ o_gt (r_ix x_seq (v_ 0) r_int) r_int)))) (s_cons (s_set (r_op o_mod (r_ix x_seq (v_ 0) r_int) (v_ 1)) (gn_ 2 nd))
 (s_cons (s_setIx (r_op o_div (r_ix x_seq (v_ 0) r_int) (v_ 1)) (v_ 0) r_int)
 (s_one (s_ret (v_ 2)))))
 s_nil)
 (s_cons (s_setIx (c_fn e__law_next tk (hr.mono (by decide)) (a_cons (r_op o_add (c_fn e__law_next tk (hr.mono (by decide)) (a_cons (r_ix x_seq (v_ 0) r_int) a_nil)) r_int) a_nil)) (v_ 0) r_int)
 (s_one (s_ret (r_op o_mod (r_op o_div (r_ix x_seq (v_ 0) r_int) r_int) (v_ 1))))))

abbrev st__law_lengths : Stmt := topS 37
abbrev N__law_lengths : List Str := ["_law_pen", "_law_turn"]
theorem nd__law_lengths : (N__law_lengths).Nodup := by decide +kernel
theorem sc__law_lengths : FnScope N__law_lengths ["_law_pen"] (defScope st__law_lengths) := ⟨rfl, rfl, rfl, nd__law_lengths, rfl, by decide +kernel, by decide +kernel⟩

theorem ok__law_lengths {P : Program} {w : World} {K : PySem.W.Frag} {mg : Str → Option Value} {base : Heap} {T : Tab} {dvs : List V} {f : Addr} {fd : FuncData} (F : FunD K "_law_lengths" "_law_lengths" (defArgs st__law_lengths) (defBody st__law_lengths) (defScope st__law_lengths) dvs [] f fd) (z_tuple : mg "tuple" = none) (z_range : mg "range" = none) (e__law_draw : FnE P w K mg base T "_law_draw" 2 2 [] D__law_draw) :
    FnOk P w K mg base (L2.CX P w) 3 f fd ["_law_pen"] (spD K T 1 D__law_lengths) := by
  refine fn_okD (k := 2) F sc__law_lengths rfl rfl fun cdv A outer s H E hr tk hp hu nd => ?_
  exact (s_one (s_ret (r_bty (ty := "tuple") b_tup (by rfl) z_tuple (by decide +kernel) (a_cons (r_comp rfl nd (i_range1 (by rfl) z_range (r_op o_add r_int (c_fn e__law_draw tk (hr.mono (by decide)) (a_cons (v_ 0) (a_cons (r_ix x_seq (r_lst (a_cons r_int (a_cons r_int (a_cons r_int a_nil)))) (c_fn e__law_draw tk (hr.mono (by decide)) (a_cons (v_ 0) (a_cons r_int a_nil)))) a_nil))))) (blkOk_by (N := N__law_lengths) (sc := defScope st__law_lengths) (own := [("_law_turn", 1)]) (by decide +kernel)) (by decide) (fun _ _ _ _ _ => (gn_ 1 nd)) (fun _ _ _ _ _ => t_yes)
 (fun _ _ _ _ _ => (r_op o_add r_int (c_fn e__law_draw tks0 (hr.mono (by decide)) (a_cons (v_ 0) (a_cons r_int a_nil)))))) a_nil))))

abbrev st_is_tuple_of : Stmt := topS 27
abbrev N_is_tuple_of : List Str := ["thing", "low", "high"]
theorem nd_is_tuple_of : (N_is_tuple_of).Nodup := by decide +kernel
theorem sc_is_tuple_of : FnScope N_is_tuple_of ["thing", "low", "high"] (defScope st_is_tuple_of) := ⟨rfl, rfl, rfl, nd_is_tuple_of, rfl, by decide +kernel, by decide +kernel⟩

theorem ok_is_tuple_of {P : Program} {w : World} {K : PySem.W.Frag} {mg : Str → Option Value} {base : Heap} {T : Tab} {dvs : List V} {f : Addr} {fd : FuncData} (F : FunD K "is_tuple_of" "is_tuple_of" (defArgs st_is_tuple_of) (defBody st_is_tuple_of) (defScope st_is_tuple_of) dvs [] f fd) (z_isinstance : mg "isinstance" = none) (z_tuple : mg "tuple" = none) (hisi : IsiOk K T isi) (z_len : mg "len" = none) :
    FnOk P w K mg base (L2.CX P w) 1 f fd ["thing", "low", "high"] (spD K T 3 D_is_tuple_of) := by
  refine fn_okD (k := 0) F sc_is_tuple_of rfl rfl fun cdv A outer s H E hr tk hp hu nd => ?_
  exact (s_one (s_ret (r_and (r_bi (id := "isinstance") (b_isi hisi) (by rfl) z_isinstance (by decide +kernel) (a_cons (v_ 0) (a_cons (r_ty (n := "tuple") (by rfl) z_tuple (by decide +kernel)) a_nil))) (r_one (r_chain o_le o_le (v_ 1) (r_bi (id := "len") b_len (by rfl) z_len (by decide +kernel) (a_cons (v_ 0) a_nil)) (v_ 2))))))

abbrev st_is_whole : Stmt := topS 25
abbrev N_is_whole : List Str := ["thing"]
theorem nd_is_whole : (N_is_whole).Nodup := by decide +kernel
theorem sc_is_whole : FnScope N_is_whole ["thing"] (defScope st_is_whole) := ⟨rfl, rfl, rfl, nd_is_whole, rfl, by decide +kernel, by decide +kernel⟩

theorem ok_is_whole {P : Program} {w : World} {K : PySem.W.Frag} {mg : Str → Option Value} {base : Heap} {T : Tab} {dvs : List V} {f : Addr} {fd : FuncData} (F : FunD K "is_whole" "is_whole" (defArgs st_is_whole) (defBody st_is_whole) (defScope st_is_whole) dvs [] f fd) (z_isinstance : mg "isinstance" = none) (z_int : mg "int" = none) (hisi : IsiOk K T isi) (z_bool : mg "bool" = none) :
    FnOk P w K mg base (L2.CX P w) 1 f fd ["thing"] (spD K T 1 D_is_whole) := by
  refine fn_okD (k := 0) F sc_is_whole rfl rfl fun cdv A outer s H E hr tk hp hu nd => ?_
  exact (s_one (s_ret (r_and (r_bi (id := "isinstance") (b_isi hisi) (by rfl) z_isinstance (by decide +kernel) (a_cons (v_ 0) (a_cons (r_ty (n := "int") (by rfl) z_int (by decide +kernel)) a_nil))) (r_one (r_not (r_bi (id := "isinstance") (b_isi hisi) (by rfl) z_isinstance (by decide +kernel) (a_cons (v_ 0) (a_cons (r_ty (n := "bool") (by rfl) z_bool (by decide +kernel)) a_nil))))))))

abbrev st_is_within : Stmt := topS 26
abbrev N_is_within : List Str := ["thing", "low", "high"]
theorem nd_is_within : (N_is_within).Nodup := by decide +kernel
theorem sc_is_within : FnScope N_is_within ["thing", "low", "high"] (defScope st_is_within) := ⟨rfl, rfl, rfl, nd_is_within, rfl, by decide +kernel, by decide +kernel⟩

theorem ok_is_within {P : Program} {w : World} {K : PySem.W.Frag} {mg : Str → Option Value} {base : Heap} {T : Tab} {dvs : List V} {f : Addr} {fd : FuncData} (F : FunD K "is_within" "is_within" (defArgs st_is_within) (defBody st_is_within) (defScope st_is_within) dvs [] f fd) (e_is_whole : FnE P w K mg base T "is_whole" 1 1 [] D_is_whole) :
    FnOk P w K mg base (L2.CX P w) 2 f fd ["thing", "low", "high"] (spD K T 3 D_is_within) := by
  refine fn_okD (k := 1) F sc_is_within rfl rfl fun cdv A outer s H E hr tk hp hu nd => ?_
  exact (s_one (s_ret (r_and (c_fn e_is_whole tk (hr.mono (by decide)) (a_cons (v_ 0) a_nil)) (r_one (r_chain o_le o_le (v_ 1) (v_ 0) (v_ 2))))))

abbrev st__are_lengths : Stmt := topS 30
abbrev N__are_lengths : List Str := ["thing", "length"]
theorem nd__are_lengths : (N__are_lengths).Nodup := by decide +kernel
theorem sc__are_lengths : FnScope N__are_lengths ["thing"] (defScope st__are_lengths) := ⟨rfl, rfl, rfl, nd__are_lengths, rfl, by decide +kernel, by decide +kernel⟩

theorem ok__are_lengths {P : Program} {w : World} {K : PySem.W.Frag} {mg : Str → Option Value} {base : Heap} {T : Tab} {dvs : List V} {f : Addr} {fd : FuncData} (F : FunD K "_are_lengths" "_are_lengths" (defArgs st__are_lengths) (defBody st__are_lengths) (defScope st__are_lengths) dvs [] f fd) (e_is_tuple_of : FnE P w K mg base T "is_tuple_of" 1 3 [] D_is_tuple_of) (z_all : mg "all" = none) (e_is_within : FnE P w K mg base T "is_within" 2 3 [] D_is_within) :
    FnOk P w K mg base (L2.CX P w) 3 f fd ["thing"] (spD K T 1 D__are_lengths) := by
  refine fn_okD (k := 2) F sc__are_lengths rfl rfl fun cdv A outer s H E hr tk hp hu nd => ?_
  exact (s_one (s_ret (r_and (c_fn e_is_tuple_of tk (hr.mono (by decide)) (a_cons (v_ 0) (a_cons r_int (a_cons r_int a_nil)))) (r_one (r_bi (id := "all") (b_all rfl) (by rfl) z_all (by decide +kernel) (a_cons (r_comp rfl nd (i_tup (v_ 0)) (blkOk_by (N := N__are_lengths) (sc := defScope st__are_lengths) (own := [("length", 1)]) (by decide +kernel)) (by decide) (fun _ _ _ _ _ => (gn_ 1 nd)) (fun _ _ _ _ _ => t_yes)
 (fun _ _ _ _ _ => (c_fn e_is_within tks0 (hr.mono (by decide)) (a_cons (v_ 1) (a_cons r_int (a_cons r_int a_nil)))))) a_nil))))))

abbrev st__all_places : Stmt := topS 31
abbrev N__all_places : List Str := ["lengths", "month", "place"]
theorem nd__all_places : (N__all_places).Nodup := by decide +kernel
theorem sc__all_places : FnScope N__all_places ["lengths"] (defScope st__all_places) := ⟨rfl, rfl, rfl, nd__all_places, rfl, by decide +kernel, by decide +kernel⟩

theorem ok__all_places {P : Program} {w : World} {K : PySem.W.Frag} {mg : Str → Option Value} {base : Heap} {T : Tab} {dvs : List V} {f : Addr} {fd : FuncData} (F : FunD K "_all_places" "_all_places" (defArgs st__all_places) (defBody st__all_places) (defScope st__all_places) dvs [] f fd) (z_range : mg "range" = none) (z_len : mg "len" = none) :
    FnOk P w K mg base (L2.CX P w) 1 f fd ["lengths"] (spD K T 1 D__all_places) := by
  refine fn_okD (k := 0) F sc__all_places rfl rfl fun cdv A outer s H E hr tk hp hu nd => ?_
  exact (s_one (s_ret (r_comp2 rfl nd (i_range1 (by rfl) z_range (r_bi (id := "len") b_len (by rfl) z_len (by decide +kernel) (a_cons (v_ 0) a_nil))) (blkOk_by (N := N__all_places) (sc := defScope st__all_places) (own := [("month", 1), ("place", 2)]) (by decide +kernel)) (vs1 := [2]) (by decide) (by decide) (by decide) (fun _ _ _ _ _ => (gn_ 1 nd)) (fun _ _ _ _ _ => t_yes) (fun _ _ _ _ _ => (i_range1 (by rfl) z_range (r_ix x_seq (v_ 0) (v_ 1)))) (fun _ _ _ _ _ => (gn_ 2 nd)) (fun _ _ _ _ _ => t_yes)
 (fun _ _ _ _ _ => (r_tup (a_cons (v_ 1) (a_cons (v_ 2) a_nil)))))))

abbrev st_Months___init__ : Stmt := inClass (topS 29) 0
abbrev N_Months___init__ : List Str := ["self", "lengths"]
theorem nd_Months___init__ : (N_Months___init__).Nodup := by decide +kernel
theorem sc_Months___init__ : FnScope N_Months___init__ ["self", "lengths"] (defScope st_Months___init__) := ⟨rfl, rfl, rfl, nd_Months___init__, rfl, by decide +kernel, by decide +kernel⟩

theorem ok_Months___init__ {P : Program} {w : World} {K : PySem.W.Frag} {mg : Str → Option Value} {base : Heap} {T : Tab} {dvs : List V} {f : Addr} {fd : FuncData} (F : FunD K "__init__" "Months.__init__" (defArgs st_Months___init__) (defBody st_Months___init__) (defScope st_Months___init__) dvs [] f fd) (e__are_lengths : FnE P w K mg base T "_are_lengths" 3 1 [] D__are_lengths) (x_NoMonths : RaE K mg T 9 "NoMonths") (cl_Months : Cls K (T.C 22)) (n_Months_lengths : NoAttr K (T.C 22) (Str.ofString "lengths")) (e__all_places : FnE P w K mg base T "_all_places" 1 1 [] D__all_places) (n_Months_places : NoAttr K (T.C 22) (Str.ofString "places")) :
    FnOk P w K mg base (L2.CX P w) 4 f fd ["self", "lengths"] (spD K T 2 D_Months___init__) := by
  refine fn_okD (k := 3) F sc_Months___init__ rfl rfl fun cdv A outer s H E hr tk hp hu nd => ?_
  exact (s_cons (s_if (q_not (vt_ (c_fn e__are_lengths tk (hr.mono (by decide)) (a_cons (v_ 1) a_nil)))) (s_one (c_raise rfl tk x_NoMonths))
 s_nil)
 (s_cons (s_setA 22 (f := "lengths") (v_ 0) (v_ 1) cl_Months n_Months_lengths)
 (s_one (s_setA 22 (f := "places") (v_ 0) (c_fn e__all_places tk (hr.mono (by decide)) (a_cons (v_ 1) a_nil)) cl_Months n_Months_places))))

abbrev st_Months___len__ : Stmt := inClass (topS 29) 9
abbrev N_Months___len__ : List Str := ["self"]
theorem nd_Months___len__ : (N_Months___len__).Nodup := by decide +kernel
theorem sc_Months___len__ : FnScope N_Months___len__ ["self"] (defScope st_Months___len__) := ⟨rfl, rfl, rfl, nd_Months___len__, rfl, by decide +kernel, by decide +kernel⟩

theorem ok_Months___len__ {P : Program} {w : World} {K : PySem.W.Frag} {mg : Str → Option Value} {base : Heap} {T : Tab} {dvs : List V} {f : Addr} {fd : FuncData} (F : FunD K "__len__" "Months.__len__" (defArgs st_Months___len__) (defBody st_Months___len__) (defScope st_Months___len__) dvs [] f fd) (z_len : mg "len" = none) (cl_Months : Cls K (T.C 22)) (n_Months_places : NoAttr K (T.C 22) (Str.ofString "places")) :
    FnOk P w K mg base (L2.CX P w) 1 f fd ["self"] (spD K T 1 D_Months___len__) := by
  refine fn_okD (k := 0) F sc_Months___len__ rfl rfl fun cdv A outer s H E hr tk hp hu nd => ?_
  exact (s_one (s_ret (r_bi (id := "len") b_len (by rfl) z_len (by decide +kernel) (a_cons (r_fld 22 (f := "places") (v_ 0) cl_Months n_Months_places) a_nil))))

abbrev st_Months___repr__ : Stmt := inClass (topS 29) 11
abbrev N_Months___repr__ : List Str := ["self", "length"]
theorem nd_Months___repr__ : (N_Months___repr__).Nodup := by decide +kernel
theorem sc_Months___repr__ : FnScope N_Months___repr__ ["self"] (defScope st_Months___repr__) := ⟨rfl, rfl, rfl, nd_Months___repr__, rfl, by decide +kernel, by decide +kernel⟩

theorem ok_Months___repr__ {P : Program} {w : World} {K : PySem.W.Frag} {mg : Str → Option Value} {base : Heap} {T : Tab} {dvs : List V} {f : Addr} {fd : FuncData} (F : FunD K "__repr__" "Months.__repr__" (defArgs st_Months___repr__) (defBody st_Months___repr__) (defScope st_Months___repr__) dvs [] f fd) (cl_Months : Cls K (T.C 22)) (n_Months_lengths : NoAttr K (T.C 22) (Str.ofString "lengths")) (z_str : mg "str" = none) :
    FnOk P w K mg base (L2.CX P w) 1 f fd ["self"] (spD K T 1 D_Months___repr__) := by
  refine fn_okD (k := 0) F sc_Months___repr__ rfl rfl fun cdv A outer s H E hr tk hp hu nd => ?_
  exact (s_one (s_ret (r_fstr (.cons r_str (.cons (r_fmt (r_join r_str (r_comp rfl nd (i_tup (r_fld 22 (f := "lengths") (v_ 0) cl_Months n_Months_lengths)) (blkOk_by (N := N_Months___repr__) (sc := defScope st_Months___repr__) (own := [("length", 1)]) (by decide +kernel)) (by decide) (fun _ _ _ _ _ => (gn_ 1 nd)) (fun _ _ _ _ _ => t_yes)
 (fun _ _ _ _ _ => (r_bty (ty := "str") b_str (by rfl) z_str (by decide +kernel) (a_cons (v_ 1) a_nil)))))) (.cons r_str PJd.nil))))))

abbrev st_Months___str__ : Stmt := inClass (topS 29) 12
abbrev N_Months___str__ : List Str := ["self", "length"]
theorem nd_Months___str__ : (N_Months___str__).Nodup := by decide +kernel
theorem sc_Months___str__ : FnScope N_Months___str__ ["self"] (defScope st_Months___str__) := ⟨rfl, rfl, rfl, nd_Months___str__, rfl, by decide +kernel, by decide +kernel⟩

theorem ok_Months___str__ {P : Program} {w : World} {K : PySem.W.Frag} {mg : Str → Option Value} {base : Heap} {T : Tab} {dvs : List V} {f : Addr} {fd : FuncData} (F : FunD K "__str__" "Months.__str__" (defArgs st_Months___str__) (defBody st_Months___str__) (defScope st_Months___str__) dvs [] f fd) (cl_Months : Cls K (T.C 22)) (n_Months_lengths : NoAttr K (T.C 22) (Str.ofString "lengths")) (z_str : mg "str" = none) :
    FnOk P w K mg base (L2.CX P w) 1 f fd ["self"] (spD K T 1 D_Months___str__) := by
  refine fn_okD (k := 0) F sc_Months___str__ rfl rfl fun cdv A outer s H E hr tk hp hu nd => ?_
  exact (s_one (s_ret (r_join r_str (r_comp rfl nd (i_tup (r_fld 22 (f := "lengths") (v_ 0) cl_Months n_Months_lengths)) (blkOk_by (N := N_Months___str__) (sc := defScope st_Months___str__) (own := [("length", 1)]) (by decide +kernel)) (by decide) (fun _ _ _ _ _ => (gn_ 1 nd)) (fun _ _ _ _ _ => t_yes)
 (fun _ _ _ _ _ => (r_bty (ty := "str") b_str (by rfl) z_str (by decide +kernel) (a_cons (v_ 1) a_nil)))))))

abbrev st_Months_all_lengths : Stmt := inClass (topS 29) 1
abbrev N_Months_all_lengths : List Str := ["self"]
theorem nd_Months_all_lengths : (N_Months_all_lengths).Nodup := by decide +kernel
theorem sc_Months_all_lengths : FnScope N_Months_all_lengths ["self"] (defScope st_Months_all_lengths) := ⟨rfl, rfl, rfl, nd_Months_all_lengths, rfl, by decide +kernel, by decide +kernel⟩

theorem ok_Months_all_lengths {P : Program} {w : World} {K : PySem.W.Frag} {mg : Str → Option Value} {base : Heap} {T : Tab} {dvs : List V} {f : Addr} {fd : FuncData} (F : FunD K "all_lengths" "Months.all_lengths" (defArgs st_Months_all_lengths) (defBody st_Months_all_lengths) (defScope st_Months_all_lengths) dvs [] f fd) (cl_Months : Cls K (T.C 22)) (n_Months_lengths : NoAttr K (T.C 22) (Str.ofString "lengths")) :
    FnOk P w K mg base (L2.CX P w) 1 f fd ["self"] (spD K T 1 D_Months_all_lengths) := by
  refine fn_okD (k := 0) F sc_Months_all_lengths rfl rfl fun cdv A outer s H E hr tk hp hu nd => ?_
  exact (s_one (s_ret (r_fld 22 (f := "lengths") (v_ 0) cl_Months n_Months_lengths)))

abbrev st_Months___eq__ : Stmt := inClass (topS 29) 10
abbrev N_Months___eq__ : List Str := ["self", "other"]
theorem nd_Months___eq__ : (N_Months___eq__).Nodup := by decide +kernel
theorem sc_Months___eq__ : FnScope N_Months___eq__ ["self", "other"] (defScope st_Months___eq__) := ⟨rfl, rfl, rfl, nd_Months___eq__, rfl, by decide +kernel, by decide +kernel⟩

theorem ok_Months___eq__ {P : Program} {w : World} {K : PySem.W.Frag} {mg : Str → Option Value} {base : Heap} {T : Tab} {dvs : List V} {f : Addr} {fd : FuncData} (F : FunD K "__eq__" "Months.__eq__" (defArgs st_Months___eq__) (defBody st_Months___eq__) (defScope st_Months___eq__) dvs [] f fd) (z_isinstance : mg "isinstance" = none) (gc_Months : mg "Months" = some (.ref (T.C 22))) (hisi : IsiOk K T isi) (cl_Months : Cls K (T.C 22)) (n_Months_lengths : NoAttr K (T.C 22) (Str.ofString "lengths")) :
    FnOk P w K mg base (L2.CX P w) 1 f fd ["self", "other"] (spD K T 2 D_Months___eq__) := by
  refine fn_okD (k := 0) F sc_Months___eq__ rfl rfl fun cdv A outer s H E hr tk hp hu nd => ?_
  exact (s_one (s_ret (r_and (r_bi (id := "isinstance") (b_isi hisi) (by rfl) z_isinstance (by decide +kernel) (a_cons (v_ 1) (a_cons (r_cls (c := 22) (by rfl) gc_Months) a_nil))) (r_one (ki_ (o_eq hu) (r_fld 22 (f := "lengths") (v_ 0) cl_Months n_Months_lengths) (r_fld 22 (f := "lengths") (v_ 1) cl_Months n_Months_lengths))))))

abbrev st__law_right : Stmt := topS 40
abbrev N__law_right : List Str := ["_law_lengths_here", "_law_one", "_law_other", "_law_words", "_law_strange", "_law_thing", "_law_long"]
theorem nd__law_right : (N__law_right).Nodup := by decide +kernel
theorem sc__law_right : FnScope N__law_right ["_law_lengths_here"] (defScope st__law_right) := ⟨rfl, rfl, rfl, nd__law_right, rfl, by decide +kernel, by decide +kernel⟩

theorem ok__law_right {P : Program} {w : World} {K : PySem.W.Frag} {mg : Str → Option Value} {base : Heap} {T : Tab} {dvs : List V} {f : Addr} {fd : FuncData} (F : FunD K "_law_right" "_law_right" (defArgs st__law_right) (defBody st__law_right) (defScope st__law_right) dvs [] f fd) (k_Months : MkE P w K mg base T 22 "Months" 4 2 [] D_Months___init__) (z_str : mg "str" = none) (z_len : mg "len" = none) (m_Months___len__ : MtE P w K mg base T 22 "__len__" 1 1 [] D_Months___len__) (z_repr : mg "repr" = none) (m_Months___repr__ : MtE P w K mg base T 22 "__repr__" 1 1 [] D_Months___repr__) (m_Months___str__ : MtE P w K mg base T 22 "__str__" 1 1 [] D_Months___str__) (z_sum : mg "sum" = none) (m_Months_all_lengths : MtE P w K mg base T 22 "all_lengths" 1 1 [] D_Months_all_lengths) (m_Months___eq__ : MtE P w K mg base T 22 "__eq__" 1 2 [] D_Months___eq__) (hisi : IsiOk K T isi) (nn_Months : NoNe K (T.C 22)) {cd : Value} (hcd : fd.code = cd) :
    FnG P w K mg base (L2.CX P w) 6 f fd ["_law_lengths_here"] (spD K T 1 D__law_right) := by
  refine (fn_okG (k := 5) F hcd sc__law_right rfl rfl fun A outer s H E ga hr tk hp hu nd => ?_)
  exact (s_cons (s_par (i := 1) (j := 2) rfl nd rfl rfl (by decide) rfl rfl (c_mk (c := 22) k_Months tk (hr.mono (by decide)) (a_cons (v_ 0) a_nil)) (c_mk (c := 22) k_Months tk (hr.mono (by decide)) (a_cons (v_ 0) a_nil)))
 (s_cons (s_setComp (i := 3) rfl nd rfl rfl (sw_true rfl rfl rfl (by decide +kernel)) (i_tup (v_ 0)) (blkOk_by (N := N__law_right) (sc := defScope st__law_right) (own := [("_law_long", 6)]) (by decide +kernel)) (by decide) (fun _ _ _ _ _ => (gn_ 6 nd)) (fun _ _ _ _ _ => t_yes)
 (fun _ _ _ _ _ => (r_bty (ty := "str") b_str (by rfl) z_str (by decide +kernel) (a_cons (v_ 6) a_nil))))
 (s_cons (s_if (kt_ (o_ne hu) (r_lst (a_cons (c_len (c := 22) m_Months___len__ (hr.mono (by decide)) (v_ 1) z_len) (a_cons (c_reprO (c := 22) m_Months___repr__ (hr.mono (by decide)) (v_ 1) z_repr) (a_cons (c_strO (c := 22) m_Months___str__ (hr.mono (by decide)) (v_ 1) z_str) a_nil)))) (r_lst (a_cons (r_bi (id := "sum") (b_sum rfl) (by rfl) z_sum (by decide +kernel) (a_cons (v_ 0) a_nil)) (a_cons (r_op o_add (r_op o_add r_str (r_join r_str (v_ 3))) r_str) (a_cons (r_join r_str (v_ 3)) a_nil))))) (s_one (s_ret r_bl))
 s_nil)
 (s_cons (s_if (PW.pt (q_or (kt_ (o_ne hu) (c_mt0 (c := 22) (mn := "all_lengths") m_Months_all_lengths tk (hr.mono (by decide)) (v_ 1)) (v_ 0)) (q_or (kt_ o_isnotB (ki_ (o_eqA hisi m_Months___eq__ (hr.mono (by decide))) (v_ 1) (v_ 2)) r_bl) (q_or (kt_ (o_neA hisi nn_Months m_Months___eq__ (hr.mono (by decide))) (v_ 1) (v_ 2)) (q_or1 (kt_ (o_notinA hisi nn_Months m_Months___eq__ (hr.mono (by decide))) (v_ 1) (r_lst (a_cons r_int (a_cons (v_ 2) a_nil))))))))) (s_one (s_ret r_bl))
 s_nil)
 (s_cons (s_set (r_lst (a_cons (c_mk (c := 22) k_Months tk (hr.mono (by decide)) (a_cons (r_op o_add (r_slice z_tup (v_ 0) p_none (p_some (r_neg r_int))) (r_tup (a_cons (r_op o_sub r_int (r_ix x_seq (v_ 0) (r_neg r_int))) a_nil))) a_nil)) (a_cons (c_mk (c := 22) k_Months tk (hr.mono (by decide)) (a_cons (r_op o_mulB (r_tup (a_cons r_int a_nil)) (r_op o_add r_int (r_op o_mod (r_bi (id := "len") b_len (by rfl) z_len (by decide +kernel) (a_cons (v_ 0) a_nil)) r_int))) a_nil)) (a_cons (v_ 0) (a_cons (c_len (c := 22) m_Months___len__ (hr.mono (by decide)) (v_ 1) z_len) a_nil))))) (gn_ 4 nd))
 (s_cons (s_if (kt_ (o_ne hu) (ki_ (o_eqA hisi m_Months___eq__ (hr.mono (by decide))) (v_ 1) (c_mk (c := 22) k_Months tk (hr.mono (by decide)) (a_cons (r_back (v_ 0)) a_nil))) (ki_ (o_eq hu) (v_ 0) (r_back (v_ 0)))) (s_one (s_ret r_bl))
 s_nil)
 (s_cons (s_for hp rfl (i_list (r_op o_add (v_ 4) (r_lst (a_cons r_non (a_cons (c_strO (c := 22) m_Months___str__ (hr.mono (by decide)) (v_ 1) z_str) (a_cons (c_reprO (c := 22) m_Months___repr__ (hr.mono (by decide)) (v_ 1) z_repr) a_nil)))))) (gn_ 5 nd)
 (s_one (s_if (PW.pt (q_or (kt_ (o_eqA hisi m_Months___eq__ (hr.mono (by decide))) (v_ 1) (v_ 5)) (q_or (kt_ o_isnotB (ki_ (o_neA hisi nn_Months m_Months___eq__ (hr.mono (by decide))) (v_ 1) (v_ 5)) r_bl) (q_or1 (kt_ (o_inA hisi nn_Months m_Months___eq__ (hr.mono (by decide))) (v_ 5) (r_lst (a_cons (v_ 1) a_nil))))))) (s_one (s_ret r_bl))
 s_nil)))
 (s_one (s_ret r_bl)))))))))

abbrev st_law : Stmt := topS 41
abbrev N_law : List Str := ["_law_script", "_law_cell", "_law_pen", "_law_lengths_here", "_law_at", "_law_bad", "_law_one", "_law_thing"]
theorem nd_law : (N_law).Nodup := by decide +kernel
theorem sc_law : FnScope N_law ["_law_script"] (defScope st_law) := ⟨rfl, rfl, rfl, nd_law, rfl, by decide +kernel, by decide +kernel⟩

theorem ok_law {P : Program} {w : World} {K : PySem.W.Frag} {mg : Str → Option Value} {base : Heap} {T : Tab} {dvs : List V} {f : Addr} {fd : FuncData} (F : FunD K "law" "law" (defArgs st_law) (defBody st_law) (defScope st_law) dvs [] f fd) (e__law_cell_at : FnE P w K mg base T "_law_cell_at" 1 2 [] D__law_cell_at) (e__law_pen_of : FnE P w K mg base T "_law_pen_of" 1 1 [] D__law_pen_of) (e__law_lengths : FnE P w K mg base T "_law_lengths" 3 1 [] D__law_lengths) (e__law_right : FnEG P w K mg base T "_law_right" 6 1 [] D__law_right) (e__law_draw : FnE P w K mg base T "_law_draw" 2 2 [] D__law_draw) (z_len : mg "len" = none) (z_list : mg "list" = none) (W__law_word : WordE P w K mg base T "_law_word" true FL 5) (k_Months : MkE P w K mg base T 22 "Months" 4 2 [] D_Months___init__) {cd : Value} (hcd : fd.code = cd) (LE : LamE base mg T cd ((envOfC "law" (defScope st_law) 0 0 cd).qual ++ "<lambda>")) :
    FnG P w K mg base (L2.CX P w) 9 f fd ["_law_script"] (spD K T 1 D_law) := by
  refine (fn_okG (k := 8) F hcd sc_law rfl rfl fun A outer s H E ga hr tk hp hu nd => ?_)
  exact (s_cons (s_for hp rfl (i_list (r_op o_add (r_lst (a_cons (c_fn e__law_cell_at tk (hr.mono (by decide)) (a_cons (v_ 0) (a_cons r_int a_nil))) a_nil)) (r_slice z_lst (v_ 0) (p_some r_int) (p_some r_int)))) (gn_ 1 nd)
 (s_cons (s_set (c_fn e__law_pen_of tk (hr.mono (by decide)) (a_cons (v_ 1) a_nil)) (gn_ 2 nd))
 (s_cons (s_set (c_fn e__law_lengths tk (hr.mono (by decide)) (a_cons (v_ 2) a_nil)) (gn_ 3 nd))
 (s_cons (s_if (PW.pt (q_or (q_not (vt_ (c_fnG e__law_right ga tk (hr.mono (by decide)) (a_cons (v_ 3) a_nil)))) (q_or (q_not (vt_ (c_fnG e__law_right ga tk (hr.mono (by decide)) (a_cons (r_slice z_tup (v_ 3) p_none (p_some r_int)) a_nil)))) (q_or1 (q_not (vt_ (c_fnG e__law_right ga tk (hr.mono (by decide)) (a_cons (r_op o_mulB (r_tup (a_cons r_int a_nil)) r_int) a_nil)))))))) (s_one (s_ret r_bl))
 s_nil)
 (s_cons (s_set (c_fn e__law_draw tk (hr.mono (by decide)) (a_cons (v_ 2) (a_cons (r_bi (id := "len") b_len (by rfl) z_len (by decide +kernel) (a_cons (v_ 3) a_nil)) a_nil))) (gn_ 4 nd))
 (s_cons (s_set (r_new (a_cons r_non (a_cons (r_tup a_nil) (a_cons (r_op o_mulB (v_ 3) r_int) (a_cons (r_op o_mulB (r_tup (a_cons r_int a_nil)) r_int) (a_cons (r_bty (ty := "list") b_lst (by rfl) z_list (by decide +kernel) (a_cons (v_ 3) a_nil)) (a_cons r_int (a_cons r_str (a_cons (r_tup (a_cons (v_ 3) a_nil)) (a_cons r_dicE (a_cons r_bl a_nil))))))))))) (gn_ 5 nd))
 (s_cons (s_for hp rfl (i_list (r_lst (a_cons r_int (a_cons r_int (a_cons r_bl (a_cons r_non (a_cons r_str (a_cons (r_tup (a_cons r_int a_nil)) (a_cons r_int (a_cons (r_neg r_int) (a_cons (r_op o_pow r_int r_int) a_nil))))))))))) (gn_ 6 nd)
 (s_one (s_do (r_app (v_ 5) (r_op o_add (r_op o_add (r_slice z_tup (v_ 3) p_none (p_some (v_ 4))) (r_tup (a_cons (v_ 6) a_nil))) (r_slice z_tup (v_ 3) (p_some (r_op o_add (v_ 4) r_int)) p_none))))))
 (s_one (s_for hp rfl (i_list (v_ 5)) (gn_ 7 nd)
 (s_one (s_if (kt_ (o_ne hu) (r_word W__law_word LE (hr.mono (by decide)) (fun A outer s H E f c hr => (c_mk (c := 22) k_Months tks_lam (hr.mono (by decide)) (a_cons (v_ 7) a_nil))) (L := LamX.lamS_by (sc := defScope st_law) (by decide +kernel))) (r_tup (a_cons r_str a_nil))) (s_one (s_ret r_bl))
 s_nil)))))))))))
 (s_one (s_ret r_bl)))

end Q_k01

set_option maxRecDepth 100000
set_option maxHeartbeats 2000000
namespace Sh
open PySem L2 Dn
variable [Own]
theorem e_lm (k : VV → VV → Sto → Option VV) (mo me : DE) (env : En) (S : Sto) : dLm k mo me env S = (mo env S).bind fun l S1 => if (asList S1 l).isSome then (me env S1).bind fun v S2 => RE.of S2 (k l v S2) else .no := rfl
theorem iE1 (c i : Nat) (S : Sto) (h : Own.excs.contains c = true) (hi : i < 22) : mIsE isEg c [.p .exn, .p (.cls i)] S = some (.p (.bl (i == c || i == 0 || i == parentOf c))) := by
  simp only [mIsE, mB2, clsTag, isEg, Option.bind_some]
  rw [if_pos ⟨h, hi⟩]; rfl
theorem iE2 (c : Nat) (S : Sto) (h : Own.excs.contains c = true) : mIsE isEg c [.p .exn, .p (.ty "ValueError")] S = some (.p (.bl true)) := by
  simp only [mIsE, mB2, clsTag, isEg, Option.bind_some, if_pos h]; rfl
theorem iE3 (c : Nat) (S : Sto) (h : Own.excs.contains c = true) : mIsE isEg c [.p .exn, .p (.tup [.ty "LookupError", .ty "TypeError", .ty "ArithmeticError", .ty "RuntimeError"])] S = some (.p (.bl false)) := by
  have z : ∀ n, (n = "LookupError" ∨ n = "TypeError" ∨ n = "ArithmeticError" ∨ n = "RuntimeError") → isEg c (.ty n) = some false := fun n hn => by
    unfold isEg
    rcases hn with rfl | rfl | rfl | rfl <;> (simp only [if_pos h]; rfl)
  simp [mIsE, mB2, clsTag, anyE, z]
theorem ax1 (xs : List PV) : atI xs (1 : Int) = xs[1]? := at_nat xs 1
theorem ax2 (xs : List PV) : atI xs (2 : Int) = xs[2]? := at_nat xs 2
theorem ax3 (xs : List PV) : atI xs (3 : Int) = xs[3]? := at_nat xs 3
theorem ax4 (xs : List PV) : atI xs (4 : Int) = xs[4]? := at_nat xs 4
theorem ax5 (xs : List PV) : atI xs (5 : Int) = xs[5]? := at_nat xs 5
theorem ax6 (xs : List PV) : atI xs (6 : Int) = xs[6]? := at_nat xs 6
theorem ax7 (xs : List PV) : atI xs (7 : Int) = xs[7]? := at_nat xs 7
theorem ax8 (xs : List PV) : atI xs (8 : Int) = xs[8]? := at_nat xs 8
theorem ax9 (xs : List PV) : atI xs (9 : Int) = xs[9]? := at_nat xs 9
theorem ax10 (xs : List PV) : atI xs (10 : Int) = xs[10]? := at_nat xs 10
theorem ax11 (xs : List PV) : atI xs (11 : Int) = xs[11]? := at_nat xs 11
theorem ax12 (xs : List PV) : atI xs (12 : Int) = xs[12]? := at_nat xs 12
theorem ax13 (xs : List PV) : atI xs (13 : Int) = xs[13]? := at_nat xs 13
theorem ax14 (xs : List PV) : atI xs (14 : Int) = xs[14]? := at_nat xs 14
theorem ax15 (xs : List PV) : atI xs (15 : Int) = xs[15]? := at_nat xs 15
theorem ax16 (xs : List PV) : atI xs (16 : Int) = xs[16]? := at_nat xs 16
theorem ax17 (xs : List PV) : atI xs (17 : Int) = xs[17]? := at_nat xs 17
theorem ok_note : PyData.strOk (Str.ofString "note") = true := by decide +kernel
theorem ok_notes : PyData.strOk (Str.ofString "notes") = true := by decide +kernel
theorem ok_kind : PyData.strOk (Str.ofString "kind") = true := by decide +kernel
theorem ok_prices : PyData.strOk (Str.ofString "prices") = true := by decide +kernel
theorem ok_months : PyData.strOk (Str.ofString "months") = true := by decide +kernel
theorem ok_day : PyData.strOk (Str.ofString "day") = true := by decide +kernel
theorem ok_pence : PyData.strOk (Str.ofString "pence") = true := by decide +kernel
theorem ok_name : PyData.strOk (Str.ofString "name") = true := by decide +kernel
theorem ok_missing : PyData.strOk (Str.ofString "missing") = true := by decide +kernel
theorem ok_twice : PyData.strOk (Str.ofString "twice") = true := by decide +kernel
theorem ok_deed : PyData.strOk (Str.ofString "deed") = true := by decide +kernel
theorem ok_sheet : PyData.strOk (Str.ofString "sheet") = true := by decide +kernel
theorem ok_steps : PyData.strOk (Str.ofString "steps") = true := by decide +kernel
theorem ok_wishes : PyData.strOk (Str.ofString "wishes") = true := by decide +kernel
theorem ok_line : PyData.strOk (Str.ofString "line") = true := by decide +kernel
theorem ok_many : PyData.strOk (Str.ofString "many") = true := by decide +kernel
theorem ok_leans : PyData.strOk (Str.ofString "leans") = true := by decide +kernel
theorem ok_text : PyData.strOk (Str.ofString "text") = true := by decide +kernel
theorem ne_note_many : (Str.ofString "note" == Str.ofString "many") = false := by decide +kernel
theorem ne_note_leans : (Str.ofString "note" == Str.ofString "leans") = false := by decide +kernel
theorem ne_note_text : (Str.ofString "note" == Str.ofString "text") = false := by decide +kernel
theorem ne_notes_many : (Str.ofString "notes" == Str.ofString "many") = false := by decide +kernel
theorem ne_notes_leans : (Str.ofString "notes" == Str.ofString "leans") = false := by decide +kernel
theorem ne_notes_text : (Str.ofString "notes" == Str.ofString "text") = false := by decide +kernel
theorem ne_kind_many : (Str.ofString "kind" == Str.ofString "many") = false := by decide +kernel
theorem ne_kind_leans : (Str.ofString "kind" == Str.ofString "leans") = false := by decide +kernel
theorem ne_kind_text : (Str.ofString "kind" == Str.ofString "text") = false := by decide +kernel
theorem ne_prices_many : (Str.ofString "prices" == Str.ofString "many") = false := by decide +kernel
theorem ne_prices_leans : (Str.ofString "prices" == Str.ofString "leans") = false := by decide +kernel
theorem ne_prices_text : (Str.ofString "prices" == Str.ofString "text") = false := by decide +kernel
theorem ne_months_many : (Str.ofString "months" == Str.ofString "many") = false := by decide +kernel
theorem ne_months_leans : (Str.ofString "months" == Str.ofString "leans") = false := by decide +kernel
theorem ne_months_text : (Str.ofString "months" == Str.ofString "text") = false := by decide +kernel
theorem ne_day_many : (Str.ofString "day" == Str.ofString "many") = false := by decide +kernel
theorem ne_day_leans : (Str.ofString "day" == Str.ofString "leans") = false := by decide +kernel
theorem ne_day_text : (Str.ofString "day" == Str.ofString "text") = false := by decide +kernel
theorem ne_pence_many : (Str.ofString "pence" == Str.ofString "many") = false := by decide +kernel
theorem ne_pence_leans : (Str.ofString "pence" == Str.ofString "leans") = false := by decide +kernel
theorem ne_pence_text : (Str.ofString "pence" == Str.ofString "text") = false := by decide +kernel
theorem ne_name_many : (Str.ofString "name" == Str.ofString "many") = false := by decide +kernel
theorem ne_name_leans : (Str.ofString "name" == Str.ofString "leans") = false := by decide +kernel
theorem ne_name_text : (Str.ofString "name" == Str.ofString "text") = false := by decide +kernel
theorem ne_missing_many : (Str.ofString "missing" == Str.ofString "many") = false := by decide +kernel
theorem ne_missing_leans : (Str.ofString "missing" == Str.ofString "leans") = false := by decide +kernel
theorem ne_missing_text : (Str.ofString "missing" == Str.ofString "text") = false := by decide +kernel
theorem ne_twice_many : (Str.ofString "twice" == Str.ofString "many") = false := by decide +kernel
theorem ne_twice_leans : (Str.ofString "twice" == Str.ofString "leans") = false := by decide +kernel
theorem ne_twice_text : (Str.ofString "twice" == Str.ofString "text") = false := by decide +kernel
theorem ne_deed_many : (Str.ofString "deed" == Str.ofString "many") = false := by decide +kernel
theorem ne_deed_leans : (Str.ofString "deed" == Str.ofString "leans") = false := by decide +kernel
theorem ne_deed_text : (Str.ofString "deed" == Str.ofString "text") = false := by decide +kernel
theorem ne_sheet_many : (Str.ofString "sheet" == Str.ofString "many") = false := by decide +kernel
theorem ne_sheet_leans : (Str.ofString "sheet" == Str.ofString "leans") = false := by decide +kernel
theorem ne_sheet_text : (Str.ofString "sheet" == Str.ofString "text") = false := by decide +kernel
theorem ne_steps_many : (Str.ofString "steps" == Str.ofString "many") = false := by decide +kernel
theorem ne_steps_leans : (Str.ofString "steps" == Str.ofString "leans") = false := by decide +kernel
theorem ne_steps_text : (Str.ofString "steps" == Str.ofString "text") = false := by decide +kernel
theorem ne_wishes_many : (Str.ofString "wishes" == Str.ofString "many") = false := by decide +kernel
theorem ne_wishes_leans : (Str.ofString "wishes" == Str.ofString "leans") = false := by decide +kernel
theorem ne_wishes_text : (Str.ofString "wishes" == Str.ofString "text") = false := by decide +kernel
theorem ne_line_many : (Str.ofString "line" == Str.ofString "many") = false := by decide +kernel
theorem ne_line_leans : (Str.ofString "line" == Str.ofString "leans") = false := by decide +kernel
theorem ne_line_text : (Str.ofString "line" == Str.ofString "text") = false := by decide +kernel
theorem flags_note (S : Sto) (h : Own.excs.contains 2 = true) : (D__law_flags 2 [some (.p .exn), none, none, none, none] S).out = .ok (.p (.tup [.str (Str.ofString "note")])) S := by
  unfold D__law_flags
  simp [iE1 _ _ _ h, iE2 _ _ h, iE3 _ _ h, parentOf, e_lm, LIM, add_lst, List.getElem?_cons_zero, List.getElem?_cons_succ, -getElem?_pos, mCountF, mIndexF, flatP, eqP, firstP, mEq, mNe, dataOf, toD, toDL, PyData.eqv, PyData.eqvAll, ax1, ax2, ax3, ax4, ax5, ax6, ax7, ax8, ax9, ax10, ax11, ax12, ax13, ax14, ax15, ax16, ax17, ok_note, ok_many, ok_leans, ok_text, ne_note_many, ne_note_leans, ne_note_text]
theorem flags_notes (S : Sto) (h : Own.excs.contains 3 = true) : (D__law_flags 3 [some (.p .exn), none, none, none, none] S).out = .ok (.p (.tup [.str (Str.ofString "notes")])) S := by
  unfold D__law_flags
  simp [iE1 _ _ _ h, iE2 _ _ h, iE3 _ _ h, parentOf, e_lm, LIM, add_lst, List.getElem?_cons_zero, List.getElem?_cons_succ, -getElem?_pos, mCountF, mIndexF, flatP, eqP, firstP, mEq, mNe, dataOf, toD, toDL, PyData.eqv, PyData.eqvAll, ax1, ax2, ax3, ax4, ax5, ax6, ax7, ax8, ax9, ax10, ax11, ax12, ax13, ax14, ax15, ax16, ax17, ok_notes, ok_many, ok_leans, ok_text, ne_notes_many, ne_notes_leans, ne_notes_text]
theorem flags_kind (S : Sto) (h : Own.excs.contains 6 = true) : (D__law_flags 6 [some (.p .exn), none, none, none, none] S).out = .ok (.p (.tup [.str (Str.ofString "kind")])) S := by
  unfold D__law_flags
  simp [iE1 _ _ _ h, iE2 _ _ h, iE3 _ _ h, parentOf, e_lm, LIM, add_lst, List.getElem?_cons_zero, List.getElem?_cons_succ, -getElem?_pos, mCountF, mIndexF, flatP, eqP, firstP, mEq, mNe, dataOf, toD, toDL, PyData.eqv, PyData.eqvAll, ax1, ax2, ax3, ax4, ax5, ax6, ax7, ax8, ax9, ax10, ax11, ax12, ax13, ax14, ax15, ax16, ax17, ok_kind, ok_many, ok_leans, ok_text, ne_kind_many, ne_kind_leans, ne_kind_text]
theorem flags_prices (S : Sto) (h : Own.excs.contains 7 = true) : (D__law_flags 7 [some (.p .exn), none, none, none, none] S).out = .ok (.p (.tup [.str (Str.ofString "prices")])) S := by
  unfold D__law_flags
  simp [iE1 _ _ _ h, iE2 _ _ h, iE3 _ _ h, parentOf, e_lm, LIM, add_lst, List.getElem?_cons_zero, List.getElem?_cons_succ, -getElem?_pos, mCountF, mIndexF, flatP, eqP, firstP, mEq, mNe, dataOf, toD, toDL, PyData.eqv, PyData.eqvAll, ax1, ax2, ax3, ax4, ax5, ax6, ax7, ax8, ax9, ax10, ax11, ax12, ax13, ax14, ax15, ax16, ax17, ok_prices, ok_many, ok_leans, ok_text, ne_prices_many, ne_prices_leans, ne_prices_text]
theorem flags_months (S : Sto) (h : Own.excs.contains 9 = true) : (D__law_flags 9 [some (.p .exn), none, none, none, none] S).out = .ok (.p (.tup [.str (Str.ofString "months")])) S := by
  unfold D__law_flags
  simp [iE1 _ _ _ h, iE2 _ _ h, iE3 _ _ h, parentOf, e_lm, LIM, add_lst, List.getElem?_cons_zero, List.getElem?_cons_succ, -getElem?_pos, mCountF, mIndexF, flatP, eqP, firstP, mEq, mNe, dataOf, toD, toDL, PyData.eqv, PyData.eqvAll, ax1, ax2, ax3, ax4, ax5, ax6, ax7, ax8, ax9, ax10, ax11, ax12, ax13, ax14, ax15, ax16, ax17, ok_months, ok_many, ok_leans, ok_text, ne_months_many, ne_months_leans, ne_months_text]
theorem flags_day (S : Sto) (h : Own.excs.contains 10 = true) : (D__law_flags 10 [some (.p .exn), none, none, none, none] S).out = .ok (.p (.tup [.str (Str.ofString "day")])) S := by
  unfold D__law_flags
  simp [iE1 _ _ _ h, iE2 _ _ h, iE3 _ _ h, parentOf, e_lm, LIM, add_lst, List.getElem?_cons_zero, List.getElem?_cons_succ, -getElem?_pos, mCountF, mIndexF, flatP, eqP, firstP, mEq, mNe, dataOf, toD, toDL, PyData.eqv, PyData.eqvAll, ax1, ax2, ax3, ax4, ax5, ax6, ax7, ax8, ax9, ax10, ax11, ax12, ax13, ax14, ax15, ax16, ax17, ok_day, ok_many, ok_leans, ok_text, ne_day_many, ne_day_leans, ne_day_text]
theorem flags_pence (S : Sto) (h : Own.excs.contains 11 = true) : (D__law_flags 11 [some (.p .exn), none, none, none, none] S).out = .ok (.p (.tup [.str (Str.ofString "pence")])) S := by
  unfold D__law_flags
  simp [iE1 _ _ _ h, iE2 _ _ h, iE3 _ _ h, parentOf, e_lm, LIM, add_lst, List.getElem?_cons_zero, List.getElem?_cons_succ, -getElem?_pos, mCountF, mIndexF, flatP, eqP, firstP, mEq, mNe, dataOf, toD, toDL, PyData.eqv, PyData.eqvAll, ax1, ax2, ax3, ax4, ax5, ax6, ax7, ax8, ax9, ax10, ax11, ax12, ax13, ax14, ax15, ax16, ax17, ok_pence, ok_many, ok_leans, ok_text, ne_pence_many, ne_pence_leans, ne_pence_text]
theorem flags_name (S : Sto) (h : Own.excs.contains 12 = true) : (D__law_flags 12 [some (.p .exn), none, none, none, none] S).out = .ok (.p (.tup [.str (Str.ofString "name")])) S := by
  unfold D__law_flags
  simp [iE1 _ _ _ h, iE2 _ _ h, iE3 _ _ h, parentOf, e_lm, LIM, add_lst, List.getElem?_cons_zero, List.getElem?_cons_succ, -getElem?_pos, mCountF, mIndexF, flatP, eqP, firstP, mEq, mNe, dataOf, toD, toDL, PyData.eqv, PyData.eqvAll, ax1, ax2, ax3, ax4, ax5, ax6, ax7, ax8, ax9, ax10, ax11, ax12, ax13, ax14, ax15, ax16, ax17, ok_name, ok_many, ok_leans, ok_text, ne_name_many, ne_name_leans, ne_name_text]
theorem flags_missing (S : Sto) (h : Own.excs.contains 13 = true) : (D__law_flags 13 [some (.p .exn), none, none, none, none] S).out = .ok (.p (.tup [.str (Str.ofString "missing")])) S := by
  unfold D__law_flags
  simp [iE1 _ _ _ h, iE2 _ _ h, iE3 _ _ h, parentOf, e_lm, LIM, add_lst, List.getElem?_cons_zero, List.getElem?_cons_succ, -getElem?_pos, mCountF, mIndexF, flatP, eqP, firstP, mEq, mNe, dataOf, toD, toDL, PyData.eqv, PyData.eqvAll, ax1, ax2, ax3, ax4, ax5, ax6, ax7, ax8, ax9, ax10, ax11, ax12, ax13, ax14, ax15, ax16, ax17, ok_missing, ok_many, ok_leans, ok_text, ne_missing_many, ne_missing_leans, ne_missing_text]
theorem flags_twice (S : Sto) (h : Own.excs.contains 14 = true) : (D__law_flags 14 [some (.p .exn), none, none, none, none] S).out = .ok (.p (.tup [.str (Str.ofString "twice")])) S := by
  unfold D__law_flags
  simp [iE1 _ _ _ h, iE2 _ _ h, iE3 _ _ h, parentOf, e_lm, LIM, add_lst, List.getElem?_cons_zero, List.getElem?_cons_succ, -getElem?_pos, mCountF, mIndexF, flatP, eqP, firstP, mEq, mNe, dataOf, toD, toDL, PyData.eqv, PyData.eqvAll, ax1, ax2, ax3, ax4, ax5, ax6, ax7, ax8, ax9, ax10, ax11, ax12, ax13, ax14, ax15, ax16, ax17, ok_twice, ok_many, ok_leans, ok_text, ne_twice_many, ne_twice_leans, ne_twice_text]
theorem flags_deed (S : Sto) (h : Own.excs.contains 15 = true) : (D__law_flags 15 [some (.p .exn), none, none, none, none] S).out = .ok (.p (.tup [.str (Str.ofString "deed")])) S := by
  unfold D__law_flags
  simp [iE1 _ _ _ h, iE2 _ _ h, iE3 _ _ h, parentOf, e_lm, LIM, add_lst, List.getElem?_cons_zero, List.getElem?_cons_succ, -getElem?_pos, mCountF, mIndexF, flatP, eqP, firstP, mEq, mNe, dataOf, toD, toDL, PyData.eqv, PyData.eqvAll, ax1, ax2, ax3, ax4, ax5, ax6, ax7, ax8, ax9, ax10, ax11, ax12, ax13, ax14, ax15, ax16, ax17, ok_deed, ok_many, ok_leans, ok_text, ne_deed_many, ne_deed_leans, ne_deed_text]
theorem flags_sheet (S : Sto) (h : Own.excs.contains 16 = true) : (D__law_flags 16 [some (.p .exn), none, none, none, none] S).out = .ok (.p (.tup [.str (Str.ofString "sheet")])) S := by
  unfold D__law_flags
  simp [iE1 _ _ _ h, iE2 _ _ h, iE3 _ _ h, parentOf, e_lm, LIM, add_lst, List.getElem?_cons_zero, List.getElem?_cons_succ, -getElem?_pos, mCountF, mIndexF, flatP, eqP, firstP, mEq, mNe, dataOf, toD, toDL, PyData.eqv, PyData.eqvAll, ax1, ax2, ax3, ax4, ax5, ax6, ax7, ax8, ax9, ax10, ax11, ax12, ax13, ax14, ax15, ax16, ax17, ok_sheet, ok_many, ok_leans, ok_text, ne_sheet_many, ne_sheet_leans, ne_sheet_text]
theorem flags_steps (S : Sto) (h : Own.excs.contains 17 = true) : (D__law_flags 17 [some (.p .exn), none, none, none, none] S).out = .ok (.p (.tup [.str (Str.ofString "steps")])) S := by
  unfold D__law_flags
  simp [iE1 _ _ _ h, iE2 _ _ h, iE3 _ _ h, parentOf, e_lm, LIM, add_lst, List.getElem?_cons_zero, List.getElem?_cons_succ, -getElem?_pos, mCountF, mIndexF, flatP, eqP, firstP, mEq, mNe, dataOf, toD, toDL, PyData.eqv, PyData.eqvAll, ax1, ax2, ax3, ax4, ax5, ax6, ax7, ax8, ax9, ax10, ax11, ax12, ax13, ax14, ax15, ax16, ax17, ok_steps, ok_many, ok_leans, ok_text, ne_steps_many, ne_steps_leans, ne_steps_text]
theorem flags_wishes (S : Sto) (h : Own.excs.contains 18 = true) : (D__law_flags 18 [some (.p .exn), none, none, none, none] S).out = .ok (.p (.tup [.str (Str.ofString "wishes")])) S := by
  unfold D__law_flags
  simp [iE1 _ _ _ h, iE2 _ _ h, iE3 _ _ h, parentOf, e_lm, LIM, add_lst, List.getElem?_cons_zero, List.getElem?_cons_succ, -getElem?_pos, mCountF, mIndexF, flatP, eqP, firstP, mEq, mNe, dataOf, toD, toDL, PyData.eqv, PyData.eqvAll, ax1, ax2, ax3, ax4, ax5, ax6, ax7, ax8, ax9, ax10, ax11, ax12, ax13, ax14, ax15, ax16, ax17, ok_wishes, ok_many, ok_leans, ok_text, ne_wishes_many, ne_wishes_leans, ne_wishes_text]
theorem flags_line (S : Sto) (h : Own.excs.contains 19 = true) : (D__law_flags 19 [some (.p .exn), none, none, none, none] S).out = .ok (.p (.tup [.str (Str.ofString "line")])) S := by
  unfold D__law_flags
  simp [iE1 _ _ _ h, iE2 _ _ h, iE3 _ _ h, parentOf, e_lm, LIM, add_lst, List.getElem?_cons_zero, List.getElem?_cons_succ, -getElem?_pos, mCountF, mIndexF, flatP, eqP, firstP, mEq, mNe, dataOf, toD, toDL, PyData.eqv, PyData.eqvAll, ax1, ax2, ax3, ax4, ax5, ax6, ax7, ax8, ax9, ax10, ax11, ax12, ax13, ax14, ax15, ax16, ax17, ok_line, ok_many, ok_leans, ok_text, ne_line_many, ne_line_leans, ne_line_text]
theorem flags_out (c : Nat) (fs : List (String × PV)) (v : PV) (h : FL c fs = some v) : nx v = true ∧ ∀ S, (D__law_flags c (envOf 5 [.p .exn]) S).out = .ok (.p v) S := by
  obtain ⟨hc, rfl, w, hw, rfl⟩ := fl_some h
  refine ⟨rfl, fun S => ?_⟩
  unfold wordOf at hw
  split at hw <;> cases hw
  · exact flags_note S hc
  · exact flags_notes S hc
  · exact flags_kind S hc
  · exact flags_prices S hc
  · exact flags_months S hc
  · exact flags_day S hc
  · exact flags_pence S hc
  · exact flags_name S hc
  · exact flags_missing S hc
  · exact flags_twice S hc
  · exact flags_deed S hc
  · exact flags_sheet S hc
  · exact flags_steps S hc
  · exact flags_wishes S hc
  · exact flags_line S hc
end Sh

set_option maxRecDepth 100000
set_option maxHeartbeats 1000000
namespace Sh
open PySem L2 Dn
variable [Own]
/-! ### what is refused -/
/-- values that are told apart by their type -/
def plainV : PV → Bool
  | .non => true | .bl _ => true | .int _ => true | .str _ => true | .tup _ => true | .lst _ => true | _ => false
def isInt : PV → Bool
  | .int _ => true | _ => false
def inR (v : PV) (lo hi : Int) : Bool := match v with
  | .int x => decide (lo ≤ x) && decide (x ≤ hi)
  | _ => false
def isP : PV → Bool
  | .int x => decide (0 ≤ x) | _ => false
@[simp] theorem isi_ty (a b : String) : isi (.ty a) (.ty b) = kitB a b := rfl
theorem whole_any (S : Sto) (v : PV) (h : plainV v = true) : D_is_whole [.p v] S = .ok (.p (.bl (isInt v))) S := by
  unfold D_is_whole
  cases v <;> first | (simp [plainV] at h; done) | skip
  all_goals simp [envOf, isInt]
theorem within_any (S : Sto) (v : PV) (lo hi : Int) (h : plainV v = true) : D_is_within [.p v, .p (.int lo), .p (.int hi)] S = .ok (.p (.bl (inR v lo hi))) S := by
  have hw := whole_any S v h
  cases v with
  | int x => exact within_ok S x lo hi
  | _ => first | (simp [plainV] at h; done) | (unfold D_is_within; simp [hw, envOf, isInt, inR])
theorem pence_any (S : Sto) (v : PV) (h : plainV v = true) : D_is_pence [.p v] S = .ok (.p (.bl (isP v))) S := by
  have hw := whole_any S v h
  cases v with
  | int x => unfold D_is_pence; simp [hw, envOf, isInt, isP]
  | _ => first | (simp [plainV] at h; done) | (unfold D_is_pence; simp [hw, envOf, isInt, isP])
section
variable {ls : List Int} (h : Ls ls) (S : Sto)
include h
theorem place_bad {v : PV} (hv : plainV v = true) (hn : inR v 0 (ls.sum - 1) = false) : D_Months_place_of [.p (Mo ls), .p v] S = .exc 10 [] S := by
  have ht := h.tot
  unfold D_Months_place_of
  simp [envOf, fl_p, ht, within_any _ _ _ _ hv, hn]
theorem span_bad {v : PV} (hv : plainV v = true) (hn : inR v 0 ((ls.length : Int) - 1) = false) : D_Months_span_of [.p (Mo ls), .p v] S = .exc 10 [] S := by
  unfold D_Months_span_of
  simp [envOf, fl_l, within_any _ _ _ _ hv, hn]
omit h in
theorem share_badP {v u : PV} (hv : plainV v = true) (hn : isP v = false) : D_Months_share [.p (Mo ls), .p v, .p u] S = .exc 11 [] S := by
  unfold D_Months_share
  simp [envOf, pence_any _ _ hv, hn]
theorem share_badD {p : Int} {v : PV} (hp : 0 ≤ p) (hv : plainV v = true) (hn : inR v 0 (ls.sum - 1) = false) : D_Months_share [.p (Mo ls), .p (.int p), .p v] S = .exc 10 [] S := by
  have hb := place_bad h S hv hn
  unfold D_Months_share
  simp [envOf, pence_ok, hp, is_1, hb]
theorem stretch_bad1 {v u : PV} (hv : plainV v = true) (hv2 : Dn.isNon (.p v) = false) (hn : inR v 0 (ls.sum - 1) = false) : D_Months_stretch_of [.p (Mo ls), .p v, .p u] S = .exc 10 [] S := by
  have ht := h.tot
  unfold D_Months_stretch_of
  by_cases hu : Dn.isNon (.p u) = true
  · simp [envOf, fl_p, ht, within_any _ _ _ _ hv, hn, hv2, hu]
  · have hu : Dn.isNon (.p u) = false := by simpa using hu
    simp [envOf, fl_p, ht, within_any _ _ _ _ hv, hn, hv2, hu]
theorem stretch_bad2 {a : Int} {u : PV} (h0 : 0 ≤ a) (h1 : a < ls.sum) (hv : plainV u = true) (hv2 : Dn.isNon (.p u) = false) (hn : inR u a ls.sum = false) : D_Months_stretch_of [.p (Mo ls), .p (.int a), .p u] S = .exc 10 [] S := by
  have ht := h.tot
  have e1 : decide (a ≤ ls.sum - 1) = true := decide_eq_true (by omega)
  unfold D_Months_stretch_of
  simp [envOf, fl_p, ht, within_ok, within_any _ _ _ _ hv, hn, hv2, h0, e1]
omit h in
theorem shares_badP {v x y : PV} (hv : plainV v = true) (hn : isP v = false) : D_Months_shares [.p (Mo ls), .p v, .p x, .p y] S = .exc 11 [] S := by
  unfold D_Months_shares
  simp [envOf, pence_any _ _ hv, hn]
omit h in
theorem shares_badS {p : Int} {x y : PV} (hp : 0 ≤ p) (hs : D_Months_stretch_of [.p (Mo ls), .p x, .p y] S = .exc 10 [] S) : D_Months_shares [.p (Mo ls), .p (.int p), .p x, .p y] S = .exc 10 [] S := by
  unfold D_Months_shares
  simp [envOf, pence_ok, hp, is_5, hs]
end
/-! ### a lambda that is tried -/
theorem word_exc {told : Bool} {c : Nat} {w : String} {m : DE} {env : En} {S S1 : Sto} (hc : Own.excs.contains c = true) (hw : wordOf c = some w) (e : m env S = .exc c [] S1) : dWord told FL m env S = .ok (.p (.tup [.str (Str.ofString w)])) S1 := by
  unfold dWord
  rw [e]
  simp only [fl_word hc hw]
theorem word_told {m : DE} {env : En} {S S1 : Sto} {v : PV} (e : m env S = .ok (.p v) S1) : dWord true FL m env S = .ok (.p (.tup [.str "told", v])) S1 := by
  unfold dWord
  rw [e]
  rfl
theorem word_gives {m : DE} {env : En} {S S1 : Sto} {v : PV} (e : m env S = .ok (.p v) S1) : dWord false FL m env S = .ok (.p v) S1 := by
  unfold dWord
  rw [e]
  rfl
@[simp] theorem e_app (mo me : DE) (env : En) (S : Sto) : dApp mo me env S = (mo env S).bind fun l S1 => match l with
  | .ob i => match S1[i]? with
    | some (.lst xs) => (me env S1).bind fun v S2 => match S2[i]? with
      | some (.lst ys) => if ys.length < LIM then .ok (.p .non) (S2.set i (.lst (ys ++ [v]))) else .no
      | _ => .no
    | _ => .no
  | _ => .no := rfl
@[simp] theorem e_neg (ma : DE) (env : En) (S : Sto) : dNeg ma env S = (ma env S).bind fun v S1 => match v with
  | .p (.int i) => .ok (.p (.int (-i))) S1
  | _ => .no := rfl
end Sh

set_option maxRecDepth 100000
namespace Dn
open PySem L2
/-! equations of the later combinators -/
@[simp] theorem e_setG (m : DG) (ma : DE) (env : En) (S : Sto) : dSetG m ma env S = (ma env S).bindS fun v S1 => m v env S1 := rfl
@[simp] theorem e_gn (i : Nat) (u : VV) (env : En) (S : Sto) : dGN i u env S = .nx (env.set i (some u)) S := rfl
@[simp] theorem e_gsub (mo mi : DE) (u : VV) (env : En) (S : Sto) : dGSub mo mi u env S = (mo env S).bindS fun o S2 => (mi env S2).bindS fun i S3 => setO o i u env S3 := rfl
@[simp] theorem e_gfld (c0 : Nat) (f : String) (mo : DE) (u : VV) (env : En) (S : Sto) : dGFld c0 f mo u env S = (mo env S).bindS fun o S2 => match o with
  | .ob j => match S2[j]? with
    | some (.ins c fs) => if c = c0 ∧ fs.length < 1000 then .nx env (S2.set j (.ins c (putA f u fs))) else .no
    | _ => .no
  | _ => .no := rfl
@[simp] theorem e_gnil (env : En) (S : Sto) : dGNil [] env S = .nx env S := rfl
@[simp] theorem e_gcons (m : DG) (ms : DGs) (u : VV) (r : List VV) (env : En) (S : Sto) : dGCons m ms (u :: r) env S = (m u env S).then fun e S' => ms r e S' := rfl
@[simp] theorem e_gtup (n : Nat) (ms : DGs) (xs : List PV) (env : En) (S : Sto) : dGTup n ms (.p (.tup xs)) env S = if xs.length = n then ms (xs.map .p) env S else .no := by
  show (if (xs.map VV.p).length = n then ms (xs.map .p) env S else .no) = _
  rw [List.length_map]
@[simp] theorem e_setD (mo mi mv : DE) (env : En) (S : Sto) : dSetD mo mi mv env S = (mv env S).bindS fun w S1 => (mo env S1).bindS fun o S2 => (mi env S2).bindS fun i S3 => match o, i with
  | .ob j, .p k => match S3[j]? with
    | some (.dic t kvs) => if keyOk t k = true ∧ kvs.length < LIM then .nx env (S3.set j (.dic t (putD kvs k w))) else .no
    | _ => .no
  | _, _ => .no := rfl
@[simp] theorem e_newD (t : Bool) (env : En) (S : Sto) : dNewD t env S = .ok (.ob S.length) (S ++ [.dic t []]) := rfl
@[simp] theorem e_tupS (ms : List DE) (env : En) (S : Sto) : dTupS ms env S = args ms env S fun vs S1 => if vs.length ≤ LIM then .ok (.ob S1.length) (S1 ++ [.tup vs]) else .no := rfl
@[simp] theorem e_disp (ms : List (DE × DE)) (env : En) (S : Sto) : dDisp ms env S = args (ms.flatMap fun p => [p.1, p.2]) env (S ++ [.dic false []]) fun vs S1 =>
  if keysOk vs = true ∧ Sto.same (S1.take (S.length + 1)) (S ++ [.dic false []]) = true then .ok (.ob S.length) (S1.set S.length (.dic false ((unpair vs).foldl (fun acc e => putD acc e.1 e.2) []))) else .no := rfl
@[simp] theorem e_kget (kvs : List (PV × PV)) (mk mx : DE) (env : En) (S : Sto) : dKGet kvs mk mx env S = (mk env S).bind fun k S1 => (mx env S1).bind fun x S2 => RE.of S2 (mKGet kvs k x) := rfl
@[simp] theorem e_par3 (i j l : Nat) (m m' m'' : DE) (env : En) (S : Sto) : dPar3 i j l m m' m'' env S = (m env S).bindS fun v S1 => (m' env S1).bindS fun u S2 => (m'' env S2).bindS fun t S3 => .nx (((env.set i (some v)).set j (some u)).set l (some t)) S3 := rfl
@[simp] theorem e_is (m : DE) (env : En) (S : Sto) : dIS m env S = (m env S).bindI fun v S1 => match v with
  | .p (.str x) => .ok ((signs x).map .p) (fun _ => true) S1
  | _ => .no := rfl
theorem io_ob {S : Sto} {j c : Nat} {fs : List (String × VV)} (h : S[j]? = some (.ins c fs)) : insOf S (.ob j) = some (c, fs) := by simp [insOf, h]
theorem f_ob {S : Sto} {j c : Nat} {fs : List (String × VV)} (f : String) (h : S[j]? = some (.ins c fs)) : fldOf c f S (.ob j) = fs.lookup f := by simp [fldOf, io_ob h]
theorem is_ob {S : Sto} {j c : Nat} {fs : List (String × VV)} (mn : String) (h : S[j]? = some (.ins c fs)) : isIns c mn S (.ob j) = (fs.lookup mn).isNone := by
  simp [isIns, io_ob h]
theorem d_ob {S : Sto} {j : Nat} {t : Bool} {kvs : List (PV × VV)} (h : S[j]? = some (.dic t kvs)) : dicOf S (.ob j) = some (t, kvs) := by simp [dicOf, h]
theorem g_ob {S : Sto} {j : Nat} {t : Bool} {kvs : List (PV × VV)} (k : PV) (h : S[j]? = some (.dic t kvs)) : mDGet (.ob j) (.p k) S = if keyOk t k = true then getK k kvs else none := by
  simp [mDGet, d_ob h]
end Dn

set_option maxRecDepth 100000
set_option maxHeartbeats 2000000
/-! texts: their signs, joined -/
namespace Sh
open PySem L2 Dn
theorem sk_iff {x : Str} : PyData.strOk x = true ↔ ∀ c ∈ x.cps.toList, c < 0x110000 := by
  unfold PyData.strOk
  rw [Array.all_eq_true']
  simp
theorem sk_app {x y : Str} (h : PyData.strOk x = true) (k : PyData.strOk y = true) : PyData.strOk (x ++ y) = true := by
  rw [sk_iff] at *
  intro c hc
  have : (x ++ y : Str).cps = x.cps ++ y.cps := rfl
  rw [this, Array.toList_append, List.mem_append] at hc
  exact hc.elim (h c) (k c)
theorem sk_of (s : String) : PyData.strOk (Str.ofString s) = true := by
  rw [sk_iff, Str.ofString_eq_toList]
  intro c hc
  simp only [List.mem_map] at hc
  obtain ⟨z, _, rfl⟩ := hc
  have := z.valid
  unfold UInt32.isValidChar Nat.isValidChar at this
  show z.val.toNat < _
  omega
theorem sk_join {sep : Str} (h : PyData.strOk sep = true) : ∀ {ts : List Str}, (∀ t ∈ ts, PyData.strOk t = true) → PyData.strOk (Str.join sep ts) = true
  | [], _ => by unfold Str.join; decide +kernel
  | [x], hx => by unfold Str.join; exact hx x List.mem_cons_self
  | x :: y :: r, hx => by
    unfold Str.join
    exact sk_app (sk_app (hx x List.mem_cons_self) h) (sk_join h fun t ht => hx t (List.mem_cons_of_mem _ ht))
theorem sk_tup {ts : List Str} (h : ∀ t ∈ ts, PyData.strOk t = true) : PyData.strOk (tupleText ts) = true := by
  unfold tupleText
  exact sk_app (sk_app (sk_of "(") (sk_join (sk_of ", ") h)) (sk_of _)
theorem sk_int (i : Int) : PyData.strOk (PyData.shown (.int i)) = true := sk_of _
theorem pence_short {c : Int} (h0 : 0 ≤ c) (h1 : c ≤ 1000000000000000000000000000000) : (PyData.shown (.int c)).length ≤ 31 ∧ c.natAbs.log2 < 1920 := by
  refine ⟨PyProof.Rows.toString_length_le h0 (k := 31) (by decide) (by omega), ?_⟩
  by_cases h : c.natAbs = 0
  · rw [h]; decide
  · have h2 : c.natAbs < 2 ^ 110 := Nat.lt_of_le_of_lt (m := 1000000000000000000000000000000) (by omega) (by decide)
    exact Nat.lt_trans ((Nat.log2_lt h).mpr h2) (by decide)
theorem txt_join (a : Str) (ys : List Str) : Txt.join a ys = Str.join a ys := eq_of_beq (PyProof.Rows.join_plain_closes a ys)
theorem len_app (a b : Str) : (a ++ b).length = a.length + b.length := by
  show (a.cps ++ b.cps).size = _
  rw [Array.size_append]; rfl
theorem join_len (a : Str) : ∀ ys : List Str, (Str.join a ys).length ≤ (ys.map (·.length)).sum + ys.length * a.length
  | [] => by unfold Str.join; show (#[] : Array Nat).size ≤ _; simp
  | [x] => by unfold Str.join; simp
  | x :: y :: r => by
    unfold Str.join
    rw [len_app, len_app]
    have := join_len a (y :: r)
    rw [List.map_cons, List.sum_cons, List.length_cons, Nat.succ_mul]
    omega
theorem sumS_le {B : Nat} : ∀ {ys : List Str}, (∀ y ∈ ys, y.length ≤ B) → (ys.map (·.length)).sum ≤ ys.length * B
  | [], _ => by simp
  | y :: ys, h => by
    have h1 := h y List.mem_cons_self
    have h2 := sumS_le fun z hz => h z (List.mem_cons_of_mem _ hz)
    rw [List.map_cons, List.sum_cons, List.length_cons, Nat.succ_mul]
    omega
theorem allStr_map : ∀ ys : List Str, allStr (ys.map PV.str) = some ys
  | [] => rfl
  | y :: ys => by rw [List.map_cons]; show (allStr (ys.map PV.str)).map (y :: ·) = _; rw [allStr_map ys]; rfl
theorem join_ok {mo me : DE} {env : En} {S S2 : Sto} {a : Str} {ys : List Str} (h1 : mo env S = .ok (.p (.str a)) S) (h2 : me env S = .ok (.p (.lst (ys.map .str))) S2) (hl : (ys.map (·.length)).sum + ys.length * a.length ≤ 16000000) :
    dJoin mo me env S = .ok (.p (.str (Str.join a ys))) S2 := by
  unfold dJoin
  rw [h1]
  simp only [RE.bind_ok, h2, asList, Option.bind_some, allStr_map, hl, if_true, txt_join]
theorem cut_to {α : Type} (xs : List α) {n : Int} (h0 : 0 ≤ n) (h1 : n ≤ xs.length) : cutP xs none (some n) = xs.take n.toNat := by
  unfold cutP
  rw [HT.sIx_none, show n = ((n.toNat : Nat) : Int) by omega, HT.sIx_nat]
  simp
  omega
theorem cut_from {α : Type} (xs : List α) {n : Int} (h0 : 0 ≤ n) (h1 : n ≤ xs.length) : cutP xs (some n) none = xs.drop n.toNat := by
  unfold cutP
  rw [HT.sIx_none, show n = ((n.toNat : Nat) : Int) by omega, HT.sIx_nat]
  have e : min n.toNat xs.length = n.toNat := Nat.min_eq_left (by omega)
  rw [show (((n.toNat : Nat) : Int)).toNat = n.toNat by omega, e, List.take_of_length_le (by rw [List.length_drop]; omega)]
theorem cut_last {α : Type} (xs : List α) : cutP xs none (some (-1)) = xs.dropLast := by
  unfold cutP
  rw [HT.sIx_none]
  show (xs.drop 0).take ((-1 + (xs.length : Int)).toNat - 0) = _
  rw [List.drop_zero, List.dropLast_eq_take]
  congr 1
  omega
/-- one thing exchanged -/
theorem cut_swap {α β : Type} (g : α → β) (xs : List α) {n : Int} (h0 : 0 ≤ n) (h1 : n < xs.length) (y : α) : cutP (xs.map g) none (some n) ++ [g y] ++ cutP (xs.map g) (some (n + 1)) none = (xs.set n.toNat y).map g := by
  rw [cut_to _ h0 (by simp; omega), cut_from _ (by omega) (by simp; omega), ← List.map_take, ← List.map_drop]
  have : xs.set n.toNat y = xs.take n.toNat ++ y :: xs.drop (n.toNat + 1) := List.set_eq_take_append_cons_drop.trans (by rw [if_pos (by omega)])
  rw [this, show (n + 1).toNat = n.toNat + 1 by omega]
  simp
end Sh

set_option maxRecDepth 100000
set_option maxHeartbeats 2000000
namespace Sh
open PySem L2 Dn
variable [Own]
/-! ### months shown -/
def intT (l : Int) : Str := Str.ofString (toString l)
theorem intT_ok {l : Int} (h0 : 0 ≤ l) (h1 : l ≤ 1000000000000000000000000000000) (S : Sto) : mStr [.p (.int l)] S = some (.p (.str (intT l))) ∧ (intT l).length ≤ 31 := by
  obtain ⟨a, b⟩ := pence_short h0 h1
  exact ⟨by simp [mStr, mB1, b, intT], a⟩
theorem emp_app (a : Str) : Str.empty ++ a = a := by
  show Str.mk (#[] ++ a.cps) = a
  rw [Array.empty_append]
theorem texts_ok {el : DE} (hel : ∀ (v0 : Option VV) (l : Int) (S : Sto), el [v0, some (.p (.int l))] S = RE.of S (mStr [.p (.int l)] S)) {ls : List Int} (h : Ls ls) (S : Sto) : dComp [1] (.nm 1) (dIT (dFld 22 "lengths" (dVar 0))) dYes el [some (.p (Mo ls)), none] S = .ok (.p (.lst ((ls.map intT).map .str))) S := by
  have key := compL_map (t := .nm 1) (tt := dYes) (el := el) (env := wipeE [some (.p (Mo ls)), none] [1]) (S := S) (fun v => match v with | .p (.int l) => .str (intT l) | _ => .non) ((ls.map PV.int).map .p) [] (fun x hx => by
    simp only [List.mem_map] at hx
    obtain ⟨v, ⟨l, hl, rfl⟩, rfl⟩ := hx
    obtain ⟨h1, h2⟩ := h.of l hl
    refine ⟨[some (.p (Mo ls)), some (.p (.int l))], rfl, rfl, ?_⟩
    rw [hel, (intT_ok (by omega) (by omega) S).1]; rfl) (by have := h.le; show 0 + _ ≤ 1000000; simp; omega)
  rw [e_comp, show dIT (dFld 22 "lengths" (dVar 0)) [some (.p (Mo ls)), none] S = .ok ((ls.map PV.int).map .p) (fun _ => true) S from by simp [fl_l]]
  simp only [RI.bindE_ok, key]
  simp [Function.comp_def]
def strT (ls : List Int) : Str := Str.join (Str.ofString " ") (ls.map intT)
def commT (ls : List Int) : Str := Str.join (Str.ofString ", ") (ls.map intT)
def reprT (ls : List Int) : Str := Str.ofString "Months(" ++ commT ls ++ Str.ofString ")"
theorem sums_ok {ls : List Int} (h : Ls ls) : ((ls.map intT).map (·.length)).sum + (ls.map intT).length * 2 ≤ 1000 := by
  have len : ∀ y ∈ ls.map intT, y.length ≤ 31 := fun y hy => by
    obtain ⟨x, hx, rfl⟩ := List.mem_map.mp hy
    have := h.of x hx
    exact (intT_ok (by omega) (by omega) []).2
  have sm := sumS_le len
  rw [List.length_map] at sm ⊢
  have := h.le
  omega
theorem strT_sk (ls : List Int) : PyData.strOk (strT ls) = true := sk_join (sk_of _) fun t ht => by
  obtain ⟨x, _, rfl⟩ := List.mem_map.mp ht
  exact sk_of _
theorem commT_sk (ls : List Int) : PyData.strOk (commT ls) = true := sk_join (sk_of _) fun t ht => by
  obtain ⟨x, _, rfl⟩ := List.mem_map.mp ht
  exact sk_of _
theorem reprT_sk (ls : List Int) : PyData.strOk (reprT ls) = true := sk_app (sk_app (sk_of _) (commT_sk ls)) (sk_of _)
theorem commT_len {ls : List Int} (h : Ls ls) : (commT ls).length ≤ 1000 := by
  have a := join_len (Str.ofString ", ") (ls.map intT)
  have b := sums_ok h
  have c : (Str.ofString ", ").length = 2 := by decide +kernel
  rw [c] at a
  exact Nat.le_trans a b
theorem mstr_ok {ls : List Int} (h : Ls ls) (S : Sto) : D_Months___str__ [.p (Mo ls)] S = .ok (.p (.str (strT ls))) S := by
  have c : (Str.ofString " ").length = 1 := by decide +kernel
  have b := sums_ok h
  unfold D_Months___str__
  rw [e_fn, if_pos (by rfl), show envOf 2 [VV.p (Mo ls)] = [some (.p (Mo ls)), none] from rfl, e_ret, join_ok (a := Str.ofString " ") rfl (texts_ok (fun _ _ _ => rfl) h S) (by rw [c]; omega)]
  rfl
theorem mrepr_ok {ls : List Int} (h : Ls ls) (S : Sto) : D_Months___repr__ [.p (Mo ls)] S = .ok (.p (.str (reprT ls))) S := by
  have c : (Str.ofString ", ").length = 2 := by decide +kernel
  have b := sums_ok h
  have l1 := commT_len h
  have j := join_ok (a := Str.ofString ", ") (mo := dC (.str (Str.ofString ", "))) (env := [some (.p (Mo ls)), none]) (S := S) rfl (texts_ok (el := C_Months___repr___1) (fun _ _ _ => rfl) h S) (by rw [c]; omega)
  have hf : dFmt (dJoin (dC (.str (Str.ofString ", "))) (dComp [1] (.nm 1) (dIT (dFld 22 "lengths" (dVar 0))) dYes C_Months___repr___1)) [some (.p (Mo ls)), none] S = .ok (.p (.str (commT ls))) S := by
    unfold dFmt
    rw [j]
    show (match fmtOf (.p (.str (commT ls))) with | some a => RE.ok (.p (.str a)) S | none => .no) = _
    have : (commT ls).length ≤ 16000000 := by omega
    simp [fmtOf, this]
  have m1 : (Str.ofString "Months(").length = 7 := by decide +kernel
  have m2 : (Str.ofString ")").length = 1 := by decide +kernel
  unfold D_Months___repr__
  rw [e_fn, if_pos (by rfl), show envOf 2 [VV.p (Mo ls)] = [some (.p (Mo ls)), none] from rfl, e_ret]
  have : dFStr [(dC (.str (Str.ofString "Months("))), (dFmt (dJoin (dC (.str (Str.ofString ", "))) (dComp [1] (.nm 1) (dIT (dFld 22 "lengths" (dVar 0))) dYes C_Months___repr___1))), (dC (.str (Str.ofString ")")))] [some (.p (Mo ls)), none] S = .ok (.p (.str (reprT ls))) S := by
    unfold dFStr dJs dJs dJs dJs
    simp only [hf, e_c, RE.bind_ok, emp_app, len_app, m1, m2]
    rw [if_pos (by omega), if_pos (by omega), if_pos (by omega)]
    rfl
  rw [this]
  rfl
/-! ### months compared -/
theorem intsE : ∀ ls ks : List Int, PyData.eqvAll (ls.map PyData.int) (ks.map PyData.int) = decide (ls = ks)
  | [], [] => by simp [PyData.eqvAll]
  | [], k :: ks => by simp [PyData.eqvAll]
  | l :: ls, [] => by simp [PyData.eqvAll]
  | l :: ls, k :: ks => by
    rw [List.map_cons, List.map_cons, PyData.eqvAll, intsE ls ks]
    simp [PyData.eqv]
    by_cases h1 : l = k <;> by_cases h2 : ls = ks <;> simp [h1, h2]
theorem intsD (f : Nat) : ∀ ls : List Int, toDL (f + 1) (ls.map PV.int) = some (ls.map PyData.int)
  | [] => rfl
  | l :: ls => by rw [List.map_cons, List.map_cons, toDL, intsD f ls]; rfl
theorem tupE (ls ks : List Int) (S : Sto) : mEq (.p (.tup (ls.map .int))) (.p (.tup (ks.map .int))) S = some (.p (.bl (decide (ls = ks)))) := by
  have d : ∀ ls : List Int, dataOf S (.p (.tup (ls.map .int))) = some (.tuple (ls.map .int)) := fun ls => by
    show toD 60 _ = _
    rw [toD, intsD 58]; rfl
  unfold mEq
  rw [d, d]
  simp [PyData.eqv, intsE]
theorem tupN (ls ks : List Int) (S : Sto) : mNe (.p (.tup (ls.map .int))) (.p (.tup (ks.map .int))) S = some (.p (.bl (!decide (ls = ks)))) := by
  have e := tupE ls ks S
  unfold mEq at e
  unfold mNe
  revert e
  cases dataOf S (.p (.tup (ls.map .int))) with
  | none => exact nofun
  | some a => cases dataOf S (.p (.tup (ks.map .int))) with
    | none => exact nofun
    | some b => simp
/-- things of other kinds -/
def othV (v : PV) : Bool := match v with
  | .non => true | .bl _ => true | .int _ => true | .str _ => true | .tup _ => true | .lst _ => true | .dic _ _ => true | _ => false
theorem isi22 (ho : Own.own 22 = true) : isi (.cls 22) (.cls 22) = some true := by simp [isi, ho]
theorem isi22o (ho : Own.own 22 = true) {n : String} (h : baseT n = true) : isi (.ty n) (.cls 22) = some false := by simp [isi, ho, h]
theorem meq_ok (ho : Own.own 22 = true) (ls ks : List Int) (S : Sto) : D_Months___eq__ [.p (Mo ls), .p (Mo ks)] S = .ok (.p (.bl (decide (ls = ks)))) S := by
  unfold D_Months___eq__
  simp [envOf, mIsi, mB2, tagOf, Mo, clsTag, isi22 ho, List.getElem?_cons_zero, List.getElem?_cons_succ, -getElem?_pos]
  have : ∀ ks, fldOf 22 "lengths" S (.p (.ins 22 [("lengths", .tup (ks.map .int)), ("places", .lst (plc 0 ks))])) = some (.p (.tup (ks.map .int))) := fun ks => fl_l ks S
  simp [this, tupE]
theorem meq_no (ho : Own.own 22 = true) (ls : List Int) {v : PV} (hv : othV v = true) (S : Sto) : D_Months___eq__ [.p (Mo ls), .p v] S = .ok (.p (.bl false)) S := by
  unfold D_Months___eq__
  cases v <;> first | (cases hv; done) | skip
  all_goals
    have b := fun n => @isi22o _ ho n
    simp [envOf, mIsi, mB2, tagOf, clsTag, isi22o ho (n := "NoneType") (by decide), isi22o ho (n := "bool") (by decide), isi22o ho (n := "int") (by decide), isi22o ho (n := "str") (by decide), isi22o ho (n := "tuple") (by decide), isi22o ho (n := "list") (by decide), isi22o ho (n := "dict") (by decide), List.getElem?_cons_zero, List.getElem?_cons_succ, -getElem?_pos]
theorem ab_ok (ho : Own.own 22 = true) (ls ks : List Int) (S : Sto) : eqAb isi 22 D_Months___eq__ (.p (Mo ls)) (.p (Mo ks)) S = some (decide (ls = ks)) := by
  have i : insOf S (.p (Mo ls)) = some (22, _) := rfl
  have t : okTag isi 22 (tagOf S (.p (Mo ks))) = true := by
    show okTag isi 22 (some (.cls 22)) = true
    simp [okTag, isi22 ho]
  unfold eqAb
  simp only [i, t, meq_ok ho, Sto.same_refl]
  rfl
theorem ab_no (ho : Own.own 22 = true) (ls : List Int) {v : PV} (hv : othV v = true) (S : Sto) : eqAb isi 22 D_Months___eq__ (.p (Mo ls)) (.p v) S = some false := by
  have i : insOf S (.p (Mo ls)) = some (22, _) := rfl
  have t : okTag isi 22 (tagOf S (.p v)) = true := by
    cases v <;> first | (cases hv; done) | (simp [tagOf, okTag, isi22o ho (n := "NoneType") (by decide), isi22o ho (n := "bool") (by decide), isi22o ho (n := "int") (by decide), isi22o ho (n := "str") (by decide), isi22o ho (n := "tuple") (by decide), isi22o ho (n := "list") (by decide), isi22o ho (n := "dict") (by decide)])
  unfold eqAb
  simp only [i, t, meq_no ho ls hv, Sto.same_refl]
  rfl
theorem difI : ∀ ls ks : List Int, ls ≠ ks → difL (ls.map .int) (ks.map .int) = true
  | [], [], h => absurd rfl h
  | [], k :: ks, _ => by simp [difL]
  | l :: ls, [], _ => by simp [difL]
  | l :: ls, k :: ks, h => by
    rw [List.map_cons, List.map_cons, difL, dif, Bool.or_eq_true]
    by_cases e : l = k
    · subst e
      exact .inr (difI ls ks fun z => h (by rw [z]))
    · exact .inl (by simpa using e)
theorem in_no (ho : Own.own 22 = true) (ls : List Int) {v : PV} (hv : othV v = true) (S : Sto) : mInA isi 22 D_Months___eq__ false (.p v) (.p (.lst [Mo ls])) S = some (.p (.bl false)) := by
  have a := ab_no ho ls hv S
  have t : twoOf S (Mo ls) (.p v) = true := by
    unfold twoOf Mo
    cases v <;> first | (cases hv; done) | rfl
  unfold Mo at a t ⊢
  simp [mInA, asList, inAb, eqI, a, t]
theorem in_two (ho : Own.own 22 = true) {ls ks : List Int} (h : ls ≠ ks) (S : Sto) : mInA isi 22 D_Months___eq__ false (.p (Mo ks)) (.p (.lst [Mo ls])) S = some (.p (.bl false)) := by
  have a := ab_ok ho ls ks S
  have t : twoOf S (Mo ls) (.p (Mo ks)) = true := by
    have := difI ls ks h
    show dif (Mo ls) (Mo ks) = true
    unfold Mo
    rw [dif, difF, dif, this]
    simp
  unfold Mo at a t ⊢
  simp [mInA, asList, inAb, eqI, a, t, h]
theorem in_one (ho : Own.own 22 = true) (ls : List Int) (S : Sto) : mInA isi 22 D_Months___eq__ true (.p (Mo ls)) (.p (.lst [.int 0, Mo ls])) S = some (.p (.bl false)) := by
  have a := ab_no ho ls (v := .int 0) rfl S
  have b := ab_ok ho ls ls S
  unfold Mo at a b ⊢
  simp [mInA, asList, inAb, eqI, a, b]
end Sh

set_option maxRecDepth 100000
set_option maxHeartbeats 4000000
namespace Q_k01
open PySem L2 Dn Sh
theorem ho : Own.own 22 = true := rfl
theorem Ls.rev {ls : List Int} (h : Ls ls) : Ls ls.reverse := ⟨by simpa using h.ne, by simpa using h.le, fun l hl => h.of l (by simpa using hl)⟩
theorem Ls.one {ls : List Int} (h : Ls ls) : Ls (ls.take 1) := ⟨by have := h.ne; rw [List.length_take]; omega, by have := h.le; rw [List.length_take]; omega, fun l hl => h.of l (List.mem_of_mem_take hl)⟩
theorem Ls.rep {n : Nat} {l : Int} (h1 : 1 ≤ n) (h2 : n ≤ 12) (h3 : 28 ≤ l) (h4 : l ≤ 31) : Ls (List.replicate n l) := ⟨by simpa using h1, by simpa using h2, fun x hx => by
  obtain ⟨_, rfl⟩ := List.mem_replicate.mp hx
  exact ⟨h3, h4⟩⟩
/-- the last one otherwise -/
def bendL (ls : List Int) : List Int := ls.dropLast ++ [59 - ls.getLastD 0]
theorem last_in {ls : List Int} (h : Ls ls) : ls.getLastD 0 ∈ ls := by
  have hne : ls ≠ [] := fun e => by have := h.ne; rw [e] at this; simp at this
  rw [List.getLastD_eq_getLast?, List.getLast?_eq_some_getLast hne]
  exact List.getLast_mem hne
theorem bend_ls {ls : List Int} (h : Ls ls) : Ls (bendL ls) ∧ ls ≠ bendL ls := by
  have hne : ls ≠ [] := fun e => by have := h.ne; rw [e] at this; simp at this
  have hl := h.of _ (last_in h)
  have e : ls = ls.dropLast ++ [ls.getLastD 0] := by
    rw [List.getLastD_eq_getLast?, List.getLast?_eq_some_getLast hne]
    exact (List.dropLast_concat_getLast hne).symm
  have ln : (bendL ls).length = ls.length := by rw [bendL, List.length_append, List.length_dropLast]; have := h.ne; simp; omega
  refine ⟨⟨by rw [ln]; exact h.ne, by rw [ln]; exact h.le, fun l hl2 => ?_⟩, fun z => ?_⟩
  · unfold bendL at hl2
    rcases List.mem_append.mp hl2 with q | q
    · exact h.of l (List.dropLast_subset _ q)
    · rw [List.mem_singleton] at q; omega
  · have := List.append_cancel_left (e.symm.trans z)
    simp at this
    omega
def oneL (ls : List Int) : List Int := List.replicate (1 + ls.length % 12) 28
theorem one_ls {ls : List Int} (h : Ls ls) : Ls (oneL ls) ∧ ls ≠ oneL ls := by
  have := h.ne
  have := h.le
  refine ⟨Ls.rep (by omega) (by omega) (by decide) (by decide), fun z => ?_⟩
  have := congrArg List.length z
  rw [oneL, List.length_replicate] at this
  by_cases h12 : ls.length = 12
  · rw [h12] at this; simp at this
  · rw [Nat.mod_eq_of_lt (by omega)] at this; omega
theorem last_at {ls : List Int} (h : Ls ls) : atI (ls.map PV.int) (-1) = some (.int (ls.getLastD 0)) := by
  have hne : ls ≠ [] := fun e => by have := h.ne; rw [e] at this; simp at this
  have hl := h.ne
  unfold atI
  have : ixN (ls.map PV.int).length (-1) = some (ls.length - 1) := by
    unfold ixN
    rw [List.length_map]
    simp
    omega
  rw [this, Option.bind_some, List.getElem?_map, ← List.getLast?_eq_getElem?, List.getLastD_eq_getLast?, List.getLast?_eq_some_getLast hne]
  rfl

theorem bl_ne (b : Bool) (S : Sto) : mNe (.p (.bl b)) (.p (.bl b)) S = some (.p (.bl false)) := by
  cases b <;> simp [mNe, dataOf, toD, PyData.eqv]
theorem three_ne (a : Int) {x y : Str} (hx : PyData.strOk x = true) (hy : PyData.strOk y = true) (S : Sto) : mNe (.p (.lst [.int a, .str x, .str y])) (.p (.lst [.int a, .str x, .str y])) S = some (.p (.bl false)) := by
  simp [mNe, dataOf, toD, toDL, hx, hy, PyData.eqv, PyData.eqvAll]
theorem isT (S : Sto) : mIsNotB (.p (.bl true)) (.p (.bl true)) S = some (.p (.bl false)) := rfl
theorem flat_rep (x : PV) : ∀ n : Nat, (List.replicate n [x]).flatten = List.replicate n x
  | 0 => rfl
  | n + 1 => by rw [List.replicate_succ, List.replicate_succ, List.flatten_cons, flat_rep x n]; rfl
theorem mulB_ok (n : Nat) (h1 : 1 ≤ n) (h2 : n ≤ 1000) (x : PV) (S : Sto) : mMulB (.p (.tup [x])) (.p (.int n)) S = some (.p (.tup (List.replicate n x))) := by
  unfold mMulB
  simp only
  by_cases h : n = 1
  · subst h; rfl
  · rw [if_neg (by omega), if_pos ⟨by simp, by omega, by omega, by simp⟩, show ((n : Int)).toNat = n by omega, flat_rep]
section
variable {ls : List Int} (h : Ls ls) (S : Sto)
include h
theorem item_ok {env : En} {e : DE} {ks : List Int} (hk : Ls ks) (he : e env S = .ok (.p (.tup (ks.map .int))) S) : dMake 22 D_Months___init__ [e] [] env S = .ok (.p (Mo ks)) S := made_ok S hk env e he
/-- the loop: nothing of another kind, no other months, is == -/
theorem loop_ok (a c d e : Option VV) (us : List PV) (hu : ∀ u ∈ us, othV u = true ∨ ∃ ks, u = Mo ks ∧ ls ≠ ks) : ∀ x y, ∃ x', dForL (.nm 5) (fun _ => true) B__law_right_1 (us.map .p) [a, some (.p (Mo ls)), c, d, e, x, y] S = .nx [a, some (.p (Mo ls)), c, d, e, x', y] S := by
  intro x y
  obtain ⟨e2, S2, q, ⟨x', rfl⟩, rfl⟩ := forL_inv (t := .nm 5) (kp := fun _ => true) (body := B__law_right_1) (fun env S' => (∃ x', env = [a, some (.p (Mo ls)), c, d, e, x', y]) ∧ S' = S) (fun _ _ _ => rfl) (us.map .p) [a, some (.p (Mo ls)), c, d, e, x, y] S ⟨⟨x, rfl⟩, rfl⟩ (fun v hv env S' ⟨⟨x', e1⟩, e2⟩ => by
    subst e1 e2
    obtain ⟨u, hu2, rfl⟩ := List.mem_map.mp hv
    refine ⟨[a, some (.p (Mo ls)), c, d, e, some (.p u), y], rfl, [a, some (.p (Mo ls)), c, d, e, some (.p u), y], S', ?_, ⟨_, rfl⟩, rfl⟩
    have key : eqAb isi 22 D_Months___eq__ (.p (Mo ls)) (.p u) S' = some false ∧ mInA isi 22 D_Months___eq__ false (.p u) (.p (.lst [Mo ls])) S' = some (.p (.bl false)) := by
      rcases hu u hu2 with q | ⟨ks, rfl, q⟩
      · exact ⟨ab_no ho ls q S', in_no ho ls q S'⟩
      · exact ⟨by rw [ab_ok ho, decide_eq_false q], in_two ho q S'⟩
    unfold B__law_right_1
    simp [mEqA, mNeA, key.1, key.2, isT, LIM, List.getElem?_cons_zero, List.getElem?_cons_succ, -getElem?_pos])
  exact ⟨x', q⟩
theorem right_ok : D__law_right [.p (.tup (ls.map .int))] S = .ok (.p (.bl true)) S := by
  have hf := h.few
  have hb := bend_ls h
  have h1 := one_ls h
  have mk : ∀ env : En, env.getD 0 none = some (.p (.tup (ls.map .int))) → dMake 22 D_Months___init__ [(dVar 0)] [] env S = .ok (.p (Mo ls)) S := fun env he => made_ok S h env (dVar 0) (by simp only [e_var, he, RE.of_some])
  let en (b c d e f g : Option VV) : En := [some (.p (.tup (ls.map .int))), b, c, d, e, f, g]
  let w1 : Option VV := some (.p (Mo ls))
  let w3 : Option VV := some (.p (.lst ((ls.map intT).map .str)))
  have st1 : dPar 1 2 (dMake 22 D_Months___init__ [(dVar 0)] []) (dMake 22 D_Months___init__ [(dVar 0)] []) (en none none none none none none) S = .nx (en w1 w1 none none none none) S := by
    rw [e_par, mk _ rfl]
    simp only [RE.bindS_ok]
    rw [mk _ rfl]
    rfl
  have st2 : dSet (.nm 3) (dComp [6] (.nm 6) (dIT (dVar 0)) dYes C__law_right_1) (en w1 w1 none none none none) S = .nx (en w1 w1 w3 none none none) S := by
    have key := compL_map (t := .nm 6) (tt := dYes) (el := C__law_right_1) (env := wipeE (en w1 w1 none none none none) [6]) (S := S) (fun v => match v with | .p (.int l) => .str (intT l) | _ => .non) ((ls.map PV.int).map .p) [] (fun x hx => by
      simp only [List.mem_map] at hx
      obtain ⟨v, ⟨l, hl, rfl⟩, rfl⟩ := hx
      obtain ⟨h1, h2⟩ := h.of l hl
      refine ⟨en w1 w1 none none none (some (.p (.int l))), rfl, rfl, ?_⟩
      have := (intT_ok (l := l) (by omega) (by omega) S).1
      unfold C__law_right_1
      simp [en, this, List.getElem?_cons_zero, List.getElem?_cons_succ, -getElem?_pos]) (by have := h.le; show 0 + _ ≤ 1000000; simp; omega)
    have cc : dComp [6] (.nm 6) (dIT (dVar 0)) dYes C__law_right_1 (en w1 w1 none none none none) S = .ok (.p (.lst ((ls.map intT).map .str))) S := by
      rw [e_comp, show dIT (dVar 0) (en w1 w1 none none none none) S = .ok ((ls.map PV.int).map .p) (fun _ => true) S from rfl]
      simp only [RI.bindE_ok, key]
      simp [Function.comp_def]
    rw [e_set, cc]; rfl
  have lenO := len_ok h S (en w1 w1 w3 none none none) (dVar 1) rfl
  have reprO : ∀ env : En, env.getD 1 none = some (.p (Mo ls)) → dReprO 22 D_Months___repr__ (dVar 1) env S = .ok (.p (.str (reprT ls))) S := fun env he => by
    have i : insOf S (.p (Mo ls)) = some (22, _) := rfl
    unfold dReprO
    simp only [e_var, he, RE.of_some, RE.bind_ok, i, mrepr_ok h, if_true]
  have strO : ∀ env : En, env.getD 1 none = some (.p (Mo ls)) → dStrO 22 D_Months___str__ (dVar 1) env S = .ok (.p (.str (strT ls))) S := fun env he => by
    have i : insOf S (.p (Mo ls)) = some (22, _) := rfl
    unfold dStrO
    simp only [e_var, he, RE.of_some, RE.bind_ok, i, mstr_ok h, if_true]
  have ss := sums_ok h
  have c2 : (Str.ofString ", ").length = 2 := by decide +kernel
  have c1 : (Str.ofString " ").length = 1 := by decide +kernel
  have j1 := join_ok (a := Str.ofString ", ") (mo := dC (.str (Str.ofString ", "))) (me := dVar 3) (env := en w1 w1 w3 none none none) (S := S) (S2 := S) (ys := ls.map intT) rfl rfl (by rw [c2]; omega)
  have j2 := join_ok (a := Str.ofString " ") (mo := dC (.str (Str.ofString " "))) (me := dVar 3) (env := en w1 w1 w3 none none none) (S := S) (S2 := S) (ys := ls.map intT) rfl rfl (by rw [c1]; omega)
  have sm : mSum [.p (.tup (ls.map .int))] S = some (.p (.int ls.sum)) := by
    have a : allI (ls.map .int) = some ls := allI_map ls
    simp [mSum, MB.or, mSumL, mSumT, mB1, intsOf, asList, a]
  have m1 : (Str.ofString "Months(").length = 7 := by decide +kernel
  have m2 : (Str.ofString ")").length = 1 := by decide +kernel
  have cl := commT_len h
  have ad1 : mAdd (.p (.str (Str.ofString "Months("))) (.p (.str (commT ls))) S = some (.p (.str (Str.ofString "Months(" ++ commT ls))) := by
    have : (Str.ofString "Months(").length + (commT ls).length ≤ LIM := by rw [m1]; show _ ≤ 1000000; omega
    simp [mAdd, mAddS, this]
  have ad2 : mAdd (.p (.str (Str.ofString "Months(" ++ commT ls))) (.p (.str (Str.ofString ")"))) S = some (.p (.str (reprT ls))) := by
    have : (Str.ofString "Months(" ++ commT ls).length + (Str.ofString ")").length ≤ LIM := by rw [m2, len_app, m1]; show _ ≤ 1000000; omega
    simp [mAdd, mAddS, this, reprT]
  have t1 : dOp mNe (dLst [(dLenO 22 D_Months___len__ (dVar 1)), (dReprO 22 D_Months___repr__ (dVar 1)), (dStrO 22 D_Months___str__ (dVar 1))]) (dLst [(dBi mSum [(dVar 0)]), (dOp mAdd (dOp mAdd (dC (.str (Str.ofString "Months("))) (dJoin (dC (.str (Str.ofString ", "))) (dVar 3))) (dC (.str (Str.ofString ")")))), (dJoin (dC (.str (Str.ofString " "))) (dVar 3))]) (en w1 w1 w3 none none none) S = .ok (.p (.bl false)) S := by
    have l1 : dLst [(dLenO 22 D_Months___len__ (dVar 1)), (dReprO 22 D_Months___repr__ (dVar 1)), (dStrO 22 D_Months___str__ (dVar 1))] (en w1 w1 w3 none none none) S = .ok (.p (.lst [.int ls.sum, .str (reprT ls), .str (strT ls)])) S := by
      rw [e_lst, args_cons, lenO]
      simp only [RE.bind_ok, args_cons, args_nil, reprO _ (show (en w1 w1 w3 none none none).getD 1 none = _ from rfl), strO _ (show (en w1 w1 w3 none none none).getD 1 none = _ from rfl)]
      rfl
    have l2 : dLst [(dBi mSum [(dVar 0)]), (dOp mAdd (dOp mAdd (dC (.str (Str.ofString "Months("))) (dJoin (dC (.str (Str.ofString ", "))) (dVar 3))) (dC (.str (Str.ofString ")")))), (dJoin (dC (.str (Str.ofString " "))) (dVar 3))] (en w1 w1 w3 none none none) S = .ok (.p (.lst [.int ls.sum, .str (reprT ls), .str (strT ls)])) S := by
      have b : dBi mSum [(dVar 0)] (en w1 w1 w3 none none none) S = .ok (.p (.int ls.sum)) S := by
        rw [e_bi]
        simp only [args_cons, args_nil, e_var, show (en w1 w1 w3 none none none).getD 0 none = some (.p (.tup (ls.map .int))) from rfl, RE.of_some, RE.bind_ok, sm]
      rw [e_lst, args_cons, b]
      simp only [RE.bind_ok, args_cons, args_nil, e_op, e_c, j1, j2]
      rw [show Str.join (Str.ofString ", ") (ls.map intT) = commT ls from rfl, ad1]
      simp only [RE.of_some, RE.bind_ok, ad2, j2]
      rfl
    rw [e_op, l1]
    simp only [RE.bind_ok, l2, three_ne _ (reprT_sk ls) (strT_sk ls), RE.of_some]
  let w4 : Option VV := some (.p (.lst [Mo (bendL ls), Mo (oneL ls), .tup (ls.map .int), .int ls.sum]))
  have t2 : dOp mNe (dMeth 22 "all_lengths" D_Months_all_lengths (dVar 1) [] []) (dVar 0) (en w1 w1 w3 none none none) S = .ok (.p (.bl false)) S := by
    have n := tupN ls ls S
    rw [decide_eq_true rfl] at n
    have a := alll_ok (ls := ls) S
    simp [en, w1, is_6, a, n, List.getElem?_cons_zero, List.getElem?_cons_succ, -getElem?_pos]
  have ab := ab_ok ho ls ls S
  rw [decide_eq_true rfl] at ab
  have t3 : dOp mIsNotB (dOp (mEqA isi 22 D_Months___eq__) (dVar 1) (dVar 2)) (dC (.bl true)) (en w1 w1 w3 none none none) S = .ok (.p (.bl false)) S := by
    simp [en, w1, mEqA, ab, isT, List.getElem?_cons_zero, List.getElem?_cons_succ, -getElem?_pos]
  have t4 : dOp (mNeA isi 22 D_Months___eq__) (dVar 1) (dVar 2) (en w1 w1 w3 none none none) S = .ok (.p (.bl false)) S := by
    simp [en, w1, mNeA, ab, List.getElem?_cons_zero, List.getElem?_cons_succ, -getElem?_pos]
  have io := in_one ho ls S
  have t5 : dOp (mInA isi 22 D_Months___eq__ true) (dVar 1) (dLst [(dC (.int 0)), (dVar 2)]) (en w1 w1 w3 none none none) S = .ok (.p (.bl false)) S := by
    simp [en, w1, io, LIM, List.getElem?_cons_zero, List.getElem?_cons_succ, -getElem?_pos]
  have lenO2 := len_ok h S (en w1 w1 w3 none none none) (dVar 1) rfl
  have st5 : dSet (.nm 4) (dLst [(dMake 22 D_Months___init__ [(dOp mAdd (dSl mSlT (dVar 0) none (some (dNeg (dC (.int 1))))) (dTup [(dOp mSub (dC (.int 59)) (dOp mIx (dVar 0) (dNeg (dC (.int 1)))))]))] []), (dMake 22 D_Months___init__ [(dOp mMulB (dTup [(dC (.int 28))]) (dOp mAdd (dC (.int 1)) (dOp mMod (dBi mLen [(dVar 0)]) (dC (.int 12)))))] []), (dVar 0), (dLenO 22 D_Months___len__ (dVar 1))]) (en w1 w1 w3 none none none) S = .nx (en w1 w1 w3 w4 none none) S := by
    have hle := h.le
    have hne := h.ne
    have b1 : dOp mAdd (dSl mSlT (dVar 0) none (some (dNeg (dC (.int 1))))) (dTup [(dOp mSub (dC (.int 59)) (dOp mIx (dVar 0) (dNeg (dC (.int 1)))))]) (en w1 w1 w3 none none none) S = .ok (.p (.tup ((bendL ls).map .int))) S := by
      have e1 : (bendL ls).map PV.int = (ls.dropLast).map PV.int ++ [PV.int (59 - ls.getLastD 0)] := by simp [bendL]
      rw [e1]
      have := last_at h
      have hl : ((ls.dropLast).map PV.int).length + 1 ≤ 1000000 := by rw [List.length_map, List.length_dropLast]; omega
      simp [en, mSlT, e_sl, part, cut_map, cut_last, mIx, this, mAdd, LIM, List.getElem?_cons_zero, List.getElem?_cons_succ, -getElem?_pos]
      rw [if_pos (by omega)]; rfl
    have b2 : dOp mMulB (dTup [(dC (.int 28))]) (dOp mAdd (dC (.int 1)) (dOp mMod (dBi mLen [(dVar 0)]) (dC (.int 12)))) (en w1 w1 w3 none none none) S = .ok (.p (.tup ((oneL ls).map .int))) S := by
      have m := mulB_ok (1 + ls.length % 12) (by omega) (by omega) (.int 28) S
      have e1 : (oneL ls).map PV.int = List.replicate (1 + ls.length % 12) (.int 28) := by simp [oneL]
      have e2 : ((1 + ls.length % 12 : Nat) : Int) = 1 + (ls.length : Int) % 12 := by omega
      rw [e2] at m
      rw [e1]
      have ml : mLen [.p (.tup (ls.map .int))] S = some (.p (.int ls.length)) := by simp [mLen, mB1, lenOf]
      simp [en, ml, mMod, mAdd, m, LIM, List.getElem?_cons_zero, List.getElem?_cons_succ, -getElem?_pos]
    have d1 := made_ok S hb.1 (en w1 w1 w3 none none none) _ b1
    have d2 := made_ok S h1.1 (en w1 w1 w3 none none none) _ b2
    rw [e_set, e_lst, args_cons, d1]
    simp only [RE.bind_ok]
    rw [args_cons, d2]
    simp only [RE.bind_ok]
    simp only [args_cons, args_nil, e_var, RE.of_some, show (en w1 w1 w3 none none none).getD 0 none = some (.p (.tup (ls.map .int))) from rfl, RE.bind_ok, lenO2]
    rfl
  have t6 : dOp mNe (dOp (mEqA isi 22 D_Months___eq__) (dVar 1) (dMake 22 D_Months___init__ [(dBack (dVar 0))] [])) (dOp mEq (dVar 0) (dBack (dVar 0))) (en w1 w1 w3 w4 none none) S = .ok (.p (.bl false)) S := by
    have bk : dBack (dVar 0) (en w1 w1 w3 w4 none none) S = .ok (.p (.tup (ls.reverse.map .int))) S := by
      unfold dBack
      simp [en, List.getElem?_cons_zero, List.getElem?_cons_succ, -getElem?_pos]
    have d := made_ok S (Ls.rev h) (en w1 w1 w3 w4 none none) _ bk
    have a := ab_ok ho ls ls.reverse S
    have b := tupE ls ls.reverse S
    have l1 : dOp (mEqA isi 22 D_Months___eq__) (dVar 1) (dMake 22 D_Months___init__ [(dBack (dVar 0))] []) (en w1 w1 w3 w4 none none) S = .ok (.p (.bl (decide (ls = ls.reverse)))) S := by
      rw [e_op]
      simp only [e_var, show (en w1 w1 w3 w4 none none).getD 1 none = some (.p (Mo ls)) from rfl, RE.of_some, RE.bind_ok, d, mEqA, a, Option.map_some]
    have l2 : dOp mEq (dVar 0) (dBack (dVar 0)) (en w1 w1 w3 w4 none none) S = .ok (.p (.bl (decide (ls = ls.reverse)))) S := by
      rw [e_op]
      simp only [e_var, show (en w1 w1 w3 w4 none none).getD 0 none = some (.p (.tup (ls.map .int))) from rfl, RE.of_some, RE.bind_ok, bk, b]
    rw [e_op, l1]
    simp only [RE.bind_ok, l2, bl_ne, RE.of_some]
  have it : dIL (dOp mAdd (dVar 4) (dLst [(dC .non), (dStrO 22 D_Months___str__ (dVar 1)), (dReprO 22 D_Months___repr__ (dVar 1))])) (en w1 w1 w3 w4 none none) S = .ok (([Mo (bendL ls), Mo (oneL ls), .tup (ls.map .int), .int ls.sum, .non, .str (strT ls), .str (reprT ls)] : List PV).map .p) (fun _ => true) S := by
    have l1 : dLst [(dC .non), (dStrO 22 D_Months___str__ (dVar 1)), (dReprO 22 D_Months___repr__ (dVar 1))] (en w1 w1 w3 w4 none none) S = .ok (.p (.lst [.non, .str (strT ls), .str (reprT ls)])) S := by
      rw [e_lst]
      simp only [args_cons, args_nil, e_c, RE.bind_ok, strO _ (show (en w1 w1 w3 w4 none none).getD 1 none = _ from rfl), reprO _ (show (en w1 w1 w3 w4 none none).getD 1 none = _ from rfl)]
      rfl
    rw [e_il, e_op]
    simp only [e_var, show (en w1 w1 w3 w4 none none).getD 4 none = w4 from rfl, w4, RE.of_some, RE.bind_ok, l1]
    rfl
  obtain ⟨x', lp⟩ := loop_ok h S (some (.p (.tup (ls.map .int)))) w1 w3 w4 [Mo (bendL ls), Mo (oneL ls), .tup (ls.map .int), .int ls.sum, .non, .str (strT ls), .str (reprT ls)] (fun u hu => by
    simp only [List.mem_cons, List.not_mem_nil, or_false] at hu
    rcases hu with rfl | rfl | rfl | rfl | rfl | rfl | rfl
    · exact .inr ⟨_, rfl, hb.2⟩
    · exact .inr ⟨_, rfl, h1.2⟩
    all_goals exact .inl rfl) none none
  have lp : dForL (.nm 5) (fun _ => true) B__law_right_1 (([Mo (bendL ls), Mo (oneL ls), .tup (ls.map .int), .int ls.sum, .non, .str (strT ls), .str (reprT ls)] : List PV).map .p) (en w1 w1 w3 w4 none none) S = .nx (en w1 w1 w3 w4 x' none) S := lp
  unfold D__law_right
  rw [e_fn, if_pos (by rfl), show envOf 7 [VV.p (.tup (ls.map .int))] = en none none none none none none from rfl]
  rw [e_seq, st1]
  simp only
  rw [e_seq, st2]
  simp only
  simp only [e_seq, e_ifs, e_t, e_or, e_nil, t1, t2, t3, t4, t5, t6, st5, e_for, it, lp, RE.toB_bl, RB.bind_ok, RB.bindS_ok, RI.bindS_ok]
  rfl
end
end Q_k01

set_option maxRecDepth 100000
set_option maxHeartbeats 4000000
namespace Q_k01
open PySem L2 Dn Sh
/-! ### what is refused -/
def badP (v : PV) : Prop := ∀ S, D__are_lengths [.p v] S = .ok (.p (.bl false)) S
def noTup (v : PV) : Bool := match v with
  | .non => true | .bl _ => true | .int _ => true | .str _ => true | .lst _ => true | .dic _ _ => true | _ => false
theorem bad_oth {v : PV} (h : noTup v = true) : badP v := fun S => by
  have kd : kitB "dict" "tuple" = some false := by decide +kernel
  have : D_is_tuple_of [.p v, .p (.int 1), .p (.int 12)] S = .ok (.p (.bl false)) S := by
    unfold D_is_tuple_of
    cases v <;> first | (cases h; done) | simp [envOf, isi, kd, tagOf]
  unfold D__are_lengths
  simp [envOf, this]
theorem bad_len {xs : List PV} (h : xs.length = 0 ∨ 12 < xs.length) : badP (.tup xs) := fun S => by
  have : D_is_tuple_of [.p (.tup xs), .p (.int 1), .p (.int 12)] S = .ok (.p (.bl false)) S := by
    rw [tupof_ok]
    have : (decide ((1 : Int) ≤ (xs.length : Int)) && decide ((xs.length : Int) ≤ 12)) = false := by
      rcases h with h | h
      · rw [h]; rfl
      · rw [decide_eq_false (by omega : ¬ (xs.length : Int) ≤ 12), Bool.and_false]
    rw [this]
  unfold D__are_lengths
  simp [envOf, this]
theorem mAll_any (f : PV → Bool) (xs : List PV) (S : Sto) : mAll [.p (.lst (xs.map fun x => .bl (f x)))] S = some (.p (.bl (xs.all f))) := by
  simp [all_map, Function.comp_def]
theorem bad_item {xs : List PV} (h : xs.all plainV = true) (hb : xs.all (fun x => inR x 28 31) = false) : badP (.tup xs) := fun S => by
  by_cases hl : xs.length = 0 ∨ 12 < xs.length
  · exact bad_len hl S
  · have t : D_is_tuple_of [.p (.tup xs), .p (.int 1), .p (.int 12)] S = .ok (.p (.bl true)) S := by
      rw [tupof_ok, decide_eq_true (by omega : (1 : Int) ≤ (xs.length : Int)), decide_eq_true (by omega : (xs.length : Int) ≤ 12)]; rfl
    have key := compL_map (t := .nm 1) (tt := dYes) (el := C__are_lengths_1) (env := wipeE [some (.p (.tup xs)), none] [1]) (S := S) (fun v => match v with | .p x => .bl (inR x 28 31) | _ => .non) (xs.map .p) [] (fun x hx => by
      obtain ⟨v, hv, rfl⟩ := List.mem_map.mp hx
      refine ⟨[some (.p (.tup xs)), some (.p v)], rfl, rfl, ?_⟩
      have := within_any S v 28 31 (List.all_eq_true.mp h v hv)
      unfold C__are_lengths_1
      simp [this]) (by show 0 + _ ≤ 1000000; simp; omega)
    have cm : ((xs.map VV.p).map fun v => match v with | .p x => PV.bl (inR x 28 31) | _ => .non) = xs.map fun x => .bl (inR x 28 31) := by
      rw [List.map_map]; rfl
    rw [cm] at key
    have cc : dComp [1] (.nm 1) (dIT (dVar 0)) dYes C__are_lengths_1 [some (.p (.tup xs)), none] S = .ok (.p (.lst (xs.map fun x => .bl (inR x 28 31)))) S := by
      rw [e_comp, show dIT (dVar 0) [some (.p (.tup xs)), none] S = .ok (xs.map VV.p) (fun _ => true) S from rfl]
      simp only [RI.bindE_ok, key]
      rfl
    have ma := mAll_any (fun x => inR x 28 31) xs S
    rw [hb] at ma
    unfold D__are_lengths
    rw [e_fn, if_pos (by rfl), show envOf 2 [VV.p (.tup xs)] = [some (.p (.tup xs)), none] from rfl, e_ret, e_andV, e_call]
    simp only [args_cons, args_nil, e_var, e_c, List.getD_cons_zero, RE.of_some, RE.bind_ok, List.map_nil, List.append_nil, t, e_bi, cc, ma, RE.bindS_ok]
    rfl
theorem no_ok {v : PV} (hb : badP v) (S : Sto) (env : En) (m : DE) (hm : m env S = .ok (.p v) S) : dMake 22 D_Months___init__ [m] [] env S = .exc 9 [] S := by
  have a := hb (S ++ [SO.ins 22 []])
  have e : D_Months___init__ [.ob S.length, .p v] (S ++ [SO.ins 22 []]) = .exc 9 [] (S ++ [.ins 22 []]) := by
    unfold D_Months___init__
    simp [envOf, a, List.getElem?_cons_zero, List.getElem?_cons_succ]
  have st : Sto.same ((S ++ [SO.ins 22 []]).take S.length) S = true := by
    rw [List.take_left' rfl]; exact Sto.same_refl S
  simp [hm, e, backTo_, Sto.same_refl]
end Q_k01

set_option maxRecDepth 100000
set_option maxHeartbeats 4000000
namespace Q_k01
open PySem L2 Dn Sh
theorem items_k {S : Sto} {j : Nat} {xs : List VV} (h : S[j]? = some (.lst xs)) : ∃ kp, lstItems S (.ob j) = some (xs, kp) ∧ ∀ S' : Sto, S'[j]? = some (.lst xs) → kp S' = true := by
  refine ⟨_, by simp only [lstItems, h]; rfl, fun S' h' => ?_⟩
  simp only [h']
  exact VV.beqL_refl xs
theorem fl9 : FL 9 [] = some (.tup [.str (Str.ofString "months")]) := fl_word rfl rfl
theorem sk_months : PyData.strOk (Str.ofString "months") = true := by decide +kernel
theorem ne_months (S : Sto) : mNe (.p (.tup [.str (Str.ofString "months")])) (.p (.tup [.str (Str.ofString "months")])) S = some (.p (.bl false)) := by
  simp [mNe, dataOf, toD, toDL, PyData.eqv, PyData.eqvAll, sk_months]
theorem e_word (told : Bool) (m : DE) (env : En) (S : Sto) : dWord told FL m env S = match m env S with
  | .ok (.p v) S1 => .ok (.p (if told then .tup [.str "told", v] else v)) S1
  | .exc c fs S1 => match FL c fs with
    | some w => .ok (.p w) S1
    | none => .no
  | _ => .no := rfl
def E8 (a b c d e f g h : Option VV) : En := [a, b, c, d, e, f, g, h]
section
variable {ls : List Int} (h : Ls ls)
include h
theorem bend_ok {at_ : Int} (h0 : 0 ≤ at_) (h1 : at_ < ls.length) {o : PV} (hp : plainV o = true) (hb : inR o 28 31 = false) : badP (.tup ((ls.map PV.int).set at_.toNat o)) := by
  refine bad_item (List.all_eq_true.mpr fun x hx => ?_) (List.all_eq_false.mpr ⟨o, ?_, by rw [hb]; decide⟩)
  · rcases List.mem_or_eq_of_mem_set hx with q | q
    · obtain ⟨l, _, rfl⟩ := List.mem_map.mp q; rfl
    · rw [q]; exact hp
  · exact List.mem_iff_getElem?.mpr ⟨at_.toNat, List.getElem?_set_self (by rw [List.length_map]; omega)⟩
theorem odds_ok {at_ : Int} (h0 : 0 ≤ at_) (h1 : at_ < ls.length) (a b c : Option VV) (j : Nat) : ∀ (os : List PV), (∀ o ∈ os, plainV o = true ∧ inR o 28 31 = false) → ∀ (us : List PV) (S : Sto) (x y : Option VV), us.length + os.length ≤ 100 → S[j]? = some (.lst (us.map .p)) →
    ∃ x' us', dForL (.nm 6) (fun _ => true) B_law_1 (os.map .p) (E8 a b c (some (.p (.tup (ls.map .int)))) (some (.p (.int at_))) (some (.ob j)) x y) S = .nx (E8 a b c (some (.p (.tup (ls.map .int)))) (some (.p (.int at_))) (some (.ob j)) x' y) (S.set j (.lst ((us ++ us').map .p))) ∧ ∀ u ∈ us', badP u
  | [], _, us, S, x, y, _, hS => ⟨x, [], by
      have : S.set j (.lst ((us ++ []).map .p)) = S := by
        rw [List.append_nil]
        obtain ⟨hj, e⟩ := List.getElem?_eq_some_iff.mp hS
        rw [← e]; exact List.set_getElem_self hj
      rw [this]
      simp [dForL], by simp⟩
  | o :: os, hos, us, S, x, y, hl, hS => by
    have hj := (List.getElem?_eq_some_iff.mp hS).1
    have hle := h.le
    rw [List.length_cons] at hl
    obtain ⟨x', us', q, hq⟩ := odds_ok h0 h1 a b c j os (fun z hz => hos z (List.mem_cons_of_mem _ hz)) (us ++ [PV.tup ((ls.map PV.int).set at_.toNat o)]) (S.set j (.lst ((us ++ [PV.tup ((ls.map PV.int).set at_.toNat o)]).map .p))) (some (.p o)) y (by rw [List.length_append, List.length_singleton]; omega) (by rw [List.getElem?_set_self hj])
    refine ⟨x', .tup ((ls.map PV.int).set at_.toNat o) :: us', ?_, ?_⟩
    · have sw := cut_swap id (ls.map PV.int) h0 (by rw [List.length_map]; exact h1) o
      simp only [List.map_id_fun, id] at sw
      have lc := congrArg List.length sw
      rw [List.length_append, List.length_append, List.length_set, List.length_map] at lc
      have b1 : B_law_1 (E8 a b c (some (.p (.tup (ls.map .int)))) (some (.p (.int at_))) (some (.ob j)) (some (.p o)) y) S = .nx (E8 a b c (some (.p (.tup (ls.map .int)))) (some (.p (.int at_))) (some (.ob j)) (some (.p o)) y) (S.set j (.lst ((us ++ [PV.tup ((ls.map PV.int).set at_.toNat o)]).map .p))) := by
        have e1 : dOp mAdd (dOp mAdd (dSl mSlT (dVar 3) none (some (dVar 4))) (dTup [(dVar 6)])) (dSl mSlT (dVar 3) (some (dOp mAdd (dVar 4) (dC (.int 1)))) none) (E8 a b c (some (.p (.tup (ls.map .int)))) (some (.p (.int at_))) (some (.ob j)) (some (.p o)) y) S = .ok (.p (.tup ((ls.map PV.int).set at_.toNat o))) S := by
          rw [← sw]
          have l1 : (cutP (ls.map PV.int) none (some at_)).length + 1 ≤ LIM := by show _ ≤ 1000000; simp at lc; omega
          have l2 : (cutP (ls.map PV.int) none (some at_)).length + 1 + (cutP (ls.map PV.int) (some (at_ + 1)) none).length ≤ LIM := by show _ ≤ 1000000; simp at lc; omega
          have e0 : (1 : Nat) ≤ LIM := by decide
          simp [E8, e_sl, part, mSlT, mAdd, l1, l2, e0, List.getElem?_cons_zero, List.getElem?_cons_succ, -getElem?_pos]
        have l3 : (us.map VV.p).length < LIM := by rw [List.length_map]; show _ < 1000000; omega
        unfold B_law_1
        rw [e_do]
        unfold dApp
        rw [show dVar 5 (E8 a b c (some (.p (.tup (ls.map .int)))) (some (.p (.int at_))) (some (.ob j)) (some (.p o)) y) S = .ok (.ob j) S from rfl]
        simp only [RE.bind_ok, hS, e1, l3, if_true, RE.bindS_ok]
        rw [List.map_append]
        rfl
      rw [List.map_cons, dForL]
      simp only [if_true]
      rw [show (Tg.nm 6).put (.p o) (E8 a b c (some (.p (.tup (ls.map .int)))) (some (.p (.int at_))) (some (.ob j)) x y) = some (E8 a b c (some (.p (.tup (ls.map .int)))) (some (.p (.int at_))) (some (.ob j)) (some (.p o)) y) from rfl]
      simp only [b1, q, List.set_set, List.append_assoc, List.singleton_append]
    · intro u hu
      rcases List.mem_cons.mp hu with rfl | hu
      · have := hos o List.mem_cons_self
        exact bend_ok h h0 h1 this.1 this.2
      · exact hq u hu
end
end Q_k01

set_option maxRecDepth 100000
set_option maxHeartbeats 4000000
namespace Q_k01
open PySem L2 Dn Sh
theorem word_bad {u : PV} (hu : badP u) (S : Sto) (a b c d e f g : Option VV) : B_law_2 (E8 a b c d e f g (some (.p u))) S = .nx (E8 a b c d e f g (some (.p u))) S := by
  have n := no_ok hu S (E8 a b c d e f g (some (.p u))) (dVar 7) rfl
  have w : dWord true FL (dMake 22 D_Months___init__ [(dVar 7)] []) (E8 a b c d e f g (some (.p u))) S = .ok (.p (.tup [.str (Str.ofString "months")])) S := by
    rw [e_word, n]
    simp only [fl9]
  unfold B_law_2
  have t : dTup [(dC (.str (Str.ofString "months")))] (E8 a b c d e f g (some (.p u))) S = .ok (.p (.tup [.str (Str.ofString "months")])) S := rfl
  rw [e_ifs, e_t, e_op, w]
  simp only [RE.bind_ok, t, ne_months, RE.of_some, RE.toB_bl, RB.bindS_ok]
  rfl
theorem words_ok (a b c d e f g h : Option VV) (S : Sto) (kp : Sto → Bool) (hk : kp S = true) (us : List PV) (hu : ∀ u ∈ us, badP u) : ∃ h', dForL (.nm 7) kp B_law_2 (us.map .p) (E8 a b c d e f g h) S = .nx (E8 a b c d e f g h') S := by
  obtain ⟨e2, S2, q, ⟨x', rfl⟩, rfl⟩ := forL_inv (t := .nm 7) (kp := kp) (body := B_law_2) (fun env S' => (∃ x', env = E8 a b c d e f g x') ∧ S' = S) (fun _ _ z => by rw [z.2]; exact hk) (us.map .p) (E8 a b c d e f g h) S ⟨⟨h, rfl⟩, rfl⟩ (fun v hv env S' ⟨⟨x', e1⟩, e2⟩ => by
    subst e1 e2
    obtain ⟨u, hu2, rfl⟩ := List.mem_map.mp hv
    exact ⟨E8 a b c d e f g (some (.p u)), rfl, E8 a b c d e f g (some (.p u)), S', word_bad (hu u hu2) S' a b c d e f g, ⟨_, rfl⟩, rfl⟩)
  exact ⟨x', q⟩
theorem pw29 (S : Sto) : mPow (.p (.int 10)) (.p (.int 29)) S = some (.p (.int 100000000000000000000000000000)) := rfl
def oddsL : List PV := [.int 27, .int 32, .bl true, .non, .str (Str.ofString "30"), .tup [.int 30], .int 0, .int (-30), .int 100000000000000000000000000000]
theorem body_ok (c : Int) (a b d e f g i j : Option VV) (hb : b = some (.p (.int c))) (S : Sto) : ∃ e2 S2, B_law_3 [a, b, d, e, f, g, i, j] S = .nx e2 S2 ∧ e2.length = 8 := by
  subst hb
  obtain ⟨v, q1, hp0⟩ := pen_ok S c
  obtain ⟨ls, S1, q2, h, w1⟩ := lengths_ok hp0
  have hle := h.le
  have hne := h.ne
  have r1 := right_ok h S1
  have r2 := right_ok (Ls.one h) S1
  have r3 := right_ok (Ls.rep (n := 12) (l := 31) (by decide) (by decide) (by decide) (by decide)) S1
  obtain ⟨at_, S2, q3, h0, h1, w2⟩ := draw_ok w1.pn (m := ls.length) (by omega) (by omega)
  let en5 : En := E8 a (some (.p (.int c))) (some (.ob S.length)) (some (.p (.tup (ls.map .int)))) (some (.p (.int at_))) g i j
  let bad0 : List PV := [.non, .tup [], .tup (List.replicate 13 (ls.map PV.int)).flatten, .tup (List.replicate 13 (.int 30)), .lst (ls.map .int), .int 30, .str (Str.ofString "30"), .tup [.tup (ls.map .int)], .dic false [], .bl true]
  have hbad : ∀ u ∈ bad0, badP u := fun u hu => by
    simp only [bad0, List.mem_cons, List.not_mem_nil, or_false] at hu
    rcases hu with rfl | rfl | rfl | rfl | rfl | rfl | rfl | rfl | rfl | rfl
    · exact bad_oth rfl
    · exact bad_len (.inl rfl)
    · refine bad_len (.inr ?_)
      rw [List.length_flatten]
      simp
      omega
    · exact bad_len (.inr (by rw [List.length_replicate]; decide))
    · exact bad_oth rfl
    · exact bad_oth rfl
    · exact bad_oth rfl
    · exact bad_item rfl rfl
    · exact bad_oth rfl
    · exact bad_oth rfl
  have nw : dNew [(dC .non), (dTup []), (dOp mMulB (dVar 3) (dC (.int 13))), (dOp mMulB (dTup [(dC (.int 30))]) (dC (.int 13))), (dBi mLst [(dVar 3)]), (dC (.int 30)), (dC (.str (Str.ofString "30"))), (dTup [(dVar 3)]), dDicE, (dC (.bl true))] en5 S2 = .ok (.ob S2.length) (S2 ++ [.lst (bad0.map .p)]) := by
    have m1 : mMulB (.p (.tup (ls.map .int))) (.p (.int 13)) S2 = some (.p (.tup (List.replicate 13 (ls.map PV.int)).flatten)) := by
      unfold mMulB
      simp only
      rw [if_neg (by decide), if_pos ⟨fun z => by have := congrArg List.length z; rw [List.length_map] at this; have : ls.length = 0 := this; omega, by decide, by decide, by rw [List.length_map]; omega⟩]
      rfl
    have m2 := mulB_ok 13 (by decide) (by decide) (.int 30) S2
    have d3 : dVar 3 en5 S2 = .ok (.p (.tup (ls.map .int))) S2 := rfl
    have x3 : dOp mMulB (dVar 3) (dC (.int 13)) en5 S2 = .ok (.p (.tup (List.replicate 13 (ls.map PV.int)).flatten)) S2 := by
      rw [e_op, d3]
      simp only [RE.bind_ok, e_c, m1, RE.of_some]
    have x4 : dOp mMulB (dTup [(dC (.int 30))]) (dC (.int 13)) en5 S2 = .ok (.p (.tup (List.replicate 13 (.int 30)))) S2 := by
      rw [e_op, show dTup [(dC (.int 30))] en5 S2 = .ok (.p (.tup [.int 30])) S2 from rfl]
      simp only [RE.bind_ok, e_c]
      rw [show mMulB (.p (.tup [.int 30])) (.p (.int 13)) S2 = _ from m2]
      rfl
    have x5 : dBi mLst [(dVar 3)] en5 S2 = .ok (.p (.lst (ls.map .int))) S2 := rfl
    have x8 : dTup [(dVar 3)] en5 S2 = .ok (.p (.tup [.tup (ls.map .int)])) S2 := rfl
    rw [e_new]
    simp only [args_cons, args_nil, e_c, RE.bind_ok, x3, x4, x5, x8, show dTup [] en5 S2 = .ok (.p (.tup [])) S2 from rfl, show dDicE en5 S2 = .ok (.p (.dic false [])) S2 from rfl]
    rfl
  have st6 : dIL (dLst [(dC (.int 27)), (dC (.int 32)), (dC (.bl true)), (dC .non), (dC (.str (Str.ofString "30"))), (dTup [(dC (.int 30))]), (dC (.int 0)), (dNeg (dC (.int 30))), (dOp mPow (dC (.int 10)) (dC (.int 29)))]) (E8 a (some (.p (.int c))) (some (.ob S.length)) (some (.p (.tup (ls.map .int)))) (some (.p (.int at_))) (some (.ob S2.length)) i j) (S2 ++ [.lst (bad0.map .p)]) = .ok (oddsL.map .p) (fun _ => true) (S2 ++ [.lst (bad0.map .p)]) := rfl
  obtain ⟨x', us', lp, hu⟩ := odds_ok h h0 h1 a (some (.p (.int c))) (some (.ob S.length)) S2.length oddsL (fun o ho => by
    simp only [oddsL, List.mem_cons, List.not_mem_nil, or_false] at ho
    rcases ho with rfl | rfl | rfl | rfl | rfl | rfl | rfl | rfl | rfl <;> exact ⟨rfl, by decide⟩) bad0 (S2 ++ [.lst (bad0.map .p)]) i j (by show 10 + 9 ≤ 100; decide) (by simp)
  have hset : (S2 ++ [SO.lst (bad0.map .p)]).set S2.length (.lst ((bad0 ++ us').map .p)) = S2 ++ [.lst ((bad0 ++ us').map .p)] := by simp
  rw [hset] at lp
  obtain ⟨kp, it, hkp⟩ := items_k (S := S2 ++ [.lst ((bad0 ++ us').map .p)]) (j := S2.length) (xs := (bad0 ++ us').map .p) (by simp)
  obtain ⟨y', lw⟩ := words_ok a (some (.p (.int c))) (some (.ob S.length)) (some (.p (.tup (ls.map .int)))) (some (.p (.int at_))) (some (.ob S2.length)) x' j (S2 ++ [.lst ((bad0 ++ us').map .p)]) kp (hkp _ (by simp)) (bad0 ++ us') (fun u hu2 => by
    rcases List.mem_append.mp hu2 with z | z
    · exact hbad u z
    · exact hu u z)
  refine ⟨E8 a (some (.p (.int c))) (some (.ob S.length)) (some (.p (.tup (ls.map .int)))) (some (.p (.int at_))) (some (.ob S2.length)) x' y', S2 ++ [.lst ((bad0 ++ us').map .p)], ?_, rfl⟩
  have s3 : dOr (dNot (dT (dCall D__law_right [(dVar 3)] []))) (dOr (dNot (dT (dCall D__law_right [(dSl mSlT (dVar 3) none (some (dC (.int 1))))] []))) (dNot (dT (dCall D__law_right [(dOp mMulB (dTup [(dC (.int 31))]) (dC (.int 12)))] [])))) (E8 a (some (.p (.int c))) (some (.ob S.length)) (some (.p (.tup (ls.map .int)))) f g i j) S1 = .ok false S1 := by
    have c1 : dCall D__law_right [(dVar 3)] [] (E8 a (some (.p (.int c))) (some (.ob S.length)) (some (.p (.tup (ls.map .int)))) f g i j) S1 = .ok (.p (.bl true)) S1 := r1
    have c2 : dCall D__law_right [(dSl mSlT (dVar 3) none (some (dC (.int 1))))] [] (E8 a (some (.p (.int c))) (some (.ob S.length)) (some (.p (.tup (ls.map .int)))) f g i j) S1 = .ok (.p (.bl true)) S1 := by
      have : dSl mSlT (dVar 3) none (some (dC (.int 1))) (E8 a (some (.p (.int c))) (some (.ob S.length)) (some (.p (.tup (ls.map .int)))) f g i j) S1 = .ok (.p (.tup ((ls.take 1).map .int))) S1 := by
        have := cut_to (ls.map PV.int) (n := 1) (by decide) (by rw [List.length_map]; omega)
        rw [e_sl, show dVar 3 (E8 a (some (.p (.int c))) (some (.ob S.length)) (some (.p (.tup (ls.map .int)))) f g i j) S1 = .ok (.p (.tup (ls.map .int))) S1 from rfl]
        simp only [RE.bind_ok, part_none, part_some, e_c, mSlT, this]
        rw [List.map_take]; rfl
      rw [e_call]
      simp only [args_cons, args_nil, this, RE.bind_ok, List.map_nil, List.append_nil, r2]
    have c3 : dCall D__law_right [(dOp mMulB (dTup [(dC (.int 31))]) (dC (.int 12)))] [] (E8 a (some (.p (.int c))) (some (.ob S.length)) (some (.p (.tup (ls.map .int)))) f g i j) S1 = .ok (.p (.bl true)) S1 := by
      have m2 := mulB_ok 12 (by decide) (by decide) (.int 31) S1
      have : dOp mMulB (dTup [(dC (.int 31))]) (dC (.int 12)) (E8 a (some (.p (.int c))) (some (.ob S.length)) (some (.p (.tup (ls.map .int)))) f g i j) S1 = .ok (.p (.tup ((List.replicate 12 (31 : Int)).map .int))) S1 := by
        rw [e_op, show dTup [(dC (.int 31))] (E8 a (some (.p (.int c))) (some (.ob S.length)) (some (.p (.tup (ls.map .int)))) f g i j) S1 = .ok (.p (.tup [.int 31])) S1 from rfl]
        simp only [RE.bind_ok, e_c]
        rw [show mMulB (.p (.tup [.int 31])) (.p (.int 12)) S1 = _ from m2]
        rfl
      rw [e_call]
      simp only [args_cons, args_nil, this, RE.bind_ok, List.map_nil, List.append_nil, r3]
    rw [e_or, e_not, e_t, c1]
    simp only [RE.toB_bl, RB.bind_ok, Bool.not_true, e_or, e_not, e_t, c2, c3]
  have p1 : dCall D__law_pen_of [(dVar 1)] [] (E8 a (some (.p (.int c))) d e f g i j) S = .ok (.ob S.length) (S ++ [v]) := q1
  have p2 : dCall D__law_lengths [(dVar 2)] [] (E8 a (some (.p (.int c))) (some (.ob S.length)) e f g i j) (S ++ [v]) = .ok (.p (.tup (ls.map .int))) S1 := q2
  have p4 : dCall D__law_draw [(dVar 2), (dBi mLen [(dVar 3)])] [] (E8 a (some (.p (.int c))) (some (.ob S.length)) (some (.p (.tup (ls.map .int)))) f g i j) S1 = .ok (.p (.int at_)) S2 := by
    have ml : dBi mLen [(dVar 3)] (E8 a (some (.p (.int c))) (some (.ob S.length)) (some (.p (.tup (ls.map .int)))) f g i j) S1 = .ok (.p (.int ls.length)) S1 := by
      have : mLen [.p (.tup (ls.map .int))] S1 = some (.p (.int ls.length)) := by simp [mLen, mB1, lenOf]
      rw [e_bi, args_cons, show dVar 3 (E8 a (some (.p (.int c))) (some (.ob S.length)) (some (.p (.tup (ls.map .int)))) f g i j) S1 = .ok (.p (.tup (ls.map .int))) S1 from rfl]
      simp only [RE.bind_ok, args_nil, this, RE.of_some]
    rw [e_call, args_cons, show dVar 2 (E8 a (some (.p (.int c))) (some (.ob S.length)) (some (.p (.tup (ls.map .int)))) f g i j) S1 = .ok (.ob S.length) S1 from rfl]
    simp only [RE.bind_ok, args_cons, args_nil, ml, List.map_nil, List.append_nil, q3]
  have lp2 : dForL (.nm 6) (fun _ => true) B_law_1 (oddsL.map .p) (E8 a (some (.p (.int c))) (some (.ob S.length)) (some (.p (.tup (ls.map .int)))) (some (.p (.int at_))) (some (.ob S2.length)) i j) (S2 ++ [.lst (bad0.map .p)]) = .nx (E8 a (some (.p (.int c))) (some (.ob S.length)) (some (.p (.tup (ls.map .int)))) (some (.p (.int at_))) (some (.ob S2.length)) x' j) (S2 ++ [.lst ((bad0 ++ us').map .p)]) := lp
  have it2 : dIL (dVar 5) (E8 a (some (.p (.int c))) (some (.ob S.length)) (some (.p (.tup (ls.map .int)))) (some (.p (.int at_))) (some (.ob S2.length)) x' j) (S2 ++ [.lst ((bad0 ++ us').map .p)]) = .ok ((bad0 ++ us').map .p) kp (S2 ++ [.lst ((bad0 ++ us').map .p)]) := by
    rw [e_il, show dVar 5 (E8 a (some (.p (.int c))) (some (.ob S.length)) (some (.p (.tup (ls.map .int)))) (some (.p (.int at_))) (some (.ob S2.length)) x' j) (S2 ++ [.lst ((bad0 ++ us').map .p)]) = .ok (.ob S2.length) (S2 ++ [.lst ((bad0 ++ us').map .p)]) from rfl]
    simp only [RE.bindI_ok, it]
  unfold B_law_3
  rw [e_seq, e_set, show dCall D__law_pen_of [(dVar 1)] [] [a, some (.p (.int c)), d, e, f, g, i, j] S = _ from p1]
  simp only [RE.bindS_ok]
  rw [e_seq, e_set, show dCall D__law_lengths [(dVar 2)] [] (List.set [a, some (.p (.int c)), d, e, f, g, i, j] 2 (some (.ob S.length))) (S ++ [v]) = _ from p2]
  simp only [RE.bindS_ok]
  rw [show List.set (List.set [a, some (VV.p (PV.int c)), d, e, f, g, i, j] 2 (some (.ob S.length))) 3 (some (.p (.tup (ls.map .int)))) = E8 a (some (.p (.int c))) (some (.ob S.length)) (some (.p (.tup (ls.map .int)))) f g i j from rfl]
  rw [e_seq, e_ifs, s3]
  simp only [RB.bindS_ok, e_nil]
  rw [e_seq, e_set, p4]
  simp only [RE.bindS_ok]
  rw [show List.set (E8 a (some (.p (.int c))) (some (.ob S.length)) (some (.p (.tup (ls.map .int)))) f g i j) 4 (some (.p (.int at_))) = en5 from rfl]
  rw [e_seq, e_set, nw]
  simp only [RE.bindS_ok]
  rw [show List.set en5 5 (some (.ob S2.length)) = E8 a (some (.p (.int c))) (some (.ob S.length)) (some (.p (.tup (ls.map .int)))) (some (.p (.int at_))) (some (.ob S2.length)) i j from rfl]
  rw [e_seq, e_for, st6]
  simp only [RI.bindS_ok, lp2]
  rw [e_for, it2]
  simp only [RI.bindS_ok, lw]
end Q_k01

set_option maxRecDepth 100000
set_option maxHeartbeats 4000000
namespace Q_k01
open PySem L2 Dn Sh
theorem len8 {α : Type} : ∀ {xs : List α}, xs.length = 8 → ∃ a b c d e f g h, xs = [a, b, c, d, e, f, g, h]
  | [a, b, c, d, e, f, g, h], _ => ⟨a, b, c, d, e, f, g, h, rfl⟩
theorem law_true : ∀ ns : List Int, ns.length ≤ 63 → ∃ S, D_law [.p (.scr (ns.map .int))] [] = .ok (.p (.bl true)) S := by
  intro ns hn
  obtain ⟨c, q1⟩ := cell_ok [] ns
  obtain ⟨e2, S2, q, _⟩ := forL_inv (t := .nm 1) (kp := fun _ => true) (body := B_law_3) (fun env _ => env.length = 8) (fun _ _ _ => rfl) ((PV.int c :: cutP (ns.map .int) (some 1) (some 3)).map .p) [some (.p (.scr (ns.map .int))), none, none, none, none, none, none, none] [] rfl (fun y hy env S hlen => by
    obtain ⟨a, b, d, e, f, g, i, j, rfl⟩ := len8 hlen
    have hy2 : ∃ c : Int, y = .p (.int c) := by
      rw [cut_map, List.map_cons, List.map_map, List.mem_cons] at hy
      rcases hy with rfl | hy
      · exact ⟨c, rfl⟩
      · obtain ⟨z, _, rfl⟩ := List.mem_map.mp hy
        exact ⟨z, rfl⟩
    obtain ⟨c, rfl⟩ := hy2
    obtain ⟨e2, S2, r1, r2⟩ := body_ok c a (some (.p (.int c))) d e f g i j rfl S
    exact ⟨_, rfl, e2, S2, r1, r2⟩)
  refine ⟨S2, ?_⟩
  have hcl : (cutP (ns.map PV.int) (some 1) (some 3)).length ≤ 63 := by
    unfold cutP
    rw [List.length_take, List.length_drop, List.length_map]; omega
  unfold D_law
  generalize B_law_3 = body at q ⊢
  simp [envOf, q1, mAdd, mCatL, LIM, List.getElem?_cons_zero, List.getElem?_cons_succ, -getElem?_pos]
  rw [if_pos (by omega)]
  simp
  rw [List.map_cons] at q
  rw [q]
  rfl
end Q_k01

set_option maxRecDepth 100000
set_option maxHeartbeats 4000000
namespace Q_k01
open PySem PySem.Spec PyProof.Rows L2 Dn Sh
abbrev st__law_flags : Stmt := topS 38
abbrev N__law_flags : List Str := ["_law_e", "_law_marks", "_law_words", "_law_at", "_law_heads"]
theorem nd__law_flags : (N__law_flags).Nodup := by decide +kernel
theorem sc__law_flags : FnScope N__law_flags ["_law_e"] (defScope st__law_flags) := ⟨rfl, rfl, rfl, nd__law_flags, rfl, by decide +kernel, by decide +kernel⟩
theorem ok__law_flags {P : Program} {w : World} {K : PySem.W.Frag} {mg : Str → Option Value} {base : Heap} {T : Tab} {f : Addr} {cd : Value} {k : Nat} (hiE : IsEOk K T isEg) (z_isinstance : mg "isinstance" = none) (gc_NoNote : mg "NoNote" = some (.ref (T.C 2))) (gc_NoNotes : mg "NoNotes" = some (.ref (T.C 3))) (gc_Leans : mg "Leans" = some (.ref (T.C 4))) (gc_NoKind : mg "NoKind" = some (.ref (T.C 6))) (gc_NoPrices : mg "NoPrices" = some (.ref (T.C 7))) (gc_NoMonths : mg "NoMonths" = some (.ref (T.C 9))) (gc_NoDay : mg "NoDay" = some (.ref (T.C 10))) (gc_NoPence : mg "NoPence" = some (.ref (T.C 11))) (gc_NoName : mg "NoName" = some (.ref (T.C 12))) (gc_Missing : mg "Missing" = some (.ref (T.C 13))) (gc_Twice : mg "Twice" = some (.ref (T.C 14))) (gc_NoDeed : mg "NoDeed" = some (.ref (T.C 15))) (gc_NoSheet : mg "NoSheet" = some (.ref (T.C 16))) (gc_NoSteps : mg "NoSteps" = some (.ref (T.C 17))) (gc_NoWishes : mg "NoWishes" = some (.ref (T.C 18))) (gc_NoLine : mg "NoLine" = some (.ref (T.C 19))) (gc_TooMany : mg "TooMany" = some (.ref (T.C 20))) (gc_NoText : mg "NoText" = some (.ref (T.C 21))) (z_ValueError : mg "ValueError" = none) (z_LookupError : mg "LookupError" = none) (z_TypeError : mg "TypeError" = none) (z_ArithmeticError : mg "ArithmeticError" = none) (z_RuntimeError : mg "RuntimeError" = none) (gc_NoteError : mg "NoteError" = some (.ref (T.C 1))) (gc_PriceError : mg "PriceError" = some (.ref (T.C 5))) (gc_DayError : mg "DayError" = some (.ref (T.C 8)))
    (c : Nat) (A : Around) (outer : List Env) (s : Shared) (H : Hp) (p : Addr × Obj) (hr : L2H.RoomH k (A.deeper (envOfC "_law_flags" (defScope st__law_flags) s.heap.objs.size f cd))) (hz : L2.Zc (.ref (T.C c)) none p.2) (hv : ∃ vs, p.2.data = .fields vs) :
    PSs (L2H.cxH C8.CX0 P w K mg base N__law_flags "_law_flags" (defScope st__law_flags) f cd A outer s H C8.E0 p) (defBody st__law_flags) (tS K (T.at_ p.1) E0 (D__law_flags c)) := by
  have nd := nd__law_flags
  have hisE := b_isE (X := L2H.cxH C8.CX0 P w K mg base N__law_flags "_law_flags" (defScope st__law_flags) f cd A outer s H C8.E0 p) (T := T) (c := c) (a := p.1) (oe := p.2) List.mem_cons_self hz hv hiE
  have hu : (L2H.cxH C8.CX0 P w K mg base N__law_flags "_law_flags" (defScope st__law_flags) f cd A outer s H C8.E0 p).A.units + 128 < cLine := by
    have z := hr.un
    have z2 : (A.deeper (envOfC "_law_flags" (defScope st__law_flags) s.heap.objs.size f cd)).units + 16 * k + 200 < cLine := z
    show (A.deeper (envOfC "_law_flags" (defScope st__law_flags) s.heap.objs.size f cd)).units + 128 < cLine
    omega
  exact (s_cons (s_set (r_lst (a_cons (r_bi (id := "isinstance") hisE (by rfl) z_isinstance (by decide +kernel) (a_cons (v_ 0) (a_cons (r_cls (c := 2) (by rfl) gc_NoNote) a_nil))) (a_cons (r_bi (id := "isinstance") hisE (by rfl) z_isinstance (by decide +kernel) (a_cons (v_ 0) (a_cons (r_cls (c := 3) (by rfl) gc_NoNotes) a_nil))) (a_cons (r_bi (id := "isinstance") hisE (by rfl) z_isinstance (by decide +kernel) (a_cons (v_ 0) (a_cons (r_cls (c := 4) (by rfl) gc_Leans) a_nil))) (a_cons (r_bi (id := "isinstance") hisE (by rfl) z_isinstance (by decide +kernel) (a_cons (v_ 0) (a_cons (r_cls (c := 6) (by rfl) gc_NoKind) a_nil))) a_nil))))) (gn_ 1 nd))
 (s_cons (s_set (r_op o_add (v_ 1) (r_lst (a_cons (r_bi (id := "isinstance") hisE (by rfl) z_isinstance (by decide +kernel) (a_cons (v_ 0) (a_cons (r_cls (c := 7) (by rfl) gc_NoPrices) a_nil))) (a_cons (r_bi (id := "isinstance") hisE (by rfl) z_isinstance (by decide +kernel) (a_cons (v_ 0) (a_cons (r_cls (c := 9) (by rfl) gc_NoMonths) a_nil))) (a_cons (r_bi (id := "isinstance") hisE (by rfl) z_isinstance (by decide +kernel) (a_cons (v_ 0) (a_cons (r_cls (c := 10) (by rfl) gc_NoDay) a_nil))) (a_cons (r_bi (id := "isinstance") hisE (by rfl) z_isinstance (by decide +kernel) (a_cons (v_ 0) (a_cons (r_cls (c := 11) (by rfl) gc_NoPence) a_nil))) a_nil)))))) (gn_ 1 nd))
 (s_cons (s_set (r_op o_add (v_ 1) (r_lst (a_cons (r_bi (id := "isinstance") hisE (by rfl) z_isinstance (by decide +kernel) (a_cons (v_ 0) (a_cons (r_cls (c := 12) (by rfl) gc_NoName) a_nil))) (a_cons (r_bi (id := "isinstance") hisE (by rfl) z_isinstance (by decide +kernel) (a_cons (v_ 0) (a_cons (r_cls (c := 13) (by rfl) gc_Missing) a_nil))) (a_cons (r_bi (id := "isinstance") hisE (by rfl) z_isinstance (by decide +kernel) (a_cons (v_ 0) (a_cons (r_cls (c := 14) (by rfl) gc_Twice) a_nil))) (a_cons (r_bi (id := "isinstance") hisE (by rfl) z_isinstance (by decide +kernel) (a_cons (v_ 0) (a_cons (r_cls (c := 15) (by rfl) gc_NoDeed) a_nil))) a_nil)))))) (gn_ 1 nd))
 (s_cons (s_set (r_op o_add (v_ 1) (r_lst (a_cons (r_bi (id := "isinstance") hisE (by rfl) z_isinstance (by decide +kernel) (a_cons (v_ 0) (a_cons (r_cls (c := 16) (by rfl) gc_NoSheet) a_nil))) (a_cons (r_bi (id := "isinstance") hisE (by rfl) z_isinstance (by decide +kernel) (a_cons (v_ 0) (a_cons (r_cls (c := 17) (by rfl) gc_NoSteps) a_nil))) (a_cons (r_bi (id := "isinstance") hisE (by rfl) z_isinstance (by decide +kernel) (a_cons (v_ 0) (a_cons (r_cls (c := 18) (by rfl) gc_NoWishes) a_nil))) (a_cons (r_bi (id := "isinstance") hisE (by rfl) z_isinstance (by decide +kernel) (a_cons (v_ 0) (a_cons (r_cls (c := 19) (by rfl) gc_NoLine) a_nil))) a_nil)))))) (gn_ 1 nd))
 (s_cons (s_set (r_op o_add (v_ 1) (r_lst (a_cons (r_bi (id := "isinstance") hisE (by rfl) z_isinstance (by decide +kernel) (a_cons (v_ 0) (a_cons (r_cls (c := 20) (by rfl) gc_TooMany) a_nil))) (a_cons (r_bi (id := "isinstance") hisE (by rfl) z_isinstance (by decide +kernel) (a_cons (v_ 0) (a_cons (r_cls (c := 21) (by rfl) gc_NoText) a_nil))) a_nil)))) (gn_ 1 nd))
 (s_cons (s_if (PW.pt (q_or (q_not (vt_ (r_bi (id := "isinstance") hisE (by rfl) z_isinstance (by decide +kernel) (a_cons (v_ 0) (a_cons (r_ty (n := "ValueError") (by rfl) z_ValueError (by decide +kernel)) a_nil))))) (q_or1 (vt_ (r_bi (id := "isinstance") hisE (by rfl) z_isinstance (by decide +kernel) (a_cons (v_ 0) (a_cons (r_tup (a_cons (r_ty (n := "LookupError") (by rfl) z_LookupError (by decide +kernel)) (a_cons (r_ty (n := "TypeError") (by rfl) z_TypeError (by decide +kernel)) (a_cons (r_ty (n := "ArithmeticError") (by rfl) z_ArithmeticError (by decide +kernel)) (a_cons (r_ty (n := "RuntimeError") (by rfl) z_RuntimeError (by decide +kernel)) a_nil))))) a_nil))))))) (s_one (s_ret (r_tup (a_cons r_str a_nil))))
 s_nil)
 (s_cons (s_set (r_lst (a_cons r_str (a_cons r_str (a_cons r_str (a_cons r_str (a_cons r_str (a_cons r_str (a_cons r_str (a_cons r_str (a_cons r_str (a_cons r_str (a_cons r_str (a_cons r_str a_nil))))))))))))) (gn_ 2 nd))
 (s_cons (s_set (r_op o_add (v_ 2) (r_lst (a_cons r_str (a_cons r_str (a_cons r_str (a_cons r_str (a_cons r_str (a_cons r_str a_nil)))))))) (gn_ 2 nd))
 (s_cons (s_if (kt_ (o_ne hu) (r_count PySem.F.slot_list_count (v_ 1) r_bl) r_int) (s_one (s_ret (r_tup (a_cons r_str a_nil))))
 s_nil)
 (s_cons (s_set (r_index PySem.F.slot_list_index (v_ 1) r_bl) (gn_ 3 nd))
 (s_cons (s_set (r_lst (a_cons (r_bi (id := "isinstance") hisE (by rfl) z_isinstance (by decide +kernel) (a_cons (v_ 0) (a_cons (r_cls (c := 1) (by rfl) gc_NoteError) a_nil))) (a_cons (r_bi (id := "isinstance") hisE (by rfl) z_isinstance (by decide +kernel) (a_cons (v_ 0) (a_cons (r_cls (c := 5) (by rfl) gc_PriceError) a_nil))) (a_cons (r_bi (id := "isinstance") hisE (by rfl) z_isinstance (by decide +kernel) (a_cons (v_ 0) (a_cons (r_cls (c := 8) (by rfl) gc_DayError) a_nil))) a_nil)))) (gn_ 4 nd))
 (s_cons (s_if (kt_ (o_ne hu) (v_ 4) (r_lst (a_cons (ki_ o_lt (v_ 3) r_int) (a_cons (r_chain o_lt o_lt r_int (v_ 3) r_int) (a_cons (r_chain o_lt o_lt r_int (v_ 3) r_int) a_nil))))) (s_one (s_ret (r_tup (a_cons r_str a_nil))))
 s_nil)
 (s_cons (s_if (kt_ (o_eq hu) (r_ix x_seq (v_ 2) (v_ 3)) r_str) (s_one (s_ret (r_tup (a_cons (r_ix x_seq (v_ 2) (v_ 3)) (a_cons r_no (a_cons r_no a_nil))))))
 s_nil)
 (s_cons (s_if (kt_ (o_eq hu) (r_ix x_seq (v_ 2) (v_ 3)) r_str) (s_one (s_ret (r_tup (a_cons (r_ix x_seq (v_ 2) (v_ 3)) (a_cons r_no a_nil)))))
 s_nil)
 (s_one (s_ret (r_if (kt_ (o_eq hu) (r_ix x_seq (v_ 2) (v_ 3)) r_str) (r_tup (a_cons (r_ix x_seq (v_ 2) (v_ 3)) (a_cons r_no a_nil))) (r_tup (a_cons (r_ix x_seq (v_ 2) (v_ 3)) a_nil)))))))))))))))))))
theorem fn__law_flags {P : Program} {w : World} {K : PySem.W.Frag} {mg : Str → Option Value} {base : Heap} {T : Tab} {CS f : Addr} {k : Nat} {dV kV doc pm cdv ct oc : Value} {an od : Option Addr} {osl : Array (Option Value)}
    (lk : K.lookup f = some ⟨oc, od, .func (PySem.W.fnOf "_law_flags" "_law_flags" (defArgs st__law_flags) (defBody st__law_flags) (defScope st__law_flags) dV kV doc pm an cdv ct), osl⟩) (hcd : PySem.W.codeIn K cdv "_law_flags" = true) (hex : T.ex = none)
    (hb : ∀ (s : Shared) (u : Value), BindsTo s (PySem.W.fnOf "_law_flags" "_law_flags" (defArgs st__law_flags) (defBody st__law_flags) (defScope st__law_flags) dV kV doc pm an cdv ct) ⟨[u], []⟩ ((["_law_e"] : List Str).zip [u]))
    (hiE : IsEOk K T isEg) (z_isinstance : mg "isinstance" = none) (gc_NoNote : mg "NoNote" = some (.ref (T.C 2))) (gc_NoNotes : mg "NoNotes" = some (.ref (T.C 3))) (gc_Leans : mg "Leans" = some (.ref (T.C 4))) (gc_NoKind : mg "NoKind" = some (.ref (T.C 6))) (gc_NoPrices : mg "NoPrices" = some (.ref (T.C 7))) (gc_NoMonths : mg "NoMonths" = some (.ref (T.C 9))) (gc_NoDay : mg "NoDay" = some (.ref (T.C 10))) (gc_NoPence : mg "NoPence" = some (.ref (T.C 11))) (gc_NoName : mg "NoName" = some (.ref (T.C 12))) (gc_Missing : mg "Missing" = some (.ref (T.C 13))) (gc_Twice : mg "Twice" = some (.ref (T.C 14))) (gc_NoDeed : mg "NoDeed" = some (.ref (T.C 15))) (gc_NoSheet : mg "NoSheet" = some (.ref (T.C 16))) (gc_NoSteps : mg "NoSteps" = some (.ref (T.C 17))) (gc_NoWishes : mg "NoWishes" = some (.ref (T.C 18))) (gc_NoLine : mg "NoLine" = some (.ref (T.C 19))) (gc_TooMany : mg "TooMany" = some (.ref (T.C 20))) (gc_NoText : mg "NoText" = some (.ref (T.C 21))) (z_ValueError : mg "ValueError" = none) (z_LookupError : mg "LookupError" = none) (z_TypeError : mg "TypeError" = none) (z_ArithmeticError : mg "ArithmeticError" = none) (z_RuntimeError : mg "RuntimeError" = none) (gc_NoteError : mg "NoteError" = some (.ref (T.C 1))) (gc_PriceError : mg "PriceError" = some (.ref (T.C 5))) (gc_DayError : mg "DayError" = some (.ref (T.C 8))) : FnF P w K mg base T CS FL (k + 1) f :=
  flag_fn (m := fun c _ => D__law_flags c) lk hcd sc__law_flags hex hb flags_out fun c fs A outer s H p d hr hz hv hd hne => ok__law_flags hiE z_isinstance gc_NoNote gc_NoNotes gc_Leans gc_NoKind gc_NoPrices gc_NoMonths gc_NoDay gc_NoPence gc_NoName gc_Missing gc_Twice gc_NoDeed gc_NoSheet gc_NoSteps gc_NoWishes gc_NoLine gc_TooMany gc_NoText z_ValueError z_LookupError z_TypeError z_ArithmeticError z_RuntimeError gc_NoteError gc_PriceError gc_DayError c A outer s H p hr (by rw [← hd (fl_nil hne)]; exact hz) hv
abbrev st__law_word : Stmt := topS 39
theorem sc__law_word : FnScope ["_law_call", "_law_e"] ["_law_call"] (defScope st__law_word) := ⟨rfl, rfl, rfl, by decide +kernel, rfl, by decide +kernel, by decide +kernel⟩
end Q_k01

set_option maxRecDepth 100000
set_option maxHeartbeats 4000000
namespace Q_k01
open PySem PySem.Spec PyProof.Rows L2 Dn Sh
theorem all_mk {P : Program} {w : World} {K : PySem.W.Frag} {h : Heap} {mg : Str → Option Value} {fa : Addr} (X : K.In h) (G : h.Ns mainGlobals mg) (hfa : mg "law" = some (.ref fa))
  {C_ShareError C_NoteError C_NoNote C_NoNotes C_Leans C_PriceError C_NoKind C_NoPrices C_DayError C_NoMonths C_NoDay C_NoPence C_NoName C_Missing C_Twice C_NoDeed C_NoSheet C_NoSteps C_NoWishes C_NoLine C_TooMany C_NoText C_Months f__law_flags f__law_word f__law_cell_at f__law_pen_of f__law_next f__law_draw f__law_lengths f_is_tuple_of f_is_whole f_is_within f__are_lengths f__all_places f_Months___init__ f_Months___len__ f_Months___repr__ f_Months___str__ f_Months_all_lengths f_Months___eq__ f__law_right f_law cc_law PP_law : Addr}
  {oc__law_flags kV__law_flags dc__law_flags pm__law_flags cd__law_flags ct__law_flags oc__law_word kV__law_word dc__law_word pm__law_word cd__law_word ct__law_word oc__law_cell_at kV__law_cell_at dc__law_cell_at pm__law_cell_at ct__law_cell_at cd__law_cell_at oc__law_pen_of kV__law_pen_of dc__law_pen_of pm__law_pen_of ct__law_pen_of cd__law_pen_of oc__law_next kV__law_next dc__law_next pm__law_next ct__law_next cd__law_next oc__law_draw kV__law_draw dc__law_draw pm__law_draw ct__law_draw cd__law_draw oc__law_lengths kV__law_lengths dc__law_lengths pm__law_lengths ct__law_lengths cd__law_lengths oc_is_tuple_of kV_is_tuple_of dc_is_tuple_of pm_is_tuple_of ct_is_tuple_of cd_is_tuple_of oc_is_whole kV_is_whole dc_is_whole pm_is_whole ct_is_whole cd_is_whole oc_is_within kV_is_within dc_is_within pm_is_within ct_is_within cd_is_within oc__are_lengths kV__are_lengths dc__are_lengths pm__are_lengths ct__are_lengths cd__are_lengths oc__all_places kV__all_places dc__all_places pm__all_places ct__all_places cd__all_places oc_Months___init__ kV_Months___init__ dc_Months___init__ pm_Months___init__ ct_Months___init__ cd_Months___init__ oc_Months___len__ kV_Months___len__ dc_Months___len__ pm_Months___len__ ct_Months___len__ cd_Months___len__ oc_Months___repr__ kV_Months___repr__ dc_Months___repr__ pm_Months___repr__ ct_Months___repr__ cd_Months___repr__ oc_Months___str__ kV_Months___str__ dc_Months___str__ pm_Months___str__ ct_Months___str__ cd_Months___str__ oc_Months_all_lengths kV_Months_all_lengths dc_Months_all_lengths pm_Months_all_lengths ct_Months_all_lengths cd_Months_all_lengths oc_Months___eq__ kV_Months___eq__ dc_Months___eq__ pm_Months___eq__ ct_Months___eq__ cd_Months___eq__ oc__law_right kV__law_right dc__law_right pm__law_right ct__law_right cd__law_right oc_law kV_law dc_law pm_law ct_law qa_law : Value}
  {od__law_flags an__law_flags od__law_word an__law_word od__law_cell_at an__law_cell_at od__law_pen_of an__law_pen_of od__law_next an__law_next od__law_draw an__law_draw od__law_lengths an__law_lengths od_is_tuple_of an_is_tuple_of od_is_whole an_is_whole od_is_within an_is_within od__are_lengths an__are_lengths od__all_places an__all_places od_Months___init__ an_Months___init__ od_Months___len__ an_Months___len__ od_Months___repr__ an_Months___repr__ od_Months___str__ an_Months___str__ od_Months_all_lengths an_Months_all_lengths od_Months___eq__ an_Months___eq__ od__law_right an__law_right qb_law od_law an_law : Option Addr}
  {sl__law_flags sl__law_word sl__law_cell_at sl__law_pen_of sl__law_next sl__law_draw sl__law_lengths sl_is_tuple_of sl_is_whole sl_is_within sl__are_lengths sl__all_places sl_Months___init__ sl_Months___len__ sl_Months___repr__ sl_Months___str__ sl_Months_all_lengths sl_Months___eq__ sl__law_right qs_law sl_law : Array (Option Value)}
  {qv_law : Array Value}
  (aC_ShareError : PySem.W.nsIn K mainGlobals "ShareError" = some (some (.ref C_ShareError)))
  (aC_NoteError : PySem.W.nsIn K mainGlobals "NoteError" = some (some (.ref C_NoteError)))
  (aC_NoNote : PySem.W.nsIn K mainGlobals "NoNote" = some (some (.ref C_NoNote)))
  (aC_NoNotes : PySem.W.nsIn K mainGlobals "NoNotes" = some (some (.ref C_NoNotes)))
  (aC_Leans : PySem.W.nsIn K mainGlobals "Leans" = some (some (.ref C_Leans)))
  (aC_PriceError : PySem.W.nsIn K mainGlobals "PriceError" = some (some (.ref C_PriceError)))
  (aC_NoKind : PySem.W.nsIn K mainGlobals "NoKind" = some (some (.ref C_NoKind)))
  (aC_NoPrices : PySem.W.nsIn K mainGlobals "NoPrices" = some (some (.ref C_NoPrices)))
  (aC_DayError : PySem.W.nsIn K mainGlobals "DayError" = some (some (.ref C_DayError)))
  (aC_NoMonths : PySem.W.nsIn K mainGlobals "NoMonths" = some (some (.ref C_NoMonths)))
  (aC_NoDay : PySem.W.nsIn K mainGlobals "NoDay" = some (some (.ref C_NoDay)))
  (aC_NoPence : PySem.W.nsIn K mainGlobals "NoPence" = some (some (.ref C_NoPence)))
  (aC_NoName : PySem.W.nsIn K mainGlobals "NoName" = some (some (.ref C_NoName)))
  (aC_Missing : PySem.W.nsIn K mainGlobals "Missing" = some (some (.ref C_Missing)))
  (aC_Twice : PySem.W.nsIn K mainGlobals "Twice" = some (some (.ref C_Twice)))
  (aC_NoDeed : PySem.W.nsIn K mainGlobals "NoDeed" = some (some (.ref C_NoDeed)))
  (aC_NoSheet : PySem.W.nsIn K mainGlobals "NoSheet" = some (some (.ref C_NoSheet)))
  (aC_NoSteps : PySem.W.nsIn K mainGlobals "NoSteps" = some (some (.ref C_NoSteps)))
  (aC_NoWishes : PySem.W.nsIn K mainGlobals "NoWishes" = some (some (.ref C_NoWishes)))
  (aC_NoLine : PySem.W.nsIn K mainGlobals "NoLine" = some (some (.ref C_NoLine)))
  (aC_TooMany : PySem.W.nsIn K mainGlobals "TooMany" = some (some (.ref C_TooMany)))
  (aC_NoText : PySem.W.nsIn K mainGlobals "NoText" = some (some (.ref C_NoText)))
  (aC_Months : PySem.W.nsIn K mainGlobals "Months" = some (some (.ref C_Months)))
  (pg_Months : PySem.W.plainGet K C_Months Str.empty = true)
  (hd_Months : PySem.W.hasDictIn K C_Months = true)
  (po_Months : PySem.W.plainOver K C_Months = true)
  (sa_Months : PySem.W.findIn K (.ref C_Months) "__setattr__" = some (some (.builtin "object.__setattr__")))
  (mk_Months : PySem.W.makesIn K C_Months = true)
  (kc_Months : PySem.W.keepIn K (.ref C_Months) = true)
  (kx_NoMonths : PySem.W.keepIn K (.ref C_NoMonths) = true)
  (ex_NoMonths : PySem.W.excIn K C_NoMonths [.type "ValueError", .type "Exception", .type "BaseException", .type "object"] "ValueError.__new__" = true)
  (bx_NoMonths : PySem.W.subIn K (.ref C_NoMonths) (.type "BaseException") = some true)
  (tx_NoMonths : PySem.W.typeIn K (.ref C_NoMonths) = some (.type "type"))
  (y_len : PySem.W.nsIn K mainGlobals "len" = some none)
  (y_max : PySem.W.nsIn K mainGlobals "max" = some none)
  (y_int : PySem.W.nsIn K mainGlobals "int" = some none)
  (y_tuple : PySem.W.nsIn K mainGlobals "tuple" = some none)
  (y_range : PySem.W.nsIn K mainGlobals "range" = some none)
  (y_isinstance : PySem.W.nsIn K mainGlobals "isinstance" = some none)
  (y_bool : PySem.W.nsIn K mainGlobals "bool" = some none)
  (y_all : PySem.W.nsIn K mainGlobals "all" = some none)
  (w_Months_lengths : PySem.W.findIn K (.ref C_Months) "lengths" = some none)
  (w_Months_places : PySem.W.findIn K (.ref C_Months) "places" = some none)
  (y_str : PySem.W.nsIn K mainGlobals "str" = some none)
  (y_repr : PySem.W.nsIn K mainGlobals "repr" = some none)
  (y_sum : PySem.W.nsIn K mainGlobals "sum" = some none)
  (w1_Months : PySem.W.findIn K (.ref C_Months) "__ne__" = some (some (.builtin "object.__ne__")))
  (w2_Months : PySem.W.mroIn K C_Months (.type "object") = some true)
  (w3_Months : PySem.W.mroIn K C_Months (.type "NoneType") = some false)
  (w4_Months : PySem.W.mroIn K C_Months (.type "int") = some false)
  (y_list : PySem.W.nsIn K mainGlobals "list" = some none)
  (y_ValueError : PySem.W.nsIn K mainGlobals "ValueError" = some none)
  (y_LookupError : PySem.W.nsIn K mainGlobals "LookupError" = some none)
  (y_TypeError : PySem.W.nsIn K mainGlobals "TypeError" = some none)
  (y_ArithmeticError : PySem.W.nsIn K mainGlobals "ArithmeticError" = some none)
  (y_RuntimeError : PySem.W.nsIn K mainGlobals "RuntimeError" = some none)
  (oX_ : ownX K (tabT [C_ShareError, C_NoteError, C_NoNote, C_NoNotes, C_Leans, C_PriceError, C_NoKind, C_NoPrices, C_DayError, C_NoMonths, C_NoDay, C_NoPence, C_NoName, C_Missing, C_Twice, C_NoDeed, C_NoSheet, C_NoSteps, C_NoWishes, C_NoLine, C_TooMany, C_NoText, C_Months, 0, 0, 0, 0, 0, 0] [(PP_law, ((envOfC "law" (defScope st_law) 0 0 (.ref cc_law)).qual ++ "<lambda>"))]) [22] = true)
  (ta_Months : PySem.W.findIn K (.ref C_Months) "__class__" = some (some (.builtin "object.__class__")))
  (tm_Months : PySem.W.mroIn K C_Months (.type "object") = some true)
  (tn_ : PySem.W.specialIn K (.builtin "object.__class__") "__get__" = some (some (.builtin "getset_descriptor.__get__")))
  (tt_ : PySem.W.takesIn K (.builtin "object.__class__") = some true)
  (a__law_flags : PySem.W.nsIn K mainGlobals "_law_flags" = some (some (.ref f__law_flags)))
  (l__law_flags : K.lookup f__law_flags = some ⟨oc__law_flags, od__law_flags, .func (PySem.W.fnOf "_law_flags" "_law_flags" (defArgs st__law_flags) (defBody st__law_flags) (defScope st__law_flags) .none kV__law_flags dc__law_flags pm__law_flags an__law_flags cd__law_flags ct__law_flags), sl__law_flags⟩)
  (c__law_flags : PySem.W.codeIn K cd__law_flags "_law_flags" = true)
  (k__law_flags : PySem.W.keepIn K (.ref f__law_flags) = true)
  (a__law_word : PySem.W.nsIn K mainGlobals "_law_word" = some (some (.ref f__law_word)))
  (l__law_word : K.lookup f__law_word = some ⟨oc__law_word, od__law_word, .func (PySem.W.fnOf "_law_word" "_law_word" (defArgs st__law_word) (defBody st__law_word) (defScope st__law_word) .none kV__law_word dc__law_word pm__law_word an__law_word cd__law_word ct__law_word), sl__law_word⟩)
  (c__law_word : PySem.W.codeIn K cd__law_word "_law_word" = true)
  (k__law_word : PySem.W.keepIn K (.ref f__law_word) = true)
  (a__law_cell_at : PySem.W.nsIn K mainGlobals "_law_cell_at" = some (some (.ref f__law_cell_at)))
  (l__law_cell_at : K.lookup f__law_cell_at = some ⟨oc__law_cell_at, od__law_cell_at, .func (PySem.W.fnOf "_law_cell_at" "_law_cell_at" (defArgs st__law_cell_at) (defBody st__law_cell_at) (defScope st__law_cell_at) .none kV__law_cell_at dc__law_cell_at pm__law_cell_at an__law_cell_at cd__law_cell_at ct__law_cell_at), sl__law_cell_at⟩)
  (c__law_cell_at : PySem.W.codeIn K cd__law_cell_at "_law_cell_at" = true)
  (k__law_cell_at : PySem.W.keepIn K (.ref f__law_cell_at) = true)
  (a__law_pen_of : PySem.W.nsIn K mainGlobals "_law_pen_of" = some (some (.ref f__law_pen_of)))
  (l__law_pen_of : K.lookup f__law_pen_of = some ⟨oc__law_pen_of, od__law_pen_of, .func (PySem.W.fnOf "_law_pen_of" "_law_pen_of" (defArgs st__law_pen_of) (defBody st__law_pen_of) (defScope st__law_pen_of) .none kV__law_pen_of dc__law_pen_of pm__law_pen_of an__law_pen_of cd__law_pen_of ct__law_pen_of), sl__law_pen_of⟩)
  (c__law_pen_of : PySem.W.codeIn K cd__law_pen_of "_law_pen_of" = true)
  (k__law_pen_of : PySem.W.keepIn K (.ref f__law_pen_of) = true)
  (a__law_next : PySem.W.nsIn K mainGlobals "_law_next" = some (some (.ref f__law_next)))
  (l__law_next : K.lookup f__law_next = some ⟨oc__law_next, od__law_next, .func (PySem.W.fnOf "_law_next" "_law_next" (defArgs st__law_next) (defBody st__law_next) (defScope st__law_next) .none kV__law_next dc__law_next pm__law_next an__law_next cd__law_next ct__law_next), sl__law_next⟩)
  (c__law_next : PySem.W.codeIn K cd__law_next "_law_next" = true)
  (k__law_next : PySem.W.keepIn K (.ref f__law_next) = true)
  (a__law_draw : PySem.W.nsIn K mainGlobals "_law_draw" = some (some (.ref f__law_draw)))
  (l__law_draw : K.lookup f__law_draw = some ⟨oc__law_draw, od__law_draw, .func (PySem.W.fnOf "_law_draw" "_law_draw" (defArgs st__law_draw) (defBody st__law_draw) (defScope st__law_draw) .none kV__law_draw dc__law_draw pm__law_draw an__law_draw cd__law_draw ct__law_draw), sl__law_draw⟩)
  (c__law_draw : PySem.W.codeIn K cd__law_draw "_law_draw" = true)
  (k__law_draw : PySem.W.keepIn K (.ref f__law_draw) = true)
  (a__law_lengths : PySem.W.nsIn K mainGlobals "_law_lengths" = some (some (.ref f__law_lengths)))
  (l__law_lengths : K.lookup f__law_lengths = some ⟨oc__law_lengths, od__law_lengths, .func (PySem.W.fnOf "_law_lengths" "_law_lengths" (defArgs st__law_lengths) (defBody st__law_lengths) (defScope st__law_lengths) .none kV__law_lengths dc__law_lengths pm__law_lengths an__law_lengths cd__law_lengths ct__law_lengths), sl__law_lengths⟩)
  (c__law_lengths : PySem.W.codeIn K cd__law_lengths "_law_lengths" = true)
  (k__law_lengths : PySem.W.keepIn K (.ref f__law_lengths) = true)
  (a_is_tuple_of : PySem.W.nsIn K mainGlobals "is_tuple_of" = some (some (.ref f_is_tuple_of)))
  (l_is_tuple_of : K.lookup f_is_tuple_of = some ⟨oc_is_tuple_of, od_is_tuple_of, .func (PySem.W.fnOf "is_tuple_of" "is_tuple_of" (defArgs st_is_tuple_of) (defBody st_is_tuple_of) (defScope st_is_tuple_of) .none kV_is_tuple_of dc_is_tuple_of pm_is_tuple_of an_is_tuple_of cd_is_tuple_of ct_is_tuple_of), sl_is_tuple_of⟩)
  (c_is_tuple_of : PySem.W.codeIn K cd_is_tuple_of "is_tuple_of" = true)
  (k_is_tuple_of : PySem.W.keepIn K (.ref f_is_tuple_of) = true)
  (a_is_whole : PySem.W.nsIn K mainGlobals "is_whole" = some (some (.ref f_is_whole)))
  (l_is_whole : K.lookup f_is_whole = some ⟨oc_is_whole, od_is_whole, .func (PySem.W.fnOf "is_whole" "is_whole" (defArgs st_is_whole) (defBody st_is_whole) (defScope st_is_whole) .none kV_is_whole dc_is_whole pm_is_whole an_is_whole cd_is_whole ct_is_whole), sl_is_whole⟩)
  (c_is_whole : PySem.W.codeIn K cd_is_whole "is_whole" = true)
  (k_is_whole : PySem.W.keepIn K (.ref f_is_whole) = true)
  (a_is_within : PySem.W.nsIn K mainGlobals "is_within" = some (some (.ref f_is_within)))
  (l_is_within : K.lookup f_is_within = some ⟨oc_is_within, od_is_within, .func (PySem.W.fnOf "is_within" "is_within" (defArgs st_is_within) (defBody st_is_within) (defScope st_is_within) .none kV_is_within dc_is_within pm_is_within an_is_within cd_is_within ct_is_within), sl_is_within⟩)
  (c_is_within : PySem.W.codeIn K cd_is_within "is_within" = true)
  (k_is_within : PySem.W.keepIn K (.ref f_is_within) = true)
  (a__are_lengths : PySem.W.nsIn K mainGlobals "_are_lengths" = some (some (.ref f__are_lengths)))
  (l__are_lengths : K.lookup f__are_lengths = some ⟨oc__are_lengths, od__are_lengths, .func (PySem.W.fnOf "_are_lengths" "_are_lengths" (defArgs st__are_lengths) (defBody st__are_lengths) (defScope st__are_lengths) .none kV__are_lengths dc__are_lengths pm__are_lengths an__are_lengths cd__are_lengths ct__are_lengths), sl__are_lengths⟩)
  (c__are_lengths : PySem.W.codeIn K cd__are_lengths "_are_lengths" = true)
  (k__are_lengths : PySem.W.keepIn K (.ref f__are_lengths) = true)
  (a__all_places : PySem.W.nsIn K mainGlobals "_all_places" = some (some (.ref f__all_places)))
  (l__all_places : K.lookup f__all_places = some ⟨oc__all_places, od__all_places, .func (PySem.W.fnOf "_all_places" "_all_places" (defArgs st__all_places) (defBody st__all_places) (defScope st__all_places) .none kV__all_places dc__all_places pm__all_places an__all_places cd__all_places ct__all_places), sl__all_places⟩)
  (c__all_places : PySem.W.codeIn K cd__all_places "_all_places" = true)
  (k__all_places : PySem.W.keepIn K (.ref f__all_places) = true)
  (a_Months___init__ : PySem.W.findIn K (.ref C_Months) "__init__" = some (some (.ref f_Months___init__)))
  (i_Months___init__ : PySem.W.isFn K (.ref f_Months___init__) = true)
  (l_Months___init__ : K.lookup f_Months___init__ = some ⟨oc_Months___init__, od_Months___init__, .func (PySem.W.fnOf "__init__" "Months.__init__" (defArgs st_Months___init__) (defBody st_Months___init__) (defScope st_Months___init__) .none kV_Months___init__ dc_Months___init__ pm_Months___init__ an_Months___init__ cd_Months___init__ ct_Months___init__), sl_Months___init__⟩)
  (c_Months___init__ : PySem.W.codeIn K cd_Months___init__ "Months.__init__" = true)
  (k_Months___init__ : PySem.W.keepIn K (.ref f_Months___init__) = true)
  (a_Months___len__ : PySem.W.findIn K (.ref C_Months) "__len__" = some (some (.ref f_Months___len__)))
  (i_Months___len__ : PySem.W.isFn K (.ref f_Months___len__) = true)
  (l_Months___len__ : K.lookup f_Months___len__ = some ⟨oc_Months___len__, od_Months___len__, .func (PySem.W.fnOf "__len__" "Months.__len__" (defArgs st_Months___len__) (defBody st_Months___len__) (defScope st_Months___len__) .none kV_Months___len__ dc_Months___len__ pm_Months___len__ an_Months___len__ cd_Months___len__ ct_Months___len__), sl_Months___len__⟩)
  (c_Months___len__ : PySem.W.codeIn K cd_Months___len__ "Months.__len__" = true)
  (k_Months___len__ : PySem.W.keepIn K (.ref f_Months___len__) = true)
  (a_Months___repr__ : PySem.W.findIn K (.ref C_Months) "__repr__" = some (some (.ref f_Months___repr__)))
  (i_Months___repr__ : PySem.W.isFn K (.ref f_Months___repr__) = true)
  (l_Months___repr__ : K.lookup f_Months___repr__ = some ⟨oc_Months___repr__, od_Months___repr__, .func (PySem.W.fnOf "__repr__" "Months.__repr__" (defArgs st_Months___repr__) (defBody st_Months___repr__) (defScope st_Months___repr__) .none kV_Months___repr__ dc_Months___repr__ pm_Months___repr__ an_Months___repr__ cd_Months___repr__ ct_Months___repr__), sl_Months___repr__⟩)
  (c_Months___repr__ : PySem.W.codeIn K cd_Months___repr__ "Months.__repr__" = true)
  (k_Months___repr__ : PySem.W.keepIn K (.ref f_Months___repr__) = true)
  (a_Months___str__ : PySem.W.findIn K (.ref C_Months) "__str__" = some (some (.ref f_Months___str__)))
  (i_Months___str__ : PySem.W.isFn K (.ref f_Months___str__) = true)
  (l_Months___str__ : K.lookup f_Months___str__ = some ⟨oc_Months___str__, od_Months___str__, .func (PySem.W.fnOf "__str__" "Months.__str__" (defArgs st_Months___str__) (defBody st_Months___str__) (defScope st_Months___str__) .none kV_Months___str__ dc_Months___str__ pm_Months___str__ an_Months___str__ cd_Months___str__ ct_Months___str__), sl_Months___str__⟩)
  (c_Months___str__ : PySem.W.codeIn K cd_Months___str__ "Months.__str__" = true)
  (k_Months___str__ : PySem.W.keepIn K (.ref f_Months___str__) = true)
  (a_Months_all_lengths : PySem.W.findIn K (.ref C_Months) "all_lengths" = some (some (.ref f_Months_all_lengths)))
  (i_Months_all_lengths : PySem.W.isFn K (.ref f_Months_all_lengths) = true)
  (l_Months_all_lengths : K.lookup f_Months_all_lengths = some ⟨oc_Months_all_lengths, od_Months_all_lengths, .func (PySem.W.fnOf "all_lengths" "Months.all_lengths" (defArgs st_Months_all_lengths) (defBody st_Months_all_lengths) (defScope st_Months_all_lengths) .none kV_Months_all_lengths dc_Months_all_lengths pm_Months_all_lengths an_Months_all_lengths cd_Months_all_lengths ct_Months_all_lengths), sl_Months_all_lengths⟩)
  (c_Months_all_lengths : PySem.W.codeIn K cd_Months_all_lengths "Months.all_lengths" = true)
  (k_Months_all_lengths : PySem.W.keepIn K (.ref f_Months_all_lengths) = true)
  (a_Months___eq__ : PySem.W.findIn K (.ref C_Months) "__eq__" = some (some (.ref f_Months___eq__)))
  (i_Months___eq__ : PySem.W.isFn K (.ref f_Months___eq__) = true)
  (l_Months___eq__ : K.lookup f_Months___eq__ = some ⟨oc_Months___eq__, od_Months___eq__, .func (PySem.W.fnOf "__eq__" "Months.__eq__" (defArgs st_Months___eq__) (defBody st_Months___eq__) (defScope st_Months___eq__) .none kV_Months___eq__ dc_Months___eq__ pm_Months___eq__ an_Months___eq__ cd_Months___eq__ ct_Months___eq__), sl_Months___eq__⟩)
  (c_Months___eq__ : PySem.W.codeIn K cd_Months___eq__ "Months.__eq__" = true)
  (k_Months___eq__ : PySem.W.keepIn K (.ref f_Months___eq__) = true)
  (a__law_right : PySem.W.nsIn K mainGlobals "_law_right" = some (some (.ref f__law_right)))
  (l__law_right : K.lookup f__law_right = some ⟨oc__law_right, od__law_right, .func (PySem.W.fnOf "_law_right" "_law_right" (defArgs st__law_right) (defBody st__law_right) (defScope st__law_right) .none kV__law_right dc__law_right pm__law_right an__law_right cd__law_right ct__law_right), sl__law_right⟩)
  (c__law_right : PySem.W.codeIn K cd__law_right "_law_right" = true)
  (k__law_right : PySem.W.keepIn K (.ref f__law_right) = true)
  (a_law : PySem.W.nsIn K mainGlobals "law" = some (some (.ref f_law)))
  (l_law : K.lookup f_law = some ⟨oc_law, od_law, .func (PySem.W.fnOf "law" "law" (defArgs st_law) (defBody st_law) (defScope st_law) .none kV_law dc_law pm_law an_law (.ref cc_law) ct_law), sl_law⟩)
  (c_law : PySem.W.codeIn K (.ref cc_law) "law" = true)
  (q1_law : K.lookup cc_law = some ⟨qa_law, qb_law, .fields qv_law, qs_law⟩)
  (q2_law : (qv_law[11]? : Option Value) = some (.ref PP_law))
  (q3_law : PySem.W.codeHdIn K cc_law PP_law = true)
  (q4_law : K.lookup PP_law = none)
  (q5_law : h.get? PP_law = some { cls := .none, data := .fields #[] })
  (k_law : PySem.W.keepIn K (.ref f_law) = true)
  (kX_ : kitX K (tabT [C_ShareError, C_NoteError, C_NoNote, C_NoNotes, C_Leans, C_PriceError, C_NoKind, C_NoPrices, C_DayError, C_NoMonths, C_NoDay, C_NoPence, C_NoName, C_Missing, C_Twice, C_NoDeed, C_NoSheet, C_NoSteps, C_NoWishes, C_NoLine, C_TooMany, C_NoText, C_Months, 0, 0, 0, 0, 0, 0] [(PP_law, ((envOfC "law" (defScope st_law) 0 0 (.ref cc_law)).qual ++ "<lambda>"))]) Own.excs = true)
  (eX_ : excX K (tabT [C_ShareError, C_NoteError, C_NoNote, C_NoNotes, C_Leans, C_PriceError, C_NoKind, C_NoPrices, C_DayError, C_NoMonths, C_NoDay, C_NoPence, C_NoName, C_Missing, C_Twice, C_NoDeed, C_NoSheet, C_NoSteps, C_NoWishes, C_NoLine, C_TooMany, C_NoText, C_Months, 0, 0, 0, 0, 0, 0] [(PP_law, ((envOfC "law" (defScope st_law) 0 0 (.ref cc_law)).qual ++ "<lambda>"))]) Own.excs = true)
  (mX_ : exmX K (tabT [C_ShareError, C_NoteError, C_NoNote, C_NoNotes, C_Leans, C_PriceError, C_NoKind, C_NoPrices, C_DayError, C_NoMonths, C_NoDay, C_NoPence, C_NoName, C_Missing, C_Twice, C_NoDeed, C_NoSheet, C_NoSteps, C_NoWishes, C_NoLine, C_TooMany, C_NoText, C_Months, 0, 0, 0, 0, 0, 0] [(PP_law, ((envOfC "law" (defScope st_law) 0 0 (.ref cc_law)).qual ++ "<lambda>"))]) Own.excs = true)
  (un : ∀ p ∈ (tabT [C_ShareError, C_NoteError, C_NoNote, C_NoNotes, C_Leans, C_PriceError, C_NoKind, C_NoPrices, C_DayError, C_NoMonths, C_NoDay, C_NoPence, C_NoName, C_Missing, C_Twice, C_NoDeed, C_NoSheet, C_NoSteps, C_NoWishes, C_NoLine, C_TooMany, C_NoText, C_Months, 0, 0, 0, 0, 0, 0] [(PP_law, ((envOfC "law" (defScope st_law) 0 0 (.ref cc_law)).qual ++ "<lambda>"))]).tb, ∀ p2 ∈ (tabT [C_ShareError, C_NoteError, C_NoNote, C_NoNotes, C_Leans, C_PriceError, C_NoKind, C_NoPrices, C_DayError, C_NoMonths, C_NoDay, C_NoPence, C_NoName, C_Missing, C_Twice, C_NoDeed, C_NoSheet, C_NoSteps, C_NoWishes, C_NoLine, C_TooMany, C_NoText, C_Months, 0, 0, 0, 0, 0, 0] [(PP_law, ((envOfC "law" (defScope st_law) 0 0 (.ref cc_law)).qual ++ "<lambda>"))]).tb, p.1 = p2.1 → p.2 = p2.2) :
  ∃ (fd : FuncData) (cs : List (Addr × Addr)) (sp : Sp), (∀ p ∈ cs, h.get? p.2 = some emptyT) ∧ (∀ p ∈ cs, K.lookup p.2 = none) ∧ (∀ p ∈ cs, PySem.W.codeHdIn K p.1 p.2 = true) ∧ (∀ (s : Shared) (v : Value), BindsTo s fd ⟨[v], []⟩ [("_law_script", v)]) ∧
    (∀ (H : Hp) (a : Addr) (ns : List Int), ns.length ≤ 63 → (∀ p ∈ cs, H p.2 = some (.tbl #[])) → SqL K H a (ns.map V.int) → sp [.ref a] H (fun v _ => v = .bl true) fun _ _ _ => False) ∧
    ∀ base : Heap, K.In base → base.Ns mainGlobals mg → (∀ p ∈ cs, LamX.TabB base mg p.1 p.2) → FnG P w K mg base (L2.CX P w) 9 fa fd ["_law_script"] sp := by
  have e := hfa.symm.trans (PySem.W.mg_of X G a_law)
  cases e
  have cl_Months : Cls K ((tabT [C_ShareError, C_NoteError, C_NoNote, C_NoNotes, C_Leans, C_PriceError, C_NoKind, C_NoPrices, C_DayError, C_NoMonths, C_NoDay, C_NoPence, C_NoName, C_Missing, C_Twice, C_NoDeed, C_NoSheet, C_NoSteps, C_NoWishes, C_NoLine, C_TooMany, C_NoText, C_Months, 0, 0, 0, 0, 0, 0] [(PP_law, ((envOfC "law" (defScope st_law) 0 0 (.ref cc_law)).qual ++ "<lambda>"))]).C 22) := ⟨pg_Months, hd_Months, po_Months, sa_Months⟩
  have gc_Months : mg "Months" = some (.ref ((tabT [C_ShareError, C_NoteError, C_NoNote, C_NoNotes, C_Leans, C_PriceError, C_NoKind, C_NoPrices, C_DayError, C_NoMonths, C_NoDay, C_NoPence, C_NoName, C_Missing, C_Twice, C_NoDeed, C_NoSheet, C_NoSteps, C_NoWishes, C_NoLine, C_TooMany, C_NoText, C_Months, 0, 0, 0, 0, 0, 0] [(PP_law, ((envOfC "law" (defScope st_law) 0 0 (.ref cc_law)).qual ++ "<lambda>"))]).C 22)) := PySem.W.mg_of X G aC_Months
  have gc_ShareError : mg "ShareError" = some (.ref ((tabT [C_ShareError, C_NoteError, C_NoNote, C_NoNotes, C_Leans, C_PriceError, C_NoKind, C_NoPrices, C_DayError, C_NoMonths, C_NoDay, C_NoPence, C_NoName, C_Missing, C_Twice, C_NoDeed, C_NoSheet, C_NoSteps, C_NoWishes, C_NoLine, C_TooMany, C_NoText, C_Months, 0, 0, 0, 0, 0, 0] [(PP_law, ((envOfC "law" (defScope st_law) 0 0 (.ref cc_law)).qual ++ "<lambda>"))]).C 0)) := PySem.W.mg_of X G aC_ShareError
  have gc_NoteError : mg "NoteError" = some (.ref ((tabT [C_ShareError, C_NoteError, C_NoNote, C_NoNotes, C_Leans, C_PriceError, C_NoKind, C_NoPrices, C_DayError, C_NoMonths, C_NoDay, C_NoPence, C_NoName, C_Missing, C_Twice, C_NoDeed, C_NoSheet, C_NoSteps, C_NoWishes, C_NoLine, C_TooMany, C_NoText, C_Months, 0, 0, 0, 0, 0, 0] [(PP_law, ((envOfC "law" (defScope st_law) 0 0 (.ref cc_law)).qual ++ "<lambda>"))]).C 1)) := PySem.W.mg_of X G aC_NoteError
  have gc_NoNote : mg "NoNote" = some (.ref ((tabT [C_ShareError, C_NoteError, C_NoNote, C_NoNotes, C_Leans, C_PriceError, C_NoKind, C_NoPrices, C_DayError, C_NoMonths, C_NoDay, C_NoPence, C_NoName, C_Missing, C_Twice, C_NoDeed, C_NoSheet, C_NoSteps, C_NoWishes, C_NoLine, C_TooMany, C_NoText, C_Months, 0, 0, 0, 0, 0, 0] [(PP_law, ((envOfC "law" (defScope st_law) 0 0 (.ref cc_law)).qual ++ "<lambda>"))]).C 2)) := PySem.W.mg_of X G aC_NoNote
  have gc_NoNotes : mg "NoNotes" = some (.ref ((tabT [C_ShareError, C_NoteError, C_NoNote, C_NoNotes, C_Leans, C_PriceError, C_NoKind, C_NoPrices, C_DayError, C_NoMonths, C_NoDay, C_NoPence, C_NoName, C_Missing, C_Twice, C_NoDeed, C_NoSheet, C_NoSteps, C_NoWishes, C_NoLine, C_TooMany, C_NoText, C_Months, 0, 0, 0, 0, 0, 0] [(PP_law, ((envOfC "law" (defScope st_law) 0 0 (.ref cc_law)).qual ++ "<lambda>"))]).C 3)) := PySem.W.mg_of X G aC_NoNotes
  have gc_Leans : mg "Leans" = some (.ref ((tabT [C_ShareError, C_NoteError, C_NoNote, C_NoNotes, C_Leans, C_PriceError, C_NoKind, C_NoPrices, C_DayError, C_NoMonths, C_NoDay, C_NoPence, C_NoName, C_Missing, C_Twice, C_NoDeed, C_NoSheet, C_NoSteps, C_NoWishes, C_NoLine, C_TooMany, C_NoText, C_Months, 0, 0, 0, 0, 0, 0] [(PP_law, ((envOfC "law" (defScope st_law) 0 0 (.ref cc_law)).qual ++ "<lambda>"))]).C 4)) := PySem.W.mg_of X G aC_Leans
  have gc_PriceError : mg "PriceError" = some (.ref ((tabT [C_ShareError, C_NoteError, C_NoNote, C_NoNotes, C_Leans, C_PriceError, C_NoKind, C_NoPrices, C_DayError, C_NoMonths, C_NoDay, C_NoPence, C_NoName, C_Missing, C_Twice, C_NoDeed, C_NoSheet, C_NoSteps, C_NoWishes, C_NoLine, C_TooMany, C_NoText, C_Months, 0, 0, 0, 0, 0, 0] [(PP_law, ((envOfC "law" (defScope st_law) 0 0 (.ref cc_law)).qual ++ "<lambda>"))]).C 5)) := PySem.W.mg_of X G aC_PriceError
  have gc_NoKind : mg "NoKind" = some (.ref ((tabT [C_ShareError, C_NoteError, C_NoNote, C_NoNotes, C_Leans, C_PriceError, C_NoKind, C_NoPrices, C_DayError, C_NoMonths, C_NoDay, C_NoPence, C_NoName, C_Missing, C_Twice, C_NoDeed, C_NoSheet, C_NoSteps, C_NoWishes, C_NoLine, C_TooMany, C_NoText, C_Months, 0, 0, 0, 0, 0, 0] [(PP_law, ((envOfC "law" (defScope st_law) 0 0 (.ref cc_law)).qual ++ "<lambda>"))]).C 6)) := PySem.W.mg_of X G aC_NoKind
  have gc_NoPrices : mg "NoPrices" = some (.ref ((tabT [C_ShareError, C_NoteError, C_NoNote, C_NoNotes, C_Leans, C_PriceError, C_NoKind, C_NoPrices, C_DayError, C_NoMonths, C_NoDay, C_NoPence, C_NoName, C_Missing, C_Twice, C_NoDeed, C_NoSheet, C_NoSteps, C_NoWishes, C_NoLine, C_TooMany, C_NoText, C_Months, 0, 0, 0, 0, 0, 0] [(PP_law, ((envOfC "law" (defScope st_law) 0 0 (.ref cc_law)).qual ++ "<lambda>"))]).C 7)) := PySem.W.mg_of X G aC_NoPrices
  have gc_DayError : mg "DayError" = some (.ref ((tabT [C_ShareError, C_NoteError, C_NoNote, C_NoNotes, C_Leans, C_PriceError, C_NoKind, C_NoPrices, C_DayError, C_NoMonths, C_NoDay, C_NoPence, C_NoName, C_Missing, C_Twice, C_NoDeed, C_NoSheet, C_NoSteps, C_NoWishes, C_NoLine, C_TooMany, C_NoText, C_Months, 0, 0, 0, 0, 0, 0] [(PP_law, ((envOfC "law" (defScope st_law) 0 0 (.ref cc_law)).qual ++ "<lambda>"))]).C 8)) := PySem.W.mg_of X G aC_DayError
  have x_NoMonths : RaE K mg (tabT [C_ShareError, C_NoteError, C_NoNote, C_NoNotes, C_Leans, C_PriceError, C_NoKind, C_NoPrices, C_DayError, C_NoMonths, C_NoDay, C_NoPence, C_NoName, C_Missing, C_Twice, C_NoDeed, C_NoSheet, C_NoSteps, C_NoWishes, C_NoLine, C_TooMany, C_NoText, C_Months, 0, 0, 0, 0, 0, 0] [(PP_law, ((envOfC "law" (defScope st_law) 0 0 (.ref cc_law)).qual ++ "<lambda>"))]) 9 "NoMonths" := ⟨PySem.W.mg_of X G aC_NoMonths, kx_NoMonths, ex_NoMonths, bx_NoMonths, tx_NoMonths⟩
  have gc_NoMonths : mg "NoMonths" = some (.ref ((tabT [C_ShareError, C_NoteError, C_NoNote, C_NoNotes, C_Leans, C_PriceError, C_NoKind, C_NoPrices, C_DayError, C_NoMonths, C_NoDay, C_NoPence, C_NoName, C_Missing, C_Twice, C_NoDeed, C_NoSheet, C_NoSteps, C_NoWishes, C_NoLine, C_TooMany, C_NoText, C_Months, 0, 0, 0, 0, 0, 0] [(PP_law, ((envOfC "law" (defScope st_law) 0 0 (.ref cc_law)).qual ++ "<lambda>"))]).C 9)) := PySem.W.mg_of X G aC_NoMonths
  have gc_NoDay : mg "NoDay" = some (.ref ((tabT [C_ShareError, C_NoteError, C_NoNote, C_NoNotes, C_Leans, C_PriceError, C_NoKind, C_NoPrices, C_DayError, C_NoMonths, C_NoDay, C_NoPence, C_NoName, C_Missing, C_Twice, C_NoDeed, C_NoSheet, C_NoSteps, C_NoWishes, C_NoLine, C_TooMany, C_NoText, C_Months, 0, 0, 0, 0, 0, 0] [(PP_law, ((envOfC "law" (defScope st_law) 0 0 (.ref cc_law)).qual ++ "<lambda>"))]).C 10)) := PySem.W.mg_of X G aC_NoDay
  have gc_NoPence : mg "NoPence" = some (.ref ((tabT [C_ShareError, C_NoteError, C_NoNote, C_NoNotes, C_Leans, C_PriceError, C_NoKind, C_NoPrices, C_DayError, C_NoMonths, C_NoDay, C_NoPence, C_NoName, C_Missing, C_Twice, C_NoDeed, C_NoSheet, C_NoSteps, C_NoWishes, C_NoLine, C_TooMany, C_NoText, C_Months, 0, 0, 0, 0, 0, 0] [(PP_law, ((envOfC "law" (defScope st_law) 0 0 (.ref cc_law)).qual ++ "<lambda>"))]).C 11)) := PySem.W.mg_of X G aC_NoPence
  have gc_NoName : mg "NoName" = some (.ref ((tabT [C_ShareError, C_NoteError, C_NoNote, C_NoNotes, C_Leans, C_PriceError, C_NoKind, C_NoPrices, C_DayError, C_NoMonths, C_NoDay, C_NoPence, C_NoName, C_Missing, C_Twice, C_NoDeed, C_NoSheet, C_NoSteps, C_NoWishes, C_NoLine, C_TooMany, C_NoText, C_Months, 0, 0, 0, 0, 0, 0] [(PP_law, ((envOfC "law" (defScope st_law) 0 0 (.ref cc_law)).qual ++ "<lambda>"))]).C 12)) := PySem.W.mg_of X G aC_NoName
  have gc_Missing : mg "Missing" = some (.ref ((tabT [C_ShareError, C_NoteError, C_NoNote, C_NoNotes, C_Leans, C_PriceError, C_NoKind, C_NoPrices, C_DayError, C_NoMonths, C_NoDay, C_NoPence, C_NoName, C_Missing, C_Twice, C_NoDeed, C_NoSheet, C_NoSteps, C_NoWishes, C_NoLine, C_TooMany, C_NoText, C_Months, 0, 0, 0, 0, 0, 0] [(PP_law, ((envOfC "law" (defScope st_law) 0 0 (.ref cc_law)).qual ++ "<lambda>"))]).C 13)) := PySem.W.mg_of X G aC_Missing
  have gc_Twice : mg "Twice" = some (.ref ((tabT [C_ShareError, C_NoteError, C_NoNote, C_NoNotes, C_Leans, C_PriceError, C_NoKind, C_NoPrices, C_DayError, C_NoMonths, C_NoDay, C_NoPence, C_NoName, C_Missing, C_Twice, C_NoDeed, C_NoSheet, C_NoSteps, C_NoWishes, C_NoLine, C_TooMany, C_NoText, C_Months, 0, 0, 0, 0, 0, 0] [(PP_law, ((envOfC "law" (defScope st_law) 0 0 (.ref cc_law)).qual ++ "<lambda>"))]).C 14)) := PySem.W.mg_of X G aC_Twice
  have gc_NoDeed : mg "NoDeed" = some (.ref ((tabT [C_ShareError, C_NoteError, C_NoNote, C_NoNotes, C_Leans, C_PriceError, C_NoKind, C_NoPrices, C_DayError, C_NoMonths, C_NoDay, C_NoPence, C_NoName, C_Missing, C_Twice, C_NoDeed, C_NoSheet, C_NoSteps, C_NoWishes, C_NoLine, C_TooMany, C_NoText, C_Months, 0, 0, 0, 0, 0, 0] [(PP_law, ((envOfC "law" (defScope st_law) 0 0 (.ref cc_law)).qual ++ "<lambda>"))]).C 15)) := PySem.W.mg_of X G aC_NoDeed
  have gc_NoSheet : mg "NoSheet" = some (.ref ((tabT [C_ShareError, C_NoteError, C_NoNote, C_NoNotes, C_Leans, C_PriceError, C_NoKind, C_NoPrices, C_DayError, C_NoMonths, C_NoDay, C_NoPence, C_NoName, C_Missing, C_Twice, C_NoDeed, C_NoSheet, C_NoSteps, C_NoWishes, C_NoLine, C_TooMany, C_NoText, C_Months, 0, 0, 0, 0, 0, 0] [(PP_law, ((envOfC "law" (defScope st_law) 0 0 (.ref cc_law)).qual ++ "<lambda>"))]).C 16)) := PySem.W.mg_of X G aC_NoSheet
  have gc_NoSteps : mg "NoSteps" = some (.ref ((tabT [C_ShareError, C_NoteError, C_NoNote, C_NoNotes, C_Leans, C_PriceError, C_NoKind, C_NoPrices, C_DayError, C_NoMonths, C_NoDay, C_NoPence, C_NoName, C_Missing, C_Twice, C_NoDeed, C_NoSheet, C_NoSteps, C_NoWishes, C_NoLine, C_TooMany, C_NoText, C_Months, 0, 0, 0, 0, 0, 0] [(PP_law, ((envOfC "law" (defScope st_law) 0 0 (.ref cc_law)).qual ++ "<lambda>"))]).C 17)) := PySem.W.mg_of X G aC_NoSteps
  have gc_NoWishes : mg "NoWishes" = some (.ref ((tabT [C_ShareError, C_NoteError, C_NoNote, C_NoNotes, C_Leans, C_PriceError, C_NoKind, C_NoPrices, C_DayError, C_NoMonths, C_NoDay, C_NoPence, C_NoName, C_Missing, C_Twice, C_NoDeed, C_NoSheet, C_NoSteps, C_NoWishes, C_NoLine, C_TooMany, C_NoText, C_Months, 0, 0, 0, 0, 0, 0] [(PP_law, ((envOfC "law" (defScope st_law) 0 0 (.ref cc_law)).qual ++ "<lambda>"))]).C 18)) := PySem.W.mg_of X G aC_NoWishes
  have gc_NoLine : mg "NoLine" = some (.ref ((tabT [C_ShareError, C_NoteError, C_NoNote, C_NoNotes, C_Leans, C_PriceError, C_NoKind, C_NoPrices, C_DayError, C_NoMonths, C_NoDay, C_NoPence, C_NoName, C_Missing, C_Twice, C_NoDeed, C_NoSheet, C_NoSteps, C_NoWishes, C_NoLine, C_TooMany, C_NoText, C_Months, 0, 0, 0, 0, 0, 0] [(PP_law, ((envOfC "law" (defScope st_law) 0 0 (.ref cc_law)).qual ++ "<lambda>"))]).C 19)) := PySem.W.mg_of X G aC_NoLine
  have gc_TooMany : mg "TooMany" = some (.ref ((tabT [C_ShareError, C_NoteError, C_NoNote, C_NoNotes, C_Leans, C_PriceError, C_NoKind, C_NoPrices, C_DayError, C_NoMonths, C_NoDay, C_NoPence, C_NoName, C_Missing, C_Twice, C_NoDeed, C_NoSheet, C_NoSteps, C_NoWishes, C_NoLine, C_TooMany, C_NoText, C_Months, 0, 0, 0, 0, 0, 0] [(PP_law, ((envOfC "law" (defScope st_law) 0 0 (.ref cc_law)).qual ++ "<lambda>"))]).C 20)) := PySem.W.mg_of X G aC_TooMany
  have gc_NoText : mg "NoText" = some (.ref ((tabT [C_ShareError, C_NoteError, C_NoNote, C_NoNotes, C_Leans, C_PriceError, C_NoKind, C_NoPrices, C_DayError, C_NoMonths, C_NoDay, C_NoPence, C_NoName, C_Missing, C_Twice, C_NoDeed, C_NoSheet, C_NoSteps, C_NoWishes, C_NoLine, C_TooMany, C_NoText, C_Months, 0, 0, 0, 0, 0, 0] [(PP_law, ((envOfC "law" (defScope st_law) 0 0 (.ref cc_law)).qual ++ "<lambda>"))]).C 21)) := PySem.W.mg_of X G aC_NoText
  have z_len : mg "len" = none := PySem.W.mg_none_of X G y_len
  have z_max : mg "max" = none := PySem.W.mg_none_of X G y_max
  have z_int : mg "int" = none := PySem.W.mg_none_of X G y_int
  have z_tuple : mg "tuple" = none := PySem.W.mg_none_of X G y_tuple
  have z_range : mg "range" = none := PySem.W.mg_none_of X G y_range
  have z_isinstance : mg "isinstance" = none := PySem.W.mg_none_of X G y_isinstance
  have z_bool : mg "bool" = none := PySem.W.mg_none_of X G y_bool
  have z_all : mg "all" = none := PySem.W.mg_none_of X G y_all
  have n_Months_lengths : NoAttr K ((tabT [C_ShareError, C_NoteError, C_NoNote, C_NoNotes, C_Leans, C_PriceError, C_NoKind, C_NoPrices, C_DayError, C_NoMonths, C_NoDay, C_NoPence, C_NoName, C_Missing, C_Twice, C_NoDeed, C_NoSheet, C_NoSteps, C_NoWishes, C_NoLine, C_TooMany, C_NoText, C_Months, 0, 0, 0, 0, 0, 0] [(PP_law, ((envOfC "law" (defScope st_law) 0 0 (.ref cc_law)).qual ++ "<lambda>"))]).C 22) (Str.ofString "lengths") := w_Months_lengths
  have n_Months_places : NoAttr K ((tabT [C_ShareError, C_NoteError, C_NoNote, C_NoNotes, C_Leans, C_PriceError, C_NoKind, C_NoPrices, C_DayError, C_NoMonths, C_NoDay, C_NoPence, C_NoName, C_Missing, C_Twice, C_NoDeed, C_NoSheet, C_NoSteps, C_NoWishes, C_NoLine, C_TooMany, C_NoText, C_Months, 0, 0, 0, 0, 0, 0] [(PP_law, ((envOfC "law" (defScope st_law) 0 0 (.ref cc_law)).qual ++ "<lambda>"))]).C 22) (Str.ofString "places") := w_Months_places
  have z_str : mg "str" = none := PySem.W.mg_none_of X G y_str
  have z_repr : mg "repr" = none := PySem.W.mg_none_of X G y_repr
  have z_sum : mg "sum" = none := PySem.W.mg_none_of X G y_sum
  have nn_Months : NoNe K ((tabT [C_ShareError, C_NoteError, C_NoNote, C_NoNotes, C_Leans, C_PriceError, C_NoKind, C_NoPrices, C_DayError, C_NoMonths, C_NoDay, C_NoPence, C_NoName, C_Missing, C_Twice, C_NoDeed, C_NoSheet, C_NoSteps, C_NoWishes, C_NoLine, C_TooMany, C_NoText, C_Months, 0, 0, 0, 0, 0, 0] [(PP_law, ((envOfC "law" (defScope st_law) 0 0 (.ref cc_law)).qual ++ "<lambda>"))]).C 22) := ⟨w1_Months, w2_Months, w3_Months, w4_Months⟩
  have z_list : mg "list" = none := PySem.W.mg_none_of X G y_list
  have z_ValueError : mg "ValueError" = none := PySem.W.mg_none_of X G y_ValueError
  have z_LookupError : mg "LookupError" = none := PySem.W.mg_none_of X G y_LookupError
  have z_TypeError : mg "TypeError" = none := PySem.W.mg_none_of X G y_TypeError
  have z_ArithmeticError : mg "ArithmeticError" = none := PySem.W.mg_none_of X G y_ArithmeticError
  have z_RuntimeError : mg "RuntimeError" = none := PySem.W.mg_none_of X G y_RuntimeError
  have hisi : IsiOk K (tabT [C_ShareError, C_NoteError, C_NoNote, C_NoNotes, C_Leans, C_PriceError, C_NoKind, C_NoPrices, C_DayError, C_NoMonths, C_NoDay, C_NoPence, C_NoName, C_Missing, C_Twice, C_NoDeed, C_NoSheet, C_NoSteps, C_NoWishes, C_NoLine, C_TooMany, C_NoText, C_Months, 0, 0, 0, 0, 0, 0] [(PP_law, ((envOfC "law" (defScope st_law) 0 0 (.ref cc_law)).qual ++ "<lambda>"))]) isi := isi_ok [22] oX_ (fun c h => by simpa [Own.own] using h) (fun c h => by
    have h : c ∈ ([22] : List Nat) := by simpa [Own.own] using h
    simp only [List.mem_cons, List.not_mem_nil, or_false] at h
    rcases h with rfl
    · exact ⟨cl_Months, ta_Months, tn_, tt_, tm_Months⟩)
  have FF__law_flags : FunD K "_law_flags" "_law_flags" (defArgs st__law_flags) (defBody st__law_flags) (defScope st__law_flags) [] [] f__law_flags _ := ⟨⟨_, _, _, _, _, _, _, _, _, _, rfl, l__law_flags, c__law_flags, (.inl ⟨rfl, rfl⟩), .inl rfl⟩, k__law_flags⟩
  have FW__law_word : FunD K "_law_word" "_law_word" (defArgs st__law_word) (defBody st__law_word) (defScope st__law_word) [] [] f__law_word _ := ⟨⟨_, _, _, _, _, _, _, _, _, _, rfl, l__law_word, c__law_word, (.inl ⟨rfl, rfl⟩), .inl rfl⟩, k__law_word⟩
  have bf__law_flags := fun (s : Shared) (v : Value) => FF__law_flags.bindsA (ps := ["_law_e"]) (fun _ _ _ _ _ _ us hl => match us, hl with | [_], _ => rfl) s [v] rfl
  have bw__law_word := FW__law_word.bindsN (ps := ["_law_call"]) fun _ _ _ _ _ _ us hl => match us, hl with | [_], _ => rfl
  have fn__law_flags := fun base : Heap => fn__law_flags (P := P) (w := w) (K := K) (mg := mg) (base := base) (T := (tabT [C_ShareError, C_NoteError, C_NoNote, C_NoNotes, C_Leans, C_PriceError, C_NoKind, C_NoPrices, C_DayError, C_NoMonths, C_NoDay, C_NoPence, C_NoName, C_Missing, C_Twice, C_NoDeed, C_NoSheet, C_NoSteps, C_NoWishes, C_NoLine, C_TooMany, C_NoText, C_Months, 0, 0, 0, 0, 0, 0] [(PP_law, ((envOfC "law" (defScope st_law) 0 0 (.ref cc_law)).qual ++ "<lambda>"))])) (CS := C_ShareError) (k := 4) l__law_flags c__law_flags rfl bf__law_flags (isEg_ok kX_ eX_) z_isinstance gc_NoNote gc_NoNotes gc_Leans gc_NoKind gc_NoPrices gc_NoMonths gc_NoDay gc_NoPence gc_NoName gc_Missing gc_Twice gc_NoDeed gc_NoSheet gc_NoSteps gc_NoWishes gc_NoLine gc_TooMany gc_NoText z_ValueError z_LookupError z_TypeError z_ArithmeticError z_RuntimeError gc_NoteError gc_PriceError gc_DayError
  have W__law_word := fun (base : Heap) (TBs : ∀ p ∈ ([(cc_law, PP_law)] : List (Addr × Addr)), LamX.TabB base mg p.1 p.2) => (⟨⟨C_ShareError, f__law_flags, f__law_word, "_law_call", "_law_e", "ShareError", "_law_flags", _, _, _, _, _, _, _, _, _, _, _, _, _, _, _, _, _, _, _, _, _, _, _, fl_exm mX_, fn__law_flags base, PySem.W.mg_of X G a__law_word, k__law_word, l__law_word, c__law_word, bw__law_word, sc__law_word, .inl rfl, rfl, PySem.W.mg_of X G aC_ShareError, by decide +kernel, rfl, PySem.W.mg_of X G a__law_flags, k__law_flags, by decide +kernel, rfl, by decide +kernel, by decide +kernel, by decide +kernel, by decide +kernel, (by rw [if_pos rfl]; exact ⟨_, _, _, _, rfl⟩), fun _ => rfl⟩⟩ : WordE P w K mg base (tabT [C_ShareError, C_NoteError, C_NoNote, C_NoNotes, C_Leans, C_PriceError, C_NoKind, C_NoPrices, C_DayError, C_NoMonths, C_NoDay, C_NoPence, C_NoName, C_Missing, C_Twice, C_NoDeed, C_NoSheet, C_NoSteps, C_NoWishes, C_NoLine, C_TooMany, C_NoText, C_Months, 0, 0, 0, 0, 0, 0] [(PP_law, ((envOfC "law" (defScope st_law) 0 0 (.ref cc_law)).qual ++ "<lambda>"))]) "_law_word" true FL 5)
  have F__law_cell_at : FunD K "_law_cell_at" "_law_cell_at" (defArgs st__law_cell_at) (defBody st__law_cell_at) (defScope st__law_cell_at) [] [] f__law_cell_at _ := ⟨⟨_, _, _, _, _, _, _, _, _, _, rfl, l__law_cell_at, c__law_cell_at, (.inl ⟨rfl, rfl⟩), .inl rfl⟩, k__law_cell_at⟩
  have O__law_cell_at := fun (base : Heap) (TBs : ∀ p ∈ ([(cc_law, PP_law)] : List (Addr × Addr)), LamX.TabB base mg p.1 p.2) => ok__law_cell_at (P := P) (w := w) (K := K) (mg := mg) (base := base) (T := (tabT [C_ShareError, C_NoteError, C_NoNote, C_NoNotes, C_Leans, C_PriceError, C_NoKind, C_NoPrices, C_DayError, C_NoMonths, C_NoDay, C_NoPence, C_NoName, C_Missing, C_Twice, C_NoDeed, C_NoSheet, C_NoSteps, C_NoWishes, C_NoLine, C_TooMany, C_NoText, C_Months, 0, 0, 0, 0, 0, 0] [(PP_law, ((envOfC "law" (defScope st_law) 0 0 (.ref cc_law)).qual ++ "<lambda>"))])) F__law_cell_at z_len
  have b_e__law_cell_at : Binds K _ ["_law_script", "_law_k"] [] := F__law_cell_at.bindsN (ps := ["_law_script", "_law_k"]) fun _ _ _ _ _ _ us hl => match us, hl with | [_, _], _ => rfl
  have e__law_cell_at := fun (base : Heap) (TBs : ∀ p ∈ ([(cc_law, PP_law)] : List (Addr × Addr)), LamX.TabB base mg p.1 p.2) => (⟨f__law_cell_at, _, ["_law_script", "_law_k"], [], [], rfl, O__law_cell_at base TBs, PySem.W.mg_of X G a__law_cell_at, k__law_cell_at, b_e__law_cell_at, .nil, fun _ _ _ => rfl⟩ : FnE P w K mg base (tabT [C_ShareError, C_NoteError, C_NoNote, C_NoNotes, C_Leans, C_PriceError, C_NoKind, C_NoPrices, C_DayError, C_NoMonths, C_NoDay, C_NoPence, C_NoName, C_Missing, C_Twice, C_NoDeed, C_NoSheet, C_NoSteps, C_NoWishes, C_NoLine, C_TooMany, C_NoText, C_Months, 0, 0, 0, 0, 0, 0] [(PP_law, ((envOfC "law" (defScope st_law) 0 0 (.ref cc_law)).qual ++ "<lambda>"))]) "_law_cell_at" 1 2 [] D__law_cell_at)
  have F__law_pen_of : FunD K "_law_pen_of" "_law_pen_of" (defArgs st__law_pen_of) (defBody st__law_pen_of) (defScope st__law_pen_of) [] [] f__law_pen_of _ := ⟨⟨_, _, _, _, _, _, _, _, _, _, rfl, l__law_pen_of, c__law_pen_of, (.inl ⟨rfl, rfl⟩), .inl rfl⟩, k__law_pen_of⟩
  have O__law_pen_of := fun (base : Heap) (TBs : ∀ p ∈ ([(cc_law, PP_law)] : List (Addr × Addr)), LamX.TabB base mg p.1 p.2) => ok__law_pen_of (P := P) (w := w) (K := K) (mg := mg) (base := base) (T := (tabT [C_ShareError, C_NoteError, C_NoNote, C_NoNotes, C_Leans, C_PriceError, C_NoKind, C_NoPrices, C_DayError, C_NoMonths, C_NoDay, C_NoPence, C_NoName, C_Missing, C_Twice, C_NoDeed, C_NoSheet, C_NoSteps, C_NoWishes, C_NoLine, C_TooMany, C_NoText, C_Months, 0, 0, 0, 0, 0, 0] [(PP_law, ((envOfC "law" (defScope st_law) 0 0 (.ref cc_law)).qual ++ "<lambda>"))])) F__law_pen_of z_max z_int
  have b_e__law_pen_of : Binds K _ ["_law_cell"] [] := F__law_pen_of.bindsN (ps := ["_law_cell"]) fun _ _ _ _ _ _ us hl => match us, hl with | [_], _ => rfl
  have e__law_pen_of := fun (base : Heap) (TBs : ∀ p ∈ ([(cc_law, PP_law)] : List (Addr × Addr)), LamX.TabB base mg p.1 p.2) => (⟨f__law_pen_of, _, ["_law_cell"], [], [], rfl, O__law_pen_of base TBs, PySem.W.mg_of X G a__law_pen_of, k__law_pen_of, b_e__law_pen_of, .nil, fun _ _ _ => rfl⟩ : FnE P w K mg base (tabT [C_ShareError, C_NoteError, C_NoNote, C_NoNotes, C_Leans, C_PriceError, C_NoKind, C_NoPrices, C_DayError, C_NoMonths, C_NoDay, C_NoPence, C_NoName, C_Missing, C_Twice, C_NoDeed, C_NoSheet, C_NoSteps, C_NoWishes, C_NoLine, C_TooMany, C_NoText, C_Months, 0, 0, 0, 0, 0, 0] [(PP_law, ((envOfC "law" (defScope st_law) 0 0 (.ref cc_law)).qual ++ "<lambda>"))]) "_law_pen_of" 1 1 [] D__law_pen_of)
  have F__law_next : FunD K "_law_next" "_law_next" (defArgs st__law_next) (defBody st__law_next) (defScope st__law_next) [] [] f__law_next _ := ⟨⟨_, _, _, _, _, _, _, _, _, _, rfl, l__law_next, c__law_next, (.inl ⟨rfl, rfl⟩), .inl rfl⟩, k__law_next⟩
  have O__law_next := fun (base : Heap) (TBs : ∀ p ∈ ([(cc_law, PP_law)] : List (Addr × Addr)), LamX.TabB base mg p.1 p.2) => ok__law_next (P := P) (w := w) (K := K) (mg := mg) (base := base) (T := (tabT [C_ShareError, C_NoteError, C_NoNote, C_NoNotes, C_Leans, C_PriceError, C_NoKind, C_NoPrices, C_DayError, C_NoMonths, C_NoDay, C_NoPence, C_NoName, C_Missing, C_Twice, C_NoDeed, C_NoSheet, C_NoSteps, C_NoWishes, C_NoLine, C_TooMany, C_NoText, C_Months, 0, 0, 0, 0, 0, 0] [(PP_law, ((envOfC "law" (defScope st_law) 0 0 (.ref cc_law)).qual ++ "<lambda>"))])) F__law_next 
  have b_e__law_next : Binds K _ ["_law_seed"] [] := F__law_next.bindsN (ps := ["_law_seed"]) fun _ _ _ _ _ _ us hl => match us, hl with | [_], _ => rfl
  have e__law_next := fun (base : Heap) (TBs : ∀ p ∈ ([(cc_law, PP_law)] : List (Addr × Addr)), LamX.TabB base mg p.1 p.2) => (⟨f__law_next, _, ["_law_seed"], [], [], rfl, O__law_next base TBs, PySem.W.mg_of X G a__law_next, k__law_next, b_e__law_next, .nil, fun _ _ _ => rfl⟩ : FnE P w K mg base (tabT [C_ShareError, C_NoteError, C_NoNote, C_NoNotes, C_Leans, C_PriceError, C_NoKind, C_NoPrices, C_DayError, C_NoMonths, C_NoDay, C_NoPence, C_NoName, C_Missing, C_Twice, C_NoDeed, C_NoSheet, C_NoSteps, C_NoWishes, C_NoLine, C_TooMany, C_NoText, C_Months, 0, 0, 0, 0, 0, 0] [(PP_law, ((envOfC "law" (defScope st_law) 0 0 (.ref cc_law)).qual ++ "<lambda>"))]) "_law_next" 1 1 [] D__law_next)
  have F__law_draw : FunD K "_law_draw" "_law_draw" (defArgs st__law_draw) (defBody st__law_draw) (defScope st__law_draw) [] [] f__law_draw _ := ⟨⟨_, _, _, _, _, _, _, _, _, _, rfl, l__law_draw, c__law_draw, (.inl ⟨rfl, rfl⟩), .inl rfl⟩, k__law_draw⟩
  have O__law_draw := fun (base : Heap) (TBs : ∀ p ∈ ([(cc_law, PP_law)] : List (Addr × Addr)), LamX.TabB base mg p.1 p.2) => ok__law_draw (P := P) (w := w) (K := K) (mg := mg) (base := base) (T := (tabT [C_ShareError, C_NoteError, C_NoNote, C_NoNotes, C_Leans, C_PriceError, C_NoKind, C_NoPrices, C_DayError, C_NoMonths, C_NoDay, C_NoPence, C_NoName, C_Missing, C_Twice, C_NoDeed, C_NoSheet, C_NoSteps, C_NoWishes, C_NoLine, C_TooMany, C_NoText, C_Months, 0, 0, 0, 0, 0, 0] [(PP_law, ((envOfC "law" (defScope st_law) 0 0 (.ref cc_law)).qual ++ "<lambda>"))])) F__law_draw (e__law_next base TBs)
  have b_e__law_draw : Binds K _ ["_law_pen", "_law_many"] [] := F__law_draw.bindsN (ps := ["_law_pen", "_law_many"]) fun _ _ _ _ _ _ us hl => match us, hl with | [_, _], _ => rfl
  have e__law_draw := fun (base : Heap) (TBs : ∀ p ∈ ([(cc_law, PP_law)] : List (Addr × Addr)), LamX.TabB base mg p.1 p.2) => (⟨f__law_draw, _, ["_law_pen", "_law_many"], [], [], rfl, O__law_draw base TBs, PySem.W.mg_of X G a__law_draw, k__law_draw, b_e__law_draw, .nil, fun _ _ _ => rfl⟩ : FnE P w K mg base (tabT [C_ShareError, C_NoteError, C_NoNote, C_NoNotes, C_Leans, C_PriceError, C_NoKind, C_NoPrices, C_DayError, C_NoMonths, C_NoDay, C_NoPence, C_NoName, C_Missing, C_Twice, C_NoDeed, C_NoSheet, C_NoSteps, C_NoWishes, C_NoLine, C_TooMany, C_NoText, C_Months, 0, 0, 0, 0, 0, 0] [(PP_law, ((envOfC "law" (defScope st_law) 0 0 (.ref cc_law)).qual ++ "<lambda>"))]) "_law_draw" 2 2 [] D__law_draw)
  have F__law_lengths : FunD K "_law_lengths" "_law_lengths" (defArgs st__law_lengths) (defBody st__law_lengths) (defScope st__law_lengths) [] [] f__law_lengths _ := ⟨⟨_, _, _, _, _, _, _, _, _, _, rfl, l__law_lengths, c__law_lengths, (.inl ⟨rfl, rfl⟩), .inl rfl⟩, k__law_lengths⟩
  have O__law_lengths := fun (base : Heap) (TBs : ∀ p ∈ ([(cc_law, PP_law)] : List (Addr × Addr)), LamX.TabB base mg p.1 p.2) => ok__law_lengths (P := P) (w := w) (K := K) (mg := mg) (base := base) (T := (tabT [C_ShareError, C_NoteError, C_NoNote, C_NoNotes, C_Leans, C_PriceError, C_NoKind, C_NoPrices, C_DayError, C_NoMonths, C_NoDay, C_NoPence, C_NoName, C_Missing, C_Twice, C_NoDeed, C_NoSheet, C_NoSteps, C_NoWishes, C_NoLine, C_TooMany, C_NoText, C_Months, 0, 0, 0, 0, 0, 0] [(PP_law, ((envOfC "law" (defScope st_law) 0 0 (.ref cc_law)).qual ++ "<lambda>"))])) F__law_lengths z_tuple z_range (e__law_draw base TBs)
  have b_e__law_lengths : Binds K _ ["_law_pen"] [] := F__law_lengths.bindsN (ps := ["_law_pen"]) fun _ _ _ _ _ _ us hl => match us, hl with | [_], _ => rfl
  have e__law_lengths := fun (base : Heap) (TBs : ∀ p ∈ ([(cc_law, PP_law)] : List (Addr × Addr)), LamX.TabB base mg p.1 p.2) => (⟨f__law_lengths, _, ["_law_pen"], [], [], rfl, O__law_lengths base TBs, PySem.W.mg_of X G a__law_lengths, k__law_lengths, b_e__law_lengths, .nil, fun _ _ _ => rfl⟩ : FnE P w K mg base (tabT [C_ShareError, C_NoteError, C_NoNote, C_NoNotes, C_Leans, C_PriceError, C_NoKind, C_NoPrices, C_DayError, C_NoMonths, C_NoDay, C_NoPence, C_NoName, C_Missing, C_Twice, C_NoDeed, C_NoSheet, C_NoSteps, C_NoWishes, C_NoLine, C_TooMany, C_NoText, C_Months, 0, 0, 0, 0, 0, 0] [(PP_law, ((envOfC "law" (defScope st_law) 0 0 (.ref cc_law)).qual ++ "<lambda>"))]) "_law_lengths" 3 1 [] D__law_lengths)
  have F_is_tuple_of : FunD K "is_tuple_of" "is_tuple_of" (defArgs st_is_tuple_of) (defBody st_is_tuple_of) (defScope st_is_tuple_of) [] [] f_is_tuple_of _ := ⟨⟨_, _, _, _, _, _, _, _, _, _, rfl, l_is_tuple_of, c_is_tuple_of, (.inl ⟨rfl, rfl⟩), .inl rfl⟩, k_is_tuple_of⟩
  have O_is_tuple_of := fun (base : Heap) (TBs : ∀ p ∈ ([(cc_law, PP_law)] : List (Addr × Addr)), LamX.TabB base mg p.1 p.2) => ok_is_tuple_of (P := P) (w := w) (K := K) (mg := mg) (base := base) (T := (tabT [C_ShareError, C_NoteError, C_NoNote, C_NoNotes, C_Leans, C_PriceError, C_NoKind, C_NoPrices, C_DayError, C_NoMonths, C_NoDay, C_NoPence, C_NoName, C_Missing, C_Twice, C_NoDeed, C_NoSheet, C_NoSteps, C_NoWishes, C_NoLine, C_TooMany, C_NoText, C_Months, 0, 0, 0, 0, 0, 0] [(PP_law, ((envOfC "law" (defScope st_law) 0 0 (.ref cc_law)).qual ++ "<lambda>"))])) F_is_tuple_of z_isinstance z_tuple hisi z_len
  have b_e_is_tuple_of : Binds K _ ["thing", "low", "high"] [] := F_is_tuple_of.bindsN (ps := ["thing", "low", "high"]) fun _ _ _ _ _ _ us hl => match us, hl with | [_, _, _], _ => rfl
  have e_is_tuple_of := fun (base : Heap) (TBs : ∀ p ∈ ([(cc_law, PP_law)] : List (Addr × Addr)), LamX.TabB base mg p.1 p.2) => (⟨f_is_tuple_of, _, ["thing", "low", "high"], [], [], rfl, O_is_tuple_of base TBs, PySem.W.mg_of X G a_is_tuple_of, k_is_tuple_of, b_e_is_tuple_of, .nil, fun _ _ _ => rfl⟩ : FnE P w K mg base (tabT [C_ShareError, C_NoteError, C_NoNote, C_NoNotes, C_Leans, C_PriceError, C_NoKind, C_NoPrices, C_DayError, C_NoMonths, C_NoDay, C_NoPence, C_NoName, C_Missing, C_Twice, C_NoDeed, C_NoSheet, C_NoSteps, C_NoWishes, C_NoLine, C_TooMany, C_NoText, C_Months, 0, 0, 0, 0, 0, 0] [(PP_law, ((envOfC "law" (defScope st_law) 0 0 (.ref cc_law)).qual ++ "<lambda>"))]) "is_tuple_of" 1 3 [] D_is_tuple_of)
  have F_is_whole : FunD K "is_whole" "is_whole" (defArgs st_is_whole) (defBody st_is_whole) (defScope st_is_whole) [] [] f_is_whole _ := ⟨⟨_, _, _, _, _, _, _, _, _, _, rfl, l_is_whole, c_is_whole, (.inl ⟨rfl, rfl⟩), .inl rfl⟩, k_is_whole⟩
  have O_is_whole := fun (base : Heap) (TBs : ∀ p ∈ ([(cc_law, PP_law)] : List (Addr × Addr)), LamX.TabB base mg p.1 p.2) => ok_is_whole (P := P) (w := w) (K := K) (mg := mg) (base := base) (T := (tabT [C_ShareError, C_NoteError, C_NoNote, C_NoNotes, C_Leans, C_PriceError, C_NoKind, C_NoPrices, C_DayError, C_NoMonths, C_NoDay, C_NoPence, C_NoName, C_Missing, C_Twice, C_NoDeed, C_NoSheet, C_NoSteps, C_NoWishes, C_NoLine, C_TooMany, C_NoText, C_Months, 0, 0, 0, 0, 0, 0] [(PP_law, ((envOfC "law" (defScope st_law) 0 0 (.ref cc_law)).qual ++ "<lambda>"))])) F_is_whole z_isinstance z_int hisi z_bool
  have b_e_is_whole : Binds K _ ["thing"] [] := F_is_whole.bindsN (ps := ["thing"]) fun _ _ _ _ _ _ us hl => match us, hl with | [_], _ => rfl
  have e_is_whole := fun (base : Heap) (TBs : ∀ p ∈ ([(cc_law, PP_law)] : List (Addr × Addr)), LamX.TabB base mg p.1 p.2) => (⟨f_is_whole, _, ["thing"], [], [], rfl, O_is_whole base TBs, PySem.W.mg_of X G a_is_whole, k_is_whole, b_e_is_whole, .nil, fun _ _ _ => rfl⟩ : FnE P w K mg base (tabT [C_ShareError, C_NoteError, C_NoNote, C_NoNotes, C_Leans, C_PriceError, C_NoKind, C_NoPrices, C_DayError, C_NoMonths, C_NoDay, C_NoPence, C_NoName, C_Missing, C_Twice, C_NoDeed, C_NoSheet, C_NoSteps, C_NoWishes, C_NoLine, C_TooMany, C_NoText, C_Months, 0, 0, 0, 0, 0, 0] [(PP_law, ((envOfC "law" (defScope st_law) 0 0 (.ref cc_law)).qual ++ "<lambda>"))]) "is_whole" 1 1 [] D_is_whole)
  have F_is_within : FunD K "is_within" "is_within" (defArgs st_is_within) (defBody st_is_within) (defScope st_is_within) [] [] f_is_within _ := ⟨⟨_, _, _, _, _, _, _, _, _, _, rfl, l_is_within, c_is_within, (.inl ⟨rfl, rfl⟩), .inl rfl⟩, k_is_within⟩
  have O_is_within := fun (base : Heap) (TBs : ∀ p ∈ ([(cc_law, PP_law)] : List (Addr × Addr)), LamX.TabB base mg p.1 p.2) => ok_is_within (P := P) (w := w) (K := K) (mg := mg) (base := base) (T := (tabT [C_ShareError, C_NoteError, C_NoNote, C_NoNotes, C_Leans, C_PriceError, C_NoKind, C_NoPrices, C_DayError, C_NoMonths, C_NoDay, C_NoPence, C_NoName, C_Missing, C_Twice, C_NoDeed, C_NoSheet, C_NoSteps, C_NoWishes, C_NoLine, C_TooMany, C_NoText, C_Months, 0, 0, 0, 0, 0, 0] [(PP_law, ((envOfC "law" (defScope st_law) 0 0 (.ref cc_law)).qual ++ "<lambda>"))])) F_is_within (e_is_whole base TBs)
  have b_e_is_within : Binds K _ ["thing", "low", "high"] [] := F_is_within.bindsN (ps := ["thing", "low", "high"]) fun _ _ _ _ _ _ us hl => match us, hl with | [_, _, _], _ => rfl
  have e_is_within := fun (base : Heap) (TBs : ∀ p ∈ ([(cc_law, PP_law)] : List (Addr × Addr)), LamX.TabB base mg p.1 p.2) => (⟨f_is_within, _, ["thing", "low", "high"], [], [], rfl, O_is_within base TBs, PySem.W.mg_of X G a_is_within, k_is_within, b_e_is_within, .nil, fun _ _ _ => rfl⟩ : FnE P w K mg base (tabT [C_ShareError, C_NoteError, C_NoNote, C_NoNotes, C_Leans, C_PriceError, C_NoKind, C_NoPrices, C_DayError, C_NoMonths, C_NoDay, C_NoPence, C_NoName, C_Missing, C_Twice, C_NoDeed, C_NoSheet, C_NoSteps, C_NoWishes, C_NoLine, C_TooMany, C_NoText, C_Months, 0, 0, 0, 0, 0, 0] [(PP_law, ((envOfC "law" (defScope st_law) 0 0 (.ref cc_law)).qual ++ "<lambda>"))]) "is_within" 2 3 [] D_is_within)
  have F__are_lengths : FunD K "_are_lengths" "_are_lengths" (defArgs st__are_lengths) (defBody st__are_lengths) (defScope st__are_lengths) [] [] f__are_lengths _ := ⟨⟨_, _, _, _, _, _, _, _, _, _, rfl, l__are_lengths, c__are_lengths, (.inl ⟨rfl, rfl⟩), .inl rfl⟩, k__are_lengths⟩
  have O__are_lengths := fun (base : Heap) (TBs : ∀ p ∈ ([(cc_law, PP_law)] : List (Addr × Addr)), LamX.TabB base mg p.1 p.2) => ok__are_lengths (P := P) (w := w) (K := K) (mg := mg) (base := base) (T := (tabT [C_ShareError, C_NoteError, C_NoNote, C_NoNotes, C_Leans, C_PriceError, C_NoKind, C_NoPrices, C_DayError, C_NoMonths, C_NoDay, C_NoPence, C_NoName, C_Missing, C_Twice, C_NoDeed, C_NoSheet, C_NoSteps, C_NoWishes, C_NoLine, C_TooMany, C_NoText, C_Months, 0, 0, 0, 0, 0, 0] [(PP_law, ((envOfC "law" (defScope st_law) 0 0 (.ref cc_law)).qual ++ "<lambda>"))])) F__are_lengths (e_is_tuple_of base TBs) z_all (e_is_within base TBs)
  have b_e__are_lengths : Binds K _ ["thing"] [] := F__are_lengths.bindsN (ps := ["thing"]) fun _ _ _ _ _ _ us hl => match us, hl with | [_], _ => rfl
  have e__are_lengths := fun (base : Heap) (TBs : ∀ p ∈ ([(cc_law, PP_law)] : List (Addr × Addr)), LamX.TabB base mg p.1 p.2) => (⟨f__are_lengths, _, ["thing"], [], [], rfl, O__are_lengths base TBs, PySem.W.mg_of X G a__are_lengths, k__are_lengths, b_e__are_lengths, .nil, fun _ _ _ => rfl⟩ : FnE P w K mg base (tabT [C_ShareError, C_NoteError, C_NoNote, C_NoNotes, C_Leans, C_PriceError, C_NoKind, C_NoPrices, C_DayError, C_NoMonths, C_NoDay, C_NoPence, C_NoName, C_Missing, C_Twice, C_NoDeed, C_NoSheet, C_NoSteps, C_NoWishes, C_NoLine, C_TooMany, C_NoText, C_Months, 0, 0, 0, 0, 0, 0] [(PP_law, ((envOfC "law" (defScope st_law) 0 0 (.ref cc_law)).qual ++ "<lambda>"))]) "_are_lengths" 3 1 [] D__are_lengths)
  have F__all_places : FunD K "_all_places" "_all_places" (defArgs st__all_places) (defBody st__all_places) (defScope st__all_places) [] [] f__all_places _ := ⟨⟨_, _, _, _, _, _, _, _, _, _, rfl, l__all_places, c__all_places, (.inl ⟨rfl, rfl⟩), .inl rfl⟩, k__all_places⟩
  have O__all_places := fun (base : Heap) (TBs : ∀ p ∈ ([(cc_law, PP_law)] : List (Addr × Addr)), LamX.TabB base mg p.1 p.2) => ok__all_places (P := P) (w := w) (K := K) (mg := mg) (base := base) (T := (tabT [C_ShareError, C_NoteError, C_NoNote, C_NoNotes, C_Leans, C_PriceError, C_NoKind, C_NoPrices, C_DayError, C_NoMonths, C_NoDay, C_NoPence, C_NoName, C_Missing, C_Twice, C_NoDeed, C_NoSheet, C_NoSteps, C_NoWishes, C_NoLine, C_TooMany, C_NoText, C_Months, 0, 0, 0, 0, 0, 0] [(PP_law, ((envOfC "law" (defScope st_law) 0 0 (.ref cc_law)).qual ++ "<lambda>"))])) F__all_places z_range z_len
  have b_e__all_places : Binds K _ ["lengths"] [] := F__all_places.bindsN (ps := ["lengths"]) fun _ _ _ _ _ _ us hl => match us, hl with | [_], _ => rfl
  have e__all_places := fun (base : Heap) (TBs : ∀ p ∈ ([(cc_law, PP_law)] : List (Addr × Addr)), LamX.TabB base mg p.1 p.2) => (⟨f__all_places, _, ["lengths"], [], [], rfl, O__all_places base TBs, PySem.W.mg_of X G a__all_places, k__all_places, b_e__all_places, .nil, fun _ _ _ => rfl⟩ : FnE P w K mg base (tabT [C_ShareError, C_NoteError, C_NoNote, C_NoNotes, C_Leans, C_PriceError, C_NoKind, C_NoPrices, C_DayError, C_NoMonths, C_NoDay, C_NoPence, C_NoName, C_Missing, C_Twice, C_NoDeed, C_NoSheet, C_NoSteps, C_NoWishes, C_NoLine, C_TooMany, C_NoText, C_Months, 0, 0, 0, 0, 0, 0] [(PP_law, ((envOfC "law" (defScope st_law) 0 0 (.ref cc_law)).qual ++ "<lambda>"))]) "_all_places" 1 1 [] D__all_places)
  have F_Months___init__ : FunD K "__init__" "Months.__init__" (defArgs st_Months___init__) (defBody st_Months___init__) (defScope st_Months___init__) [] [] f_Months___init__ _ := ⟨⟨_, _, _, _, _, _, _, _, _, _, rfl, l_Months___init__, c_Months___init__, (.inl ⟨rfl, rfl⟩), .inl rfl⟩, k_Months___init__⟩
  have O_Months___init__ := fun (base : Heap) (TBs : ∀ p ∈ ([(cc_law, PP_law)] : List (Addr × Addr)), LamX.TabB base mg p.1 p.2) => ok_Months___init__ (P := P) (w := w) (K := K) (mg := mg) (base := base) (T := (tabT [C_ShareError, C_NoteError, C_NoNote, C_NoNotes, C_Leans, C_PriceError, C_NoKind, C_NoPrices, C_DayError, C_NoMonths, C_NoDay, C_NoPence, C_NoName, C_Missing, C_Twice, C_NoDeed, C_NoSheet, C_NoSteps, C_NoWishes, C_NoLine, C_TooMany, C_NoText, C_Months, 0, 0, 0, 0, 0, 0] [(PP_law, ((envOfC "law" (defScope st_law) 0 0 (.ref cc_law)).qual ++ "<lambda>"))])) F_Months___init__ (e__are_lengths base TBs) x_NoMonths cl_Months n_Months_lengths (e__all_places base TBs) n_Months_places
  have b_k_Months : Binds K _ ["self", "lengths"] [] := F_Months___init__.bindsN (ps := ["self", "lengths"]) fun _ _ _ _ _ _ us hl => match us, hl with | [_, _], _ => rfl
  have k_Months := fun (base : Heap) (TBs : ∀ p ∈ ([(cc_law, PP_law)] : List (Addr × Addr)), LamX.TabB base mg p.1 p.2) => (⟨f_Months___init__, _, ["self", "lengths"], [], [], rfl, O_Months___init__ base TBs, ⟨mk_Months, a_Months___init__, i_Months___init__, kc_Months⟩, gc_Months, b_k_Months, .nil, fun _ _ _ => rfl⟩ : MkE P w K mg base (tabT [C_ShareError, C_NoteError, C_NoNote, C_NoNotes, C_Leans, C_PriceError, C_NoKind, C_NoPrices, C_DayError, C_NoMonths, C_NoDay, C_NoPence, C_NoName, C_Missing, C_Twice, C_NoDeed, C_NoSheet, C_NoSteps, C_NoWishes, C_NoLine, C_TooMany, C_NoText, C_Months, 0, 0, 0, 0, 0, 0] [(PP_law, ((envOfC "law" (defScope st_law) 0 0 (.ref cc_law)).qual ++ "<lambda>"))]) 22 "Months" 4 2 [] D_Months___init__)
  have F_Months___len__ : FunD K "__len__" "Months.__len__" (defArgs st_Months___len__) (defBody st_Months___len__) (defScope st_Months___len__) [] [] f_Months___len__ _ := ⟨⟨_, _, _, _, _, _, _, _, _, _, rfl, l_Months___len__, c_Months___len__, (.inl ⟨rfl, rfl⟩), .inl rfl⟩, k_Months___len__⟩
  have O_Months___len__ := fun (base : Heap) (TBs : ∀ p ∈ ([(cc_law, PP_law)] : List (Addr × Addr)), LamX.TabB base mg p.1 p.2) => ok_Months___len__ (P := P) (w := w) (K := K) (mg := mg) (base := base) (T := (tabT [C_ShareError, C_NoteError, C_NoNote, C_NoNotes, C_Leans, C_PriceError, C_NoKind, C_NoPrices, C_DayError, C_NoMonths, C_NoDay, C_NoPence, C_NoName, C_Missing, C_Twice, C_NoDeed, C_NoSheet, C_NoSteps, C_NoWishes, C_NoLine, C_TooMany, C_NoText, C_Months, 0, 0, 0, 0, 0, 0] [(PP_law, ((envOfC "law" (defScope st_law) 0 0 (.ref cc_law)).qual ++ "<lambda>"))])) F_Months___len__ z_len cl_Months n_Months_places
  have b_m_Months___len__ : Binds K _ ["self"] [] := F_Months___len__.bindsN (ps := ["self"]) fun _ _ _ _ _ _ us hl => match us, hl with | [_], _ => rfl
  have m_Months___len__ := fun (base : Heap) (TBs : ∀ p ∈ ([(cc_law, PP_law)] : List (Addr × Addr)), LamX.TabB base mg p.1 p.2) => (⟨f_Months___len__, _, ["self"], [], [], rfl, O_Months___len__ base TBs, cl_Months, ⟨a_Months___len__, i_Months___len__, k_Months___len__⟩, b_m_Months___len__, .nil, fun _ _ _ => rfl⟩ : MtE P w K mg base (tabT [C_ShareError, C_NoteError, C_NoNote, C_NoNotes, C_Leans, C_PriceError, C_NoKind, C_NoPrices, C_DayError, C_NoMonths, C_NoDay, C_NoPence, C_NoName, C_Missing, C_Twice, C_NoDeed, C_NoSheet, C_NoSteps, C_NoWishes, C_NoLine, C_TooMany, C_NoText, C_Months, 0, 0, 0, 0, 0, 0] [(PP_law, ((envOfC "law" (defScope st_law) 0 0 (.ref cc_law)).qual ++ "<lambda>"))]) 22 "__len__" 1 1 [] D_Months___len__)
  have F_Months___repr__ : FunD K "__repr__" "Months.__repr__" (defArgs st_Months___repr__) (defBody st_Months___repr__) (defScope st_Months___repr__) [] [] f_Months___repr__ _ := ⟨⟨_, _, _, _, _, _, _, _, _, _, rfl, l_Months___repr__, c_Months___repr__, (.inl ⟨rfl, rfl⟩), .inl rfl⟩, k_Months___repr__⟩
  have O_Months___repr__ := fun (base : Heap) (TBs : ∀ p ∈ ([(cc_law, PP_law)] : List (Addr × Addr)), LamX.TabB base mg p.1 p.2) => ok_Months___repr__ (P := P) (w := w) (K := K) (mg := mg) (base := base) (T := (tabT [C_ShareError, C_NoteError, C_NoNote, C_NoNotes, C_Leans, C_PriceError, C_NoKind, C_NoPrices, C_DayError, C_NoMonths, C_NoDay, C_NoPence, C_NoName, C_Missing, C_Twice, C_NoDeed, C_NoSheet, C_NoSteps, C_NoWishes, C_NoLine, C_TooMany, C_NoText, C_Months, 0, 0, 0, 0, 0, 0] [(PP_law, ((envOfC "law" (defScope st_law) 0 0 (.ref cc_law)).qual ++ "<lambda>"))])) F_Months___repr__ cl_Months n_Months_lengths z_str
  have b_m_Months___repr__ : Binds K _ ["self"] [] := F_Months___repr__.bindsN (ps := ["self"]) fun _ _ _ _ _ _ us hl => match us, hl with | [_], _ => rfl
  have m_Months___repr__ := fun (base : Heap) (TBs : ∀ p ∈ ([(cc_law, PP_law)] : List (Addr × Addr)), LamX.TabB base mg p.1 p.2) => (⟨f_Months___repr__, _, ["self"], [], [], rfl, O_Months___repr__ base TBs, cl_Months, ⟨a_Months___repr__, i_Months___repr__, k_Months___repr__⟩, b_m_Months___repr__, .nil, fun _ _ _ => rfl⟩ : MtE P w K mg base (tabT [C_ShareError, C_NoteError, C_NoNote, C_NoNotes, C_Leans, C_PriceError, C_NoKind, C_NoPrices, C_DayError, C_NoMonths, C_NoDay, C_NoPence, C_NoName, C_Missing, C_Twice, C_NoDeed, C_NoSheet, C_NoSteps, C_NoWishes, C_NoLine, C_TooMany, C_NoText, C_Months, 0, 0, 0, 0, 0, 0] [(PP_law, ((envOfC "law" (defScope st_law) 0 0 (.ref cc_law)).qual ++ "<lambda>"))]) 22 "__repr__" 1 1 [] D_Months___repr__)
  have F_Months___str__ : FunD K "__str__" "Months.__str__" (defArgs st_Months___str__) (defBody st_Months___str__) (defScope st_Months___str__) [] [] f_Months___str__ _ := ⟨⟨_, _, _, _, _, _, _, _, _, _, rfl, l_Months___str__, c_Months___str__, (.inl ⟨rfl, rfl⟩), .inl rfl⟩, k_Months___str__⟩
  have O_Months___str__ := fun (base : Heap) (TBs : ∀ p ∈ ([(cc_law, PP_law)] : List (Addr × Addr)), LamX.TabB base mg p.1 p.2) => ok_Months___str__ (P := P) (w := w) (K := K) (mg := mg) (base := base) (T := (tabT [C_ShareError, C_NoteError, C_NoNote, C_NoNotes, C_Leans, C_PriceError, C_NoKind, C_NoPrices, C_DayError, C_NoMonths, C_NoDay, C_NoPence, C_NoName, C_Missing, C_Twice, C_NoDeed, C_NoSheet, C_NoSteps, C_NoWishes, C_NoLine, C_TooMany, C_NoText, C_Months, 0, 0, 0, 0, 0, 0] [(PP_law, ((envOfC "law" (defScope st_law) 0 0 (.ref cc_law)).qual ++ "<lambda>"))])) F_Months___str__ cl_Months n_Months_lengths z_str
  have b_m_Months___str__ : Binds K _ ["self"] [] := F_Months___str__.bindsN (ps := ["self"]) fun _ _ _ _ _ _ us hl => match us, hl with | [_], _ => rfl
  have m_Months___str__ := fun (base : Heap) (TBs : ∀ p ∈ ([(cc_law, PP_law)] : List (Addr × Addr)), LamX.TabB base mg p.1 p.2) => (⟨f_Months___str__, _, ["self"], [], [], rfl, O_Months___str__ base TBs, cl_Months, ⟨a_Months___str__, i_Months___str__, k_Months___str__⟩, b_m_Months___str__, .nil, fun _ _ _ => rfl⟩ : MtE P w K mg base (tabT [C_ShareError, C_NoteError, C_NoNote, C_NoNotes, C_Leans, C_PriceError, C_NoKind, C_NoPrices, C_DayError, C_NoMonths, C_NoDay, C_NoPence, C_NoName, C_Missing, C_Twice, C_NoDeed, C_NoSheet, C_NoSteps, C_NoWishes, C_NoLine, C_TooMany, C_NoText, C_Months, 0, 0, 0, 0, 0, 0] [(PP_law, ((envOfC "law" (defScope st_law) 0 0 (.ref cc_law)).qual ++ "<lambda>"))]) 22 "__str__" 1 1 [] D_Months___str__)
  have F_Months_all_lengths : FunD K "all_lengths" "Months.all_lengths" (defArgs st_Months_all_lengths) (defBody st_Months_all_lengths) (defScope st_Months_all_lengths) [] [] f_Months_all_lengths _ := ⟨⟨_, _, _, _, _, _, _, _, _, _, rfl, l_Months_all_lengths, c_Months_all_lengths, (.inl ⟨rfl, rfl⟩), .inl rfl⟩, k_Months_all_lengths⟩
  have O_Months_all_lengths := fun (base : Heap) (TBs : ∀ p ∈ ([(cc_law, PP_law)] : List (Addr × Addr)), LamX.TabB base mg p.1 p.2) => ok_Months_all_lengths (P := P) (w := w) (K := K) (mg := mg) (base := base) (T := (tabT [C_ShareError, C_NoteError, C_NoNote, C_NoNotes, C_Leans, C_PriceError, C_NoKind, C_NoPrices, C_DayError, C_NoMonths, C_NoDay, C_NoPence, C_NoName, C_Missing, C_Twice, C_NoDeed, C_NoSheet, C_NoSteps, C_NoWishes, C_NoLine, C_TooMany, C_NoText, C_Months, 0, 0, 0, 0, 0, 0] [(PP_law, ((envOfC "law" (defScope st_law) 0 0 (.ref cc_law)).qual ++ "<lambda>"))])) F_Months_all_lengths cl_Months n_Months_lengths
  have b_m_Months_all_lengths : Binds K _ ["self"] [] := F_Months_all_lengths.bindsN (ps := ["self"]) fun _ _ _ _ _ _ us hl => match us, hl with | [_], _ => rfl
  have m_Months_all_lengths := fun (base : Heap) (TBs : ∀ p ∈ ([(cc_law, PP_law)] : List (Addr × Addr)), LamX.TabB base mg p.1 p.2) => (⟨f_Months_all_lengths, _, ["self"], [], [], rfl, O_Months_all_lengths base TBs, cl_Months, ⟨a_Months_all_lengths, i_Months_all_lengths, k_Months_all_lengths⟩, b_m_Months_all_lengths, .nil, fun _ _ _ => rfl⟩ : MtE P w K mg base (tabT [C_ShareError, C_NoteError, C_NoNote, C_NoNotes, C_Leans, C_PriceError, C_NoKind, C_NoPrices, C_DayError, C_NoMonths, C_NoDay, C_NoPence, C_NoName, C_Missing, C_Twice, C_NoDeed, C_NoSheet, C_NoSteps, C_NoWishes, C_NoLine, C_TooMany, C_NoText, C_Months, 0, 0, 0, 0, 0, 0] [(PP_law, ((envOfC "law" (defScope st_law) 0 0 (.ref cc_law)).qual ++ "<lambda>"))]) 22 "all_lengths" 1 1 [] D_Months_all_lengths)
  have F_Months___eq__ : FunD K "__eq__" "Months.__eq__" (defArgs st_Months___eq__) (defBody st_Months___eq__) (defScope st_Months___eq__) [] [] f_Months___eq__ _ := ⟨⟨_, _, _, _, _, _, _, _, _, _, rfl, l_Months___eq__, c_Months___eq__, (.inl ⟨rfl, rfl⟩), .inl rfl⟩, k_Months___eq__⟩
  have O_Months___eq__ := fun (base : Heap) (TBs : ∀ p ∈ ([(cc_law, PP_law)] : List (Addr × Addr)), LamX.TabB base mg p.1 p.2) => ok_Months___eq__ (P := P) (w := w) (K := K) (mg := mg) (base := base) (T := (tabT [C_ShareError, C_NoteError, C_NoNote, C_NoNotes, C_Leans, C_PriceError, C_NoKind, C_NoPrices, C_DayError, C_NoMonths, C_NoDay, C_NoPence, C_NoName, C_Missing, C_Twice, C_NoDeed, C_NoSheet, C_NoSteps, C_NoWishes, C_NoLine, C_TooMany, C_NoText, C_Months, 0, 0, 0, 0, 0, 0] [(PP_law, ((envOfC "law" (defScope st_law) 0 0 (.ref cc_law)).qual ++ "<lambda>"))])) F_Months___eq__ z_isinstance gc_Months hisi cl_Months n_Months_lengths
  have b_m_Months___eq__ : Binds K _ ["self", "other"] [] := F_Months___eq__.bindsN (ps := ["self", "other"]) fun _ _ _ _ _ _ us hl => match us, hl with | [_, _], _ => rfl
  have m_Months___eq__ := fun (base : Heap) (TBs : ∀ p ∈ ([(cc_law, PP_law)] : List (Addr × Addr)), LamX.TabB base mg p.1 p.2) => (⟨f_Months___eq__, _, ["self", "other"], [], [], rfl, O_Months___eq__ base TBs, cl_Months, ⟨a_Months___eq__, i_Months___eq__, k_Months___eq__⟩, b_m_Months___eq__, .nil, fun _ _ _ => rfl⟩ : MtE P w K mg base (tabT [C_ShareError, C_NoteError, C_NoNote, C_NoNotes, C_Leans, C_PriceError, C_NoKind, C_NoPrices, C_DayError, C_NoMonths, C_NoDay, C_NoPence, C_NoName, C_Missing, C_Twice, C_NoDeed, C_NoSheet, C_NoSteps, C_NoWishes, C_NoLine, C_TooMany, C_NoText, C_Months, 0, 0, 0, 0, 0, 0] [(PP_law, ((envOfC "law" (defScope st_law) 0 0 (.ref cc_law)).qual ++ "<lambda>"))]) 22 "__eq__" 1 2 [] D_Months___eq__)
  have F__law_right : FunD K "_law_right" "_law_right" (defArgs st__law_right) (defBody st__law_right) (defScope st__law_right) [] [] f__law_right _ := ⟨⟨_, _, _, _, _, _, _, _, _, _, rfl, l__law_right, c__law_right, (.inl ⟨rfl, rfl⟩), .inl rfl⟩, k__law_right⟩
  have O__law_right := fun (base : Heap) (TBs : ∀ p ∈ ([(cc_law, PP_law)] : List (Addr × Addr)), LamX.TabB base mg p.1 p.2) => ok__law_right (P := P) (w := w) (K := K) (mg := mg) (base := base) (T := (tabT [C_ShareError, C_NoteError, C_NoNote, C_NoNotes, C_Leans, C_PriceError, C_NoKind, C_NoPrices, C_DayError, C_NoMonths, C_NoDay, C_NoPence, C_NoName, C_Missing, C_Twice, C_NoDeed, C_NoSheet, C_NoSteps, C_NoWishes, C_NoLine, C_TooMany, C_NoText, C_Months, 0, 0, 0, 0, 0, 0] [(PP_law, ((envOfC "law" (defScope st_law) 0 0 (.ref cc_law)).qual ++ "<lambda>"))])) F__law_right (k_Months base TBs) z_str z_len (m_Months___len__ base TBs) z_repr (m_Months___repr__ base TBs) (m_Months___str__ base TBs) z_sum (m_Months_all_lengths base TBs) (m_Months___eq__ base TBs) hisi nn_Months (cd := cd__law_right) rfl
  have b_e__law_right : Binds K _ ["_law_lengths_here"] [] := F__law_right.bindsN (ps := ["_law_lengths_here"]) fun _ _ _ _ _ _ us hl => match us, hl with | [_], _ => rfl
  have e__law_right := fun (base : Heap) (TBs : ∀ p ∈ ([(cc_law, PP_law)] : List (Addr × Addr)), LamX.TabB base mg p.1 p.2) => (⟨f__law_right, _, ["_law_lengths_here"], [], [], rfl, O__law_right base TBs, PySem.W.mg_of X G a__law_right, k__law_right, b_e__law_right, .nil, fun _ _ _ => rfl⟩ : FnEG P w K mg base (tabT [C_ShareError, C_NoteError, C_NoNote, C_NoNotes, C_Leans, C_PriceError, C_NoKind, C_NoPrices, C_DayError, C_NoMonths, C_NoDay, C_NoPence, C_NoName, C_Missing, C_Twice, C_NoDeed, C_NoSheet, C_NoSteps, C_NoWishes, C_NoLine, C_TooMany, C_NoText, C_Months, 0, 0, 0, 0, 0, 0] [(PP_law, ((envOfC "law" (defScope st_law) 0 0 (.ref cc_law)).qual ++ "<lambda>"))]) "_law_right" 6 1 [] D__law_right)
  have F_law : FunD K "law" "law" (defArgs st_law) (defBody st_law) (defScope st_law) [] [] fa _ := ⟨⟨_, _, _, _, _, _, _, _, _, _, rfl, l_law, c_law, (.inl ⟨rfl, rfl⟩), .inl rfl⟩, k_law⟩
  have O_law := fun (base : Heap) (TBs : ∀ p ∈ ([(cc_law, PP_law)] : List (Addr × Addr)), LamX.TabB base mg p.1 p.2) => ok_law (P := P) (w := w) (K := K) (mg := mg) (base := base) (T := (tabT [C_ShareError, C_NoteError, C_NoNote, C_NoNotes, C_Leans, C_PriceError, C_NoKind, C_NoPrices, C_DayError, C_NoMonths, C_NoDay, C_NoPence, C_NoName, C_Missing, C_Twice, C_NoDeed, C_NoSheet, C_NoSteps, C_NoWishes, C_NoLine, C_TooMany, C_NoText, C_Months, 0, 0, 0, 0, 0, 0] [(PP_law, ((envOfC "law" (defScope st_law) 0 0 (.ref cc_law)).qual ++ "<lambda>"))])) F_law (e__law_cell_at base TBs) (e__law_pen_of base TBs) (e__law_lengths base TBs) (e__law_right base TBs) (e__law_draw base TBs) z_len z_list (W__law_word base TBs) (k_Months base TBs) (cd := .ref cc_law) rfl ⟨cc_law, PP_law, rfl, TBs (cc_law, PP_law) (by simp), by simp [tabT], fun p hp e => un p hp (PP_law, _) (by simp [tabT]) e⟩
  exact ⟨_, ([(cc_law, PP_law)] : List (Addr × Addr)), spLawT K (tabT [C_ShareError, C_NoteError, C_NoNote, C_NoNotes, C_Leans, C_PriceError, C_NoKind, C_NoPrices, C_DayError, C_NoMonths, C_NoDay, C_NoPence, C_NoName, C_Missing, C_Twice, C_NoDeed, C_NoSheet, C_NoSteps, C_NoWishes, C_NoLine, C_TooMany, C_NoText, C_Months, 0, 0, 0, 0, 0, 0] [(PP_law, ((envOfC "law" (defScope st_law) 0 0 (.ref cc_law)).qual ++ "<lambda>"))]).tb, List.forall_mem_cons.mpr ⟨q5_law, (fun _ hp => nomatch hp)⟩, List.forall_mem_cons.mpr ⟨q4_law, (fun _ hp => nomatch hp)⟩, List.forall_mem_cons.mpr ⟨q3_law, (fun _ hp => nomatch hp)⟩, fun s v => F_law.bindsA (ps := ["_law_script"]) (fun _ _ _ _ _ _ us hl => match us, hl with | [_], _ => rfl) s [v] rfl, fun H a ns hl hT hS => ⟨a, ns, rfl, hS, hl, fun p hp => by
    simp only [tab, tabT, List.mem_cons, List.not_mem_nil, or_false] at hp
    subst hp; exact hT (cc_law, PP_law) (by simp), fun _ => rfl⟩, fun base _ _ TBs => law_okG (O_law base TBs) law_true⟩
end Q_k01
open PySem PySem.W PyProof.Rows
set_option maxRecDepth 100000 in
set_option maxHeartbeats 0 in
theorem PySem.Challenge.cw_dayshares_k01_months_known_holds : PySem.Challenge.rw_dayshares_k01_months_known.Holds := by
  w_on; o_law; k_head; (case hw => w_witness2)
  k_fill
  refine Dn.walkG (l := PySem.Challenge.rw_dayshares_k01_months_known) (n := 63) (k := 9) (x := "_law_script") rfl (by decide) rfl ⟨rfl, by decide, by decide⟩ (fun w h Y => PySem.W.km_in_of Y) ?F
  case F =>
    intro w mg fa h Y KX G hmg
    refine' Q_k01.all_mk KX G hmg ?aC_ShareError ?aC_NoteError ?aC_NoNote ?aC_NoNotes ?aC_Leans ?aC_PriceError ?aC_NoKind ?aC_NoPrices ?aC_DayError ?aC_NoMonths ?aC_NoDay ?aC_NoPence ?aC_NoName ?aC_Missing ?aC_Twice ?aC_NoDeed ?aC_NoSheet ?aC_NoSteps ?aC_NoWishes ?aC_NoLine ?aC_TooMany ?aC_NoText ?aC_Months ?pg_Months ?hd_Months ?po_Months ?sa_Months ?mk_Months ?kc_Months ?kx_NoMonths ?ex_NoMonths ?bx_NoMonths ?tx_NoMonths ?y_len ?y_max ?y_int ?y_tuple ?y_range ?y_isinstance ?y_bool ?y_all ?w_Months_lengths ?w_Months_places ?y_str ?y_repr ?y_sum ?w1_Months ?w2_Months ?w3_Months ?w4_Months ?y_list ?y_ValueError ?y_LookupError ?y_TypeError ?y_ArithmeticError ?y_RuntimeError ?oX_ ?ta_Months ?tm_Months ?tn_ ?tt_ ?a__law_flags ?l__law_flags ?c__law_flags ?k__law_flags ?a__law_word ?l__law_word ?c__law_word ?k__law_word ?a__law_cell_at ?l__law_cell_at ?c__law_cell_at ?k__law_cell_at ?a__law_pen_of ?l__law_pen_of ?c__law_pen_of ?k__law_pen_of ?a__law_next ?l__law_next ?c__law_next ?k__law_next ?a__law_draw ?l__law_draw ?c__law_draw ?k__law_draw ?a__law_lengths ?l__law_lengths ?c__law_lengths ?k__law_lengths ?a_is_tuple_of ?l_is_tuple_of ?c_is_tuple_of ?k_is_tuple_of ?a_is_whole ?l_is_whole ?c_is_whole ?k_is_whole ?a_is_within ?l_is_within ?c_is_within ?k_is_within ?a__are_lengths ?l__are_lengths ?c__are_lengths ?k__are_lengths ?a__all_places ?l__all_places ?c__all_places ?k__all_places ?a_Months___init__ ?i_Months___init__ ?l_Months___init__ ?c_Months___init__ ?k_Months___init__ ?a_Months___len__ ?i_Months___len__ ?l_Months___len__ ?c_Months___len__ ?k_Months___len__ ?a_Months___repr__ ?i_Months___repr__ ?l_Months___repr__ ?c_Months___repr__ ?k_Months___repr__ ?a_Months___str__ ?i_Months___str__ ?l_Months___str__ ?c_Months___str__ ?k_Months___str__ ?a_Months_all_lengths ?i_Months_all_lengths ?l_Months_all_lengths ?c_Months_all_lengths ?k_Months_all_lengths ?a_Months___eq__ ?i_Months___eq__ ?l_Months___eq__ ?c_Months___eq__ ?k_Months___eq__ ?a__law_right ?l__law_right ?c__law_right ?k__law_right ?a_law ?l_law ?c_law ?q1_law ?q2_law ?q3_law ?q4_law ?q5_law ?k_law ?kX_ ?eX_ ?mX_ ?un
    (case aC_ShareError => k_is)
    (case aC_NoteError => k_is)
    (case aC_NoNote => k_is)
    (case aC_NoNotes => k_is)
    (case aC_Leans => k_is)
    (case aC_PriceError => k_is)
    (case aC_NoKind => k_is)
    (case aC_NoPrices => k_is)
    (case aC_DayError => k_is)
    (case aC_NoMonths => k_is)
    (case aC_NoDay => k_is)
    (case aC_NoPence => k_is)
    (case aC_NoName => k_is)
    (case aC_Missing => k_is)
    (case aC_Twice => k_is)
    (case aC_NoDeed => k_is)
    (case aC_NoSheet => k_is)
    (case aC_NoSteps => k_is)
    (case aC_NoWishes => k_is)
    (case aC_NoLine => k_is)
    (case aC_TooMany => k_is)
    (case aC_NoText => k_is)
    (case aC_Months => k_is)
    (case pg_Months => k_is)
    (case hd_Months => k_is)
    (case po_Months => k_is)
    (case sa_Months => k_is)
    (case mk_Months => k_is)
    (case kc_Months => k_is)
    (case kx_NoMonths => k_is)
    (case ex_NoMonths => k_exc)
    (case bx_NoMonths => k_is)
    (case tx_NoMonths => k_is)
    (case y_len => k_is)
    (case y_max => k_is)
    (case y_int => k_is)
    (case y_tuple => k_is)
    (case y_range => k_is)
    (case y_isinstance => k_is)
    (case y_bool => k_is)
    (case y_all => k_is)
    (case w_Months_lengths => k_is)
    (case w_Months_places => k_is)
    (case y_str => k_is)
    (case y_repr => k_is)
    (case y_sum => k_is)
    (case w1_Months => k_is)
    (case w2_Months => k_is)
    (case w3_Months => k_is)
    (case w4_Months => k_is)
    (case y_list => k_is)
    (case y_ValueError => k_is)
    (case y_LookupError => k_is)
    (case y_TypeError => k_is)
    (case y_ArithmeticError => k_is)
    (case y_RuntimeError => k_is)
    (case oX_ => kernel_rfl)
    (case ta_Months => k_is)
    (case tm_Months => k_is)
    (case tn_ => k_is)
    (case tt_ => k_is)
    (case a__law_flags => k_is)
    (case l__law_flags => k_is)
    (case c__law_flags => k_is)
    (case k__law_flags => k_is)
    (case a__law_word => k_is)
    (case l__law_word => k_is)
    (case c__law_word => k_is)
    (case k__law_word => k_is)
    (case a__law_cell_at => k_is)
    (case l__law_cell_at => k_is)
    (case c__law_cell_at => k_is)
    (case k__law_cell_at => k_is)
    (case a__law_pen_of => k_is)
    (case l__law_pen_of => k_is)
    (case c__law_pen_of => k_is)
    (case k__law_pen_of => k_is)
    (case a__law_next => k_is)
    (case l__law_next => k_is)
    (case c__law_next => k_is)
    (case k__law_next => k_is)
    (case a__law_draw => k_is)
    (case l__law_draw => k_is)
    (case c__law_draw => k_is)
    (case k__law_draw => k_is)
    (case a__law_lengths => k_is)
    (case l__law_lengths => k_is)
    (case c__law_lengths => k_is)
    (case k__law_lengths => k_is)
    (case a_is_tuple_of => k_is)
    (case l_is_tuple_of => k_is)
    (case c_is_tuple_of => k_is)
    (case k_is_tuple_of => k_is)
    (case a_is_whole => k_is)
    (case l_is_whole => k_is)
    (case c_is_whole => k_is)
    (case k_is_whole => k_is)
    (case a_is_within => k_is)
    (case l_is_within => k_is)
    (case c_is_within => k_is)
    (case k_is_within => k_is)
    (case a__are_lengths => k_is)
    (case l__are_lengths => k_is)
    (case c__are_lengths => k_is)
    (case k__are_lengths => k_is)
    (case a__all_places => k_is)
    (case l__all_places => k_is)
    (case c__all_places => k_is)
    (case k__all_places => k_is)
    (case a_Months___init__ => k_is)
    (case i_Months___init__ => k_is)
    (case l_Months___init__ => k_is)
    (case c_Months___init__ => k_is)
    (case k_Months___init__ => k_is)
    (case a_Months___len__ => k_is)
    (case i_Months___len__ => k_is)
    (case l_Months___len__ => k_is)
    (case c_Months___len__ => k_is)
    (case k_Months___len__ => k_is)
    (case a_Months___repr__ => k_is)
    (case i_Months___repr__ => k_is)
    (case l_Months___repr__ => k_is)
    (case c_Months___repr__ => k_is)
    (case k_Months___repr__ => k_is)
    (case a_Months___str__ => k_is)
    (case i_Months___str__ => k_is)
    (case l_Months___str__ => k_is)
    (case c_Months___str__ => k_is)
    (case k_Months___str__ => k_is)
    (case a_Months_all_lengths => k_is)
    (case i_Months_all_lengths => k_is)
    (case l_Months_all_lengths => k_is)
    (case c_Months_all_lengths => k_is)
    (case k_Months_all_lengths => k_is)
    (case a_Months___eq__ => k_is)
    (case i_Months___eq__ => k_is)
    (case l_Months___eq__ => k_is)
    (case c_Months___eq__ => k_is)
    (case k_Months___eq__ => k_is)
    (case a__law_right => k_is)
    (case l__law_right => k_is)
    (case c__law_right => k_is)
    (case k__law_right => k_is)
    (case a_law => k_is)
    (case l_law => k_is)
    (case c_law => k_is)
    (case q1_law => k_is)
    (case q2_law => rfl)
    (case q3_law => kernel_rfl)
    (case q4_law => kernel_rfl)
    (case q5_law => exact PySem.W.km_tabs_of Y _ (by k_mem))
    (case k_law => k_is)
    (case kX_ => kernel_rfl)
    (case eX_ => kernel_rfl)
    (case mX_ => kernel_rfl)
    (case un => decide +kernel)
